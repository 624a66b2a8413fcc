import PyProof.Rows.All
import Wide.All
import OpenK.AllK
import Wide.FinOn
import HandS.ForMost
import HandS.IsInst
import HandS.TupAny
import HandS.TupMul
import HandS.Conv
import HandS.Style
import HandS.Flow
import HandS.Codes
import HandS.Zip
import KE.GoesNew
import HandS.Lambda
import HandS.EndTab
import HandS.ExcInit
import HandS.ExcField
import HandS.ExcIs
import HandS.HotCalls
import HandS.TryOnly
import HandS.WordsExc
import HandS.ExcOwn
import HandS.Small
import HandS.FStr
import KE.KExcIs
import HandS.SetFor
import HandS.Strs
import KE.KDictZip
import HandS.SortKw
import KE.DataMinMax
import HandS.Flt
import HandS.RaiseMore
import HandS.StrMore
import PySem.Challenge.RW_lanternrows_k14_refusals_of_the_first_st
set_option Elab.async false
set_option linter.all false
set_option maxRecDepth 100000
set_option maxHeartbeats 4000000
namespace Lan
open PySem PySem.Spec PyProof.Rows L2
/-! ### short rules -/
def bkV : Option Int → V
  | none => .non
  | some i => .int i
structure Cl (P : Program) (w : World) (K : PySem.W.Frag) (mg : Str → Option Value) (base : Heap) (k : Nat) (x : Str) (ps : List Str) (sp : Sp) : Prop where
  ex : ∃ (f : Addr) (fd : FuncData), FnOk P w K mg base CX0 k f fd ps sp ∧ PySem.W.keepIn K (.ref f) = true ∧ Binds K fd ps [] ∧ mg x = some (.ref f)
section
variable {X : Cx}
theorem pe_gint {x : Str} {pos : Pos} {n : Int} (hg : Gl X x) (h : ∃ t, X.mg x = some (.int n t)) (hd : (x == ("__debug__" : Str)) = false := by decide) : PE X (.Name x pos) (tC (.int n)) := by
  obtain ⟨t, h⟩ := h
  exact pe_glob hg h ⟨_, rfl⟩ hd
theorem pe_own {k : Nat} {x : Str} {ps : List Str} {sp : Sp} {e : Expr} {es : List Expr} {t : TA} {p pos : Pos} (C : Cl X.prog X.w X.K X.mg X.base k x ps sp) (hr : Room k X.A) (hg : Gl X x) (ha : PA X (e :: es) t)
    (hdb : (x == ("__debug__" : Str)) = false := by decide) (he : starEach (e :: es) X.env = (false, eval e X.env) :: starEach es X.env := by rfl) (hpl : (backTo pos (starEach es X.env)).any (·.1) = false := by rfl) :
    PE X (.Call (.Name x p) (e :: es) [] pos) (tCall sp [] E0 t) := by
  obtain ⟨f, fd, F, hk, hb, hm⟩ := C.ex
  exact pe_call F hr hg hm hk hb .nil pass0 ha hdb he hpl
def tPartN (t : TE) : TO := fun σ H Q => t σ H fun x H1 => ∃ o : Option Int, x = bkV o ∧ Q o H1
theorem po_opt {e : Expr} {te : TE} (h : PE X e te) : PO X (some e) (tPartN te) := by
  refine ⟨fun pins s σ H Q I hw => ?_⟩
  rw [evalPart_some]
  refine thn (h.run pins s σ H _ I hw) fun u s1 ⟨x, H1, I1, r1, q1⟩ => ?_
  obtain ⟨o, rfl, q⟩ := q1
  cases o with
  | none =>
    cases r1
    exact ⟨none, H1, I1, .none, q⟩
  | some i =>
    obtain ⟨t, rfl⟩ := r1
    exact ⟨some i, H1, I1, .int i t, q⟩
end
/-! ### heaps -/
theorem same_upd {H : Hp} {p : Addr} {o : HO} (h : H p = none) : Same H (upd H p o) := fun b x e => by
  rw [upd_ne (ne_of_none e h)]
  exact e
theorem new_at {H : Hp} {p : Addr} (o : HO) (h : H p = none) : Same H (upd H p o) ∧ (upd H p o) p = some o := ⟨same_upd h, upd_same⟩
theorem Same.sqT {K : PySem.W.Frag} {H H' : Hp} {a : Addr} {xs : List V} (e : Same H H') (h : SqT K H a xs) : SqT K H' a xs := by
  rcases h with (h | ⟨o, h⟩) | h
  · exact .inl (.inl (e _ _ h))
  · exact .inl (.inr ⟨o, e _ _ h⟩)
  · exact .inr h
def IsSt (H : Hp) (st : Addr) : Prop := ∃ a b : Int, H st = some (.lst [.int a, .int b]) ∧ 0 ≤ a ∧ 0 ≤ b ∧ b < 2147483647
/-- all but the state at st stands, and st holds a state as before -/
def Gr (st : Addr) (H H' : Hp) : Prop := (∀ b o, b ≠ st → H b = some o → H' b = some o) ∧ (IsSt H st → IsSt H' st)
theorem Gr.refl {st : Addr} {H : Hp} : Gr st H H := ⟨fun _ _ _ h => h, id⟩
theorem Gr.trans {st : Addr} {H H1 H2 : Hp} (a : Gr st H H1) (b : Gr st H1 H2) : Gr st H H2 := ⟨fun c o n h => b.1 c o n (a.1 c o n h), fun h => b.2 (a.2 h)⟩
theorem gr_same {st : Addr} {H H' : Hp} (s : Same H H') : Gr st H H' := ⟨fun b o _ h => s b o h, fun ⟨a, b, h, r⟩ => ⟨a, b, s _ _ h, r⟩⟩
theorem gr_set {st : Addr} {H : Hp} {a b : Int} (h0 : 0 ≤ a) (h1 : 0 ≤ b) (h2 : b < 2147483647) : Gr st H (upd H st (.lst [.int a, .int b])) :=
  ⟨fun c o n h => by rw [upd_ne n]; exact h, fun _ => ⟨a, b, upd_same, h0, h1, h2⟩⟩
theorem Gr.sqT {st : Addr} {K : PySem.W.Frag} {H H' : Hp} {a : Addr} {xs : List V} (g : Gr st H H') (s : IsSt H st) (h : SqT K H a xs) : SqT K H' a xs := by
  obtain ⟨u, v, hs, _⟩ := s
  rcases h with (h | ⟨o, h⟩) | h
  · exact .inl (.inl (g.1 _ _ (ne_of h hs (by intro z; cases z)) h))
  · exact .inl (.inr ⟨o, g.1 _ _ (ne_of h hs (by intro z; cases z)) h⟩)
  · exact .inr h
/-- behind a state that was not there before -/
theorem Gr.same {st : Addr} {H H1 H2 : Hp} (g : Gr st H1 H2) (s : Same H H1) (n : H st = none) : Same H H2 := fun b o h => g.1 b o (ne_of_none h n) (s b o h)
theorem tyT {K : PySem.W.Frag} {H : Hp} {a : Addr} {xs : List V} (h : SqT K H a xs) : TyX K H (.ref a) (.type "tuple") := by
  rcases h with (h | ⟨o, h⟩) | ⟨o, its, n, h, c, _⟩
  · exact .base (.tup h)
  · exact .fTuple h
  · exact .kTuple h c
theorem yes_ok {σ : L2.St} {H : Hp} {te : TE} {R : VK} {Z : Hp → Prop} (h : te σ H R) : tYes σ H (fun b H3 => if b = true then te σ H3 R else Z H3) := by
  show if true = true then te σ H R else Z H
  rw [if_pos rfl]
  exact h
/-! ### comprehensions that make one value an item and leave the heap -/
theorem lcmap_tup {K : PySem.W.Frag} {a : Addr} {xs : List V} {g : TG} {tt : TT} {te : TE} {vs : List Nat} {σ : L2.St} {H1 : Hp} {D : Addr} {Qd : Hp → Prop} (ys : List V) (hl : ys.length = xs.length) (hz : xs.length ≤ 1000) (hS : SqT K H1 a xs) (hD : H1 D = none)
    (hs : ∀ (i : Nat) (x y : V) (H : Hp) (R : V → Hp → Prop) (Z : Hp → Prop), xs[i]? = some x → ys[i]? = some y → Same H1 H → (∀ H4, Same H H4 → R y H4) → g x (wipe σ vs) H fun σ2 H2 => wipe σ2 vs = wipe σ vs ∧ tt σ2 H2 fun b H3 => if b = true then te σ2 H3 R else Z H3)
    (hd : ∀ H, Same H1 H → H D = some (.lst ys) → Qd H) :
    ∃ W : Nat → Nat → Hp → Prop, (∃ m, W 0 m (upd H1 D (.lst []))) ∧ ∀ i m H, W i m H →
      ((Itt K a).stop i H ∧ Qd H) ∨ ((Itt K a).go i H ∧ ∃ Nx : Hp → Prop, (∀ H', Nx H' → ∃ m', m' < m ∧ W (i + 1) m' H') ∧ ∀ x H', (Itt K a).yld i H x H' → g x (wipe σ vs) H' fun σ2 H2 => wipe σ2 vs = wipe σ vs ∧ tt σ2 H2 fun b H3 =>
        if b = true then te σ2 H3 fun y H4 => ∃ acc, H4 D = some (.lst acc) ∧ acc.length < sizeLine ∧ Nx (upd H4 D (.lst (acc ++ [y]))) else Nx H3) := by
  refine lc_tup (K := K) (a := a) (xs := xs) (fun i H => Same H1 H ∧ H D = some (.lst (ys.take i))) ⟨same_upd hD, upd_same⟩ (fun i H _ p => Same.sqT p.1 hS) (fun i x H hx p => ?_) (fun H p => ?_)
  · have hi : i < xs.length := (List.getElem?_eq_some_iff.mp hx).1
    obtain ⟨y, hy⟩ : ∃ y, ys[i]? = some y := ⟨_, List.getElem?_eq_getElem (by omega)⟩
    refine hs i x y H _ _ hx hy p.1 (fun H4 s4 => ⟨ys.take i, s4 _ _ p.2, ?_, ?_, ?_⟩)
    · rw [List.length_take]
      exact Nat.lt_of_le_of_lt (Nat.min_le_left _ _) (small1000 (by omega))
    · intro b o e
      rw [upd_ne (ne_of_none e hD)]
      exact s4 _ _ (p.1 _ _ e)
    · rw [upd_same, List.take_add_one, hy]
      rfl
  · refine hd H p.1 ?_
    rw [p.2, List.take_of_length_le (by omega)]
/-! ### paired lists -/
theorem Paired.mono {α β : Type} {F G : α → β → Prop} {l₁ : List α} {l₂ : List β} (p : Paired F l₁ l₂) (f : ∀ a b, F a b → G a b) : Paired G l₁ l₂ := Paired.mapP p f
theorem Paired.takeP {α β : Type} {F : α → β → Prop} : ∀ {l₁ : List α} {l₂ : List β} (n : Nat), Paired F l₁ l₂ → Paired F (l₁.take n) (l₂.take n)
  | _, _, 0, _ => .nil
  | _, _, _ + 1, .nil => .nil
  | _, _, n + 1, .cons r t => .cons r (Paired.takeP n t)
theorem Paired.dropP {α β : Type} {F : α → β → Prop} : ∀ {l₁ : List α} {l₂ : List β} (n : Nat), Paired F l₁ l₂ → Paired F (l₁.drop n) (l₂.drop n)
  | _, _, 0, p => p
  | _, _, _ + 1, .nil => .nil
  | _, _, n + 1, .cons _ t => Paired.dropP n t
theorem Paired.at {α β : Type} {F : α → β → Prop} : ∀ {l₁ : List α} {l₂ : List β} {i : Nat} {x : α}, Paired F l₁ l₂ → l₁[i]? = some x → ∃ y, l₂[i]? = some y ∧ F x y
  | _, _, i, x, .nil, h => by simp at h
  | _, _, 0, x, .cons (a := a) r t, h => by
    have e : _ = x := Option.some.inj h
    subst e
    exact ⟨_, rfl, r⟩
  | _, _, i + 1, x, .cons r t, h => Paired.at (i := i) t h
theorem Paired.at2 {α β : Type} {F : α → β → Prop} : ∀ {l₁ : List α} {l₂ : List β} {i : Nat} {y : β}, Paired F l₁ l₂ → l₂[i]? = some y → ∃ x, l₁[i]? = some x ∧ F x y
  | _, _, i, y, .nil, h => by simp at h
  | _, _, 0, y, .cons r t, h => by
    have e : _ = y := Option.some.inj h
    subst e
    exact ⟨_, rfl, r⟩
  | _, _, i + 1, y, .cons r t, h => Paired.at2 (i := i) t h
theorem Paired.snocP {α β : Type} {F : α → β → Prop} : ∀ {l₁ : List α} {l₂ : List β} {x : α} {y : β}, Paired F l₁ l₂ → F x y → Paired F (l₁ ++ [x]) (l₂ ++ [y])
  | _, _, _, _, .nil, h => .cons h .nil
  | _, _, _, _, .cons r t, h => .cons r (Paired.snocP t h)
/-! ### rows, layers as they lie in the heap -/
abbrev RW := Int × Int
def RowAt (K : PySem.W.Frag) (H : Hp) (v : V) (r : RW) : Prop := ∃ p, v = .ref p ∧ SqT K H p [.int r.1, .int r.2]
def RowsAt (K : PySem.W.Frag) (H : Hp) (v : V) (rs : List RW) : Prop := ∃ p vs, v = .ref p ∧ SqT K H p vs ∧ Paired (RowAt K H) vs rs
def LayAt (K : PySem.W.Frag) (H : Hp) (v : V) (rs : List RW) (bk : Option Int) : Prop := ∃ p rv, v = .ref p ∧ SqT K H p [rv, bkV bk] ∧ RowsAt K H rv rs
def VRow (r : RW) : Prop := 0 ≤ r.1 ∧ r.1 ≤ 9 ∧ 1 ≤ r.2 ∧ r.2 ≤ 24
def VRows (rs : List RW) : Prop := rs.length ≤ 8 ∧ ∀ r ∈ rs, VRow r
def VBack (rs : List RW) (bk : Option Int) : Prop := ∀ i, bk = some i → 0 ≤ i ∧ i < rs.length
abbrev TKeep (K : PySem.W.Frag) (H H' : Hp) : Prop := ∀ a xs, SqT K H a xs → SqT K H' a xs
theorem Same.tk {K : PySem.W.Frag} {H H' : Hp} (s : Same H H') : TKeep K H H' := fun _ _ h => Same.sqT s h
theorem Gr.tk {st : Addr} {K : PySem.W.Frag} {H H' : Hp} (g : Gr st H H') (s : IsSt H st) : TKeep K H H' := fun _ _ h => g.sqT s h
theorem RowAt.keep {K : PySem.W.Frag} {H H' : Hp} {v : V} {r : RW} (k : TKeep K H H') : RowAt K H v r → RowAt K H' v r := fun ⟨p, e, h⟩ => ⟨p, e, k _ _ h⟩
theorem RowsAt.keep {K : PySem.W.Frag} {H H' : Hp} {v : V} {rs : List RW} (k : TKeep K H H') : RowsAt K H v rs → RowsAt K H' v rs := fun ⟨p, vs, e, h, q⟩ => ⟨p, vs, e, k _ _ h, Paired.mono q fun _ _ => RowAt.keep k⟩
theorem LayAt.keep {K : PySem.W.Frag} {H H' : Hp} {v : V} {rs : List RW} {bk : Option Int} (k : TKeep K H H') : LayAt K H v rs bk → LayAt K H' v rs bk := fun ⟨p, rv, e, h, q⟩ => ⟨p, rv, e, k _ _ h, q.keep k⟩
/-! ### what a layer shows -/
def tot (rs : List RW) : Int := (rs.map (·.2)).sum
theorem tot_nil : tot [] = 0 := rfl
theorem tot_cons (r : RW) (rs : List RW) : tot (r :: rs) = r.2 + tot rs := by
  unfold tot
  rw [List.map_cons, List.sum_cons]
theorem tot_append (rs qs : List RW) : tot (rs ++ qs) = tot rs + tot qs := by
  induction rs with
  | nil => simp [tot_nil]
  | cons r t ih =>
    rw [List.cons_append, tot_cons, tot_cons, ih]
    omega
theorem tot_split (rs : List RW) (k : Nat) : tot rs = tot (rs.take k) + tot (rs.drop k) := by
  rw [← tot_append, List.take_append_drop]
theorem tot_nonneg : ∀ {rs : List RW}, (∀ r ∈ rs, VRow r) → (rs.length : Int) ≤ tot rs ∧ tot rs ≤ 24 * rs.length
  | [], _ => by
    rw [tot_nil]
    exact ⟨Int.le_refl _, Int.le_refl _⟩
  | r :: t, h => by
    have h1 := h r (List.mem_cons_self ..)
    have ih := tot_nonneg (rs := t) fun q hq => h q (List.mem_cons_of_mem _ hq)
    rw [tot_cons, List.length_cons]
    obtain ⟨_, _, h3, h4⟩ := h1
    obtain ⟨i1, i2⟩ := ih
    constructor <;> omega
def walk : List RW → Int → Int
  | [], _ => 0
  | r :: t, m => if m < r.2 then r.1 else walk t (m - r.2)
def near (rs : List RW) (bk : Option Int) (m : Int) : Int := match bk with
  | none => m
  | some b => if m < tot (rs.take b.toNat) then m else tot (rs.take b.toNat) + (m - tot (rs.take b.toNat)) % tot (rs.drop b.toNat)
def shown (rs : List RW) (bk : Option Int) (m : Int) : Int := walk rs (near rs bk m)
theorem walk_out : ∀ (rs : List RW) (m : Int), tot rs ≤ m → (∀ r ∈ rs, VRow r) → walk rs m = 0
  | [], _, _, _ => rfl
  | r :: t, m, h, v => by
    have v1 := v r (List.mem_cons_self ..)
    have vt : ∀ q ∈ t, VRow q := fun q hq => v q (List.mem_cons_of_mem _ hq)
    have t0 := (tot_nonneg vt).1
    rw [tot_cons] at h
    unfold walk
    rw [if_neg (by omega)]
    exact walk_out t _ (by omega) vt
theorem walk_at : ∀ (rs : List RW) (p : Nat) (r : RW) (j : Int), rs[p]? = some r → (∀ r ∈ rs, VRow r) → 0 ≤ j → j < r.2 → walk rs (tot (rs.take p) + j) = r.1
  | [], p, r, j, h, _, _, _ => by simp at h
  | q :: t, 0, r, j, h, _, h0, h1 => by
    have e : q = r := Option.some.inj h
    subst e
    rw [List.take_zero, tot_nil]
    unfold walk
    rw [if_pos (by omega)]
  | q :: t, p + 1, r, j, h, v, h0, h1 => by
    have vq := v q (List.mem_cons_self ..)
    have vt : ∀ q ∈ t, VRow q := fun q hq => v q (List.mem_cons_of_mem _ hq)
    have tp : 0 ≤ tot (t.take p) := by
      have := (tot_nonneg (rs := t.take p) fun q hq => vt q (List.mem_of_mem_take hq)).1
      omega
    rw [List.take_succ_cons, tot_cons]
    unfold walk
    rw [if_neg (by omega), show q.2 + tot (t.take p) + j - q.2 = tot (t.take p) + j by omega]
    exact walk_at t p r j h vt h0 h1
theorem tot_take_le {rs : List RW} (v : ∀ r ∈ rs, VRow r) {p : Nat} {r : RW} (h : rs[p]? = some r) : tot (rs.take p) + r.2 ≤ tot rs := by
  have hp : p < rs.length := (List.getElem?_eq_some_iff.mp h).1
  have e : rs.take (p + 1) = rs.take p ++ [r] := by
    rw [List.take_add_one, h]
    rfl
  have s := tot_split rs (p + 1)
  rw [e, tot_append] at s
  have e1 : tot [r] = r.2 := by
    rw [tot_cons, tot_nil]
    omega
  have := (tot_nonneg (rs := rs.drop (p + 1)) fun q hq => v q (List.mem_of_mem_drop hq)).1
  omega
/-- the j-th picture of the row p, behind k more rounds -/
theorem shown_at {rs : List RW} {bk : Option Int} (v : ∀ r ∈ rs, VRow r) (vb : VBack rs bk) {p k : Nat} {r : RW} {j c : Int} (h : rs[p]? = some r) (h0 : 0 ≤ j) (h1 : j < r.2)
    (hc : ∀ b, bk = some b → c = tot (rs.drop b.toNat)) (hk : 0 < k → ∃ b, bk = some b ∧ b ≤ p) : shown rs bk (tot (rs.take p) + k * c + j) = r.1 := by
  have w := walk_at rs p r j h v h0 h1
  have tp : 0 ≤ tot (rs.take p) := by
    have := (tot_nonneg (rs := rs.take p) fun q hq => v q (List.mem_of_mem_take hq)).1
    omega
  unfold shown near
  cases bk with
  | none =>
    have k0 : k = 0 := by
      rcases Nat.eq_zero_or_pos k with z | z
      · exact z
      · obtain ⟨b, e, _⟩ := hk z
        cases e
    subst k0
    dsimp only
    rw [show tot (rs.take p) + ((0 : Nat) : Int) * c + j = tot (rs.take p) + j by simp]
    exact w
  | some b =>
    have hb := vb b rfl
    have ec := hc b rfl
    have s := tot_split rs b.toNat
    have le := tot_take_le v h
    rw [← ec] at s
    dsimp only
    rw [← ec]
    have cpos : 0 < c := by
      have := (tot_nonneg (rs := rs.drop b.toNat) fun q hq => v q (List.mem_of_mem_drop hq)).1
      rw [← ec, List.length_drop] at this
      omega
    rcases Nat.eq_zero_or_pos k with z | z
    · subst z
      rw [show tot (rs.take p) + ((0 : Nat) : Int) * c + j = tot (rs.take p) + j by simp]
      by_cases hm : tot (rs.take p) + j < tot (rs.take b.toNat)
      · rw [if_pos hm]
        exact w
      · rw [if_neg hm, Int.emod_eq_of_lt (by omega) (by omega)]
        rw [show tot (rs.take b.toNat) + (tot (rs.take p) + j - tot (rs.take b.toNat)) = tot (rs.take p) + j by omega]
        exact w
    · obtain ⟨b', e, hbp⟩ := hk z
      have e' : b = b' := Option.some.inj e
      subst e'
      have bp : b.toNat ≤ p := by omega
      have tb : tot (rs.take b.toNat) ≤ tot (rs.take p) := by
        have e1 : rs.take b.toNat = (rs.take p).take b.toNat := by
          rw [List.take_take, Nat.min_eq_left bp]
        have s1 := tot_split (rs.take p) b.toNat
        rw [← e1] at s1
        have := (tot_nonneg (rs := (rs.take p).drop b.toNat) fun q hq => v q (List.mem_of_mem_take (List.mem_of_mem_drop hq))).1
        omega
      have kc : 0 ≤ (k : Int) * c := Int.mul_nonneg (by omega) (by omega)
      rw [if_neg (by omega)]
      rw [show tot (rs.take p) + (k : Int) * c + j - tot (rs.take b.toNat) = (tot (rs.take p) + j - tot (rs.take b.toNat)) + c * k by rw [Int.mul_comm c]; omega, Int.add_mul_emod_self_left, Int.emod_eq_of_lt (by omega) (by omega)]
      rw [show tot (rs.take b.toNat) + (tot (rs.take p) + j - tot (rs.take b.toNat)) = tot (rs.take p) + j by omega]
      exact w
theorem shown_end {rs : List RW} (v : ∀ r ∈ rs, VRow r) {m : Int} (h : tot rs ≤ m) : shown rs none m = 0 := walk_out rs m h v
/-- a great moment is as the one so many whole rounds ahead -/
theorem shown_far {rs : List RW} {bk : Option Int} (v : ∀ r ∈ rs, VRow r) (vb : VBack rs bk) {m s : Int} (hs : s = match bk with | none => 1 | some b => tot (rs.drop b.toNat)) (h : tot rs ≤ m) :
    shown rs bk (tot rs + (m - tot rs) % s) = shown rs bk m := by
  cases bk with
  | none =>
    dsimp only at hs
    subst hs
    rw [shown_end v h, shown_end v (by omega)]
  | some b =>
    dsimp only at hs
    have hb := vb b rfl
    have e := tot_split rs b.toNat
    have spos : 0 < s := by
      have := (tot_nonneg (rs := rs.drop b.toNat) fun q hq => v q (List.mem_of_mem_drop hq)).1
      rw [← hs, List.length_drop] at this
      omega
    have hm := Int.emod_nonneg (m - tot rs) (show s ≠ 0 by omega)
    unfold shown near
    dsimp only
    rw [← hs] at e ⊢
    rw [if_neg (by omega), if_neg (by omega)]
    congr 2
    rw [show tot rs + (m - tot rs) % s - tot (rs.take b.toNat) = (m - tot rs) % s + s * 1 by omega, Int.add_mul_emod_self_left, Int.emod_emod,
      show m - tot (rs.take b.toNat) = (m - tot rs) + s * 1 by omega, Int.add_mul_emod_self_left]
theorem shown_walk_none (rs : List RW) (m : Int) : shown rs none m = walk rs m := rfl
/-! ### slices -/
theorem cut_to (xs : List V) (k : Nat) : cutV xs none (some (k : Int)) = xs.take k := by
  unfold cutV
  rw [HT.sIx_none, HT.sIx_nat, List.drop_zero, Nat.sub_zero]
  rcases Nat.le_total k xs.length with h | h
  · rw [Nat.min_eq_left h]
  · rw [Nat.min_eq_right h, List.take_length, List.take_of_length_le h]
theorem cut_from (xs : List V) (k : Nat) : cutV xs (some (k : Int)) none = xs.drop k := by
  unfold cutV
  rw [HT.sIx_none, HT.sIx_nat]
  rcases Nat.le_total k xs.length with h | h
  · rw [Nat.min_eq_left h, List.take_of_length_le (by rw [List.length_drop]; omega)]
  · rw [Nat.min_eq_right h, Nat.sub_self, List.take_zero, List.drop_of_length_le h]
theorem cut_all (xs : List V) : cutV xs none none = xs := by
  unfold cutV
  rw [HT.sIx_none, HT.sIx_none, List.drop_zero, Nat.sub_zero, List.take_length]
theorem cut_whole {xs : List V} {lo hi : Option Int} (h : HT.sIx xs.length 0 lo = 0 ∧ HT.sIx xs.length xs.length hi = xs.length) : cutV xs lo hi = xs := by
  unfold cutV
  rw [h.1, h.2, List.drop_zero, Nat.sub_zero, List.take_length]
theorem sl_rows {K : PySem.W.Frag} {H : Hp} {a : Addr} {xs : List V} {lo hi : Option Int} (rs : List RW) {R : VK} (hS : SqT K H a xs) (hp : Paired (RowAt K H) (cutV xs lo hi) rs) (h : ∀ H' v, Same H H' → RowsAt K H' v rs → R v H') :
    rSlA K (.ref a) lo hi H R := by
  refine ⟨a, xs, rfl, hS, fun w => h H _ (Same.refl _) ⟨a, xs, rfl, hS, ?_⟩, fun _ p np => ?_⟩
  · rw [cut_whole w] at hp
    exact hp
  · have s := same_upd (o := .tup (cutV xs lo hi)) np
    exact h _ _ s ⟨p, _, rfl, .inl (.inl upd_same), Paired.mono hp fun _ _ => RowAt.keep (Same.tk s)⟩
/-! ### windows -/
abbrev MV := Int × Int × Int
def MoveAt (K : PySem.W.Frag) (H : Hp) (v : V) (m : MV) : Prop := ∃ p, v = .ref p ∧ SqT K H p [.int m.1, .int m.2.1, .int m.2.2]
def MovesAt (K : PySem.W.Frag) (H : Hp) (v : V) (ms : List MV) : Prop := ∃ p vs, v = .ref p ∧ SqT K H p vs ∧ Paired (MoveAt K H) vs ms
def WinAt (K : PySem.W.Frag) (H : Hp) (v : V) (x y : Int) (ms : List MV) : Prop := ∃ p mv, v = .ref p ∧ SqT K H p [.int x, .int y, mv] ∧ MovesAt K H mv ms
def VMove (m : MV) : Prop := (-20 ≤ m.1 ∧ m.1 ≤ 20) ∧ (-20 ≤ m.2.1 ∧ m.2.1 ≤ 20) ∧ 0 ≤ m.2.2 ∧ m.2.2 ≤ 24
def VWin (x y : Int) (ms : List MV) : Prop := (-20 ≤ x ∧ x ≤ 20) ∧ (-20 ≤ y ∧ y ≤ 20) ∧ ms.length ≤ 8 ∧ ∀ m ∈ ms, VMove m
theorem MoveAt.keep {K : PySem.W.Frag} {H H' : Hp} {v : V} {m : MV} (k : TKeep K H H') : MoveAt K H v m → MoveAt K H' v m := fun ⟨p, e, h⟩ => ⟨p, e, k _ _ h⟩
theorem MovesAt.keep {K : PySem.W.Frag} {H H' : Hp} {v : V} {ms : List MV} (k : TKeep K H H') : MovesAt K H v ms → MovesAt K H' v ms := fun ⟨p, vs, e, h, q⟩ => ⟨p, vs, e, k _ _ h, Paired.mono q fun _ _ => MoveAt.keep k⟩
theorem WinAt.keep {K : PySem.W.Frag} {H H' : Hp} {v : V} {x y : Int} {ms : List MV} (k : TKeep K H H') : WinAt K H v x y ms → WinAt K H' v x y ms := fun ⟨p, mv, e, h, q⟩ => ⟨p, mv, e, k _ _ h, q.keep k⟩
def mtot (ms : List MV) : Int := (ms.map (·.2.2)).sum
/-! ### sheets -/
abbrev LY := List RW × Option Int
def LyAt (K : PySem.W.Frag) (H : Hp) (v : V) (l : LY) : Prop := LayAt K H v l.1 l.2
def LaysAt (K : PySem.W.Frag) (H : Hp) (v : V) (ls : List LY) : Prop := ∃ p vs, v = .ref p ∧ SqT K H p vs ∧ Paired (LyAt K H) vs ls
def VLy (l : LY) : Prop := VRows l.1 ∧ VBack l.1 l.2
def VLays (ls : List LY) : Prop := 1 ≤ ls.length ∧ ls.length ≤ 4 ∧ ∀ l ∈ ls, VLy l
def ShAt (K : PySem.W.Frag) (H : Hp) (v : V) (ls : List LY) (x y : Int) (ms : List MV) : Prop := ∃ p lv wv, v = .ref p ∧ SqT K H p [lv, wv] ∧ LaysAt K H lv ls ∧ WinAt K H wv x y ms
theorem LyAt.keep {K : PySem.W.Frag} {H H' : Hp} {v : V} {l : LY} (k : TKeep K H H') : LyAt K H v l → LyAt K H' v l := LayAt.keep k
theorem LaysAt.keep {K : PySem.W.Frag} {H H' : Hp} {v : V} {ls : List LY} (k : TKeep K H H') : LaysAt K H v ls → LaysAt K H' v ls := fun ⟨p, vs, e, h, q⟩ => ⟨p, vs, e, k _ _ h, Paired.mono q fun _ _ => LyAt.keep k⟩
theorem ShAt.keep {K : PySem.W.Frag} {H H' : Hp} {v : V} {ls : List LY} {x y : Int} {ms : List MV} (k : TKeep K H H') : ShAt K H v ls x y ms → ShAt K H' v ls x y ms := fun ⟨p, lv, wv, e, h, q, r⟩ => ⟨p, lv, wv, e, k _ _ h, q.keep k, r.keep k⟩
/-! ### places -/
def PlAt (K : PySem.W.Frag) (H : Hp) (v : V) (p : RW × RW) : Prop := ∃ a v1 v2, v = .ref a ∧ SqT K H a [v1, v2] ∧ RowAt K H v1 p.1 ∧ RowAt K H v2 p.2
theorem PlAt.keep {K : PySem.W.Frag} {H H' : Hp} {v : V} {p : RW × RW} (k : TKeep K H H') : PlAt K H v p → PlAt K H' v p := fun ⟨a, v1, v2, e, h, r1, r2⟩ => ⟨a, v1, v2, e, k _ _ h, r1.keep k, r2.keep k⟩
/-! ### pictures -/
abbrev PIC := List Int × (RW × RW)
def PicAt (K : PySem.W.Frag) (H : Hp) (v : V) (c : PIC) : Prop := ∃ a b v2, v = .ref a ∧ SqT K H a [.ref b, v2] ∧ SqT K H b (c.1.map V.int) ∧ PlAt K H v2 c.2
theorem PicAt.keep {K : PySem.W.Frag} {H H' : Hp} {v : V} {c : PIC} (k : TKeep K H H') : PicAt K H v c → PicAt K H' v c := fun ⟨a, b, v2, e, h, h1, h2⟩ => ⟨a, b, v2, e, k _ _ h, k _ _ h1, h2.keep k⟩
/-! ### fractions in lowest terms -/
def lo (t b : Int) : RW := (t / ((Nat.gcd t.natAbs b.natAbs : Nat) : Int), b / ((Nat.gcd t.natAbs b.natAbs : Nat) : Int))
theorem gcd_facts {t b : Int} (hb : 0 < b) : ∃ g t' b' : Int, ((Nat.gcd t.natAbs b.natAbs : Nat) : Int) = g ∧ 0 < g ∧ t = g * t' ∧ b = g * b' ∧ 0 < b' ∧ (lo t b) = (t', b') ∧ g ≤ b ∧ Nat.Coprime b'.natAbs t'.natAbs := by
  have g0 : 0 < Nat.gcd t.natAbs b.natAbs := Nat.gcd_pos_of_pos_right _ (by omega)
  obtain ⟨t', ht⟩ : ((Nat.gcd t.natAbs b.natAbs : Nat) : Int) ∣ t := Int.natAbs_dvd_natAbs.mp (by rw [Int.natAbs_natCast]; exact Nat.gcd_dvd_left _ _)
  obtain ⟨b', hb'⟩ : ((Nat.gcd t.natAbs b.natAbs : Nat) : Int) ∣ b := Int.natAbs_dvd_natAbs.mp (by rw [Int.natAbs_natCast]; exact Nat.gcd_dvd_right _ _)
  have gp : (0 : Int) < ((Nat.gcd t.natAbs b.natAbs : Nat) : Int) := by omega
  have bp : 0 < b' := Int.pos_of_mul_pos_left (a := b') (b := ((Nat.gcd t.natAbs b.natAbs : Nat) : Int)) (by rw [Int.mul_comm, ← hb']; exact hb) gp
  have gle : ((Nat.gcd t.natAbs b.natAbs : Nat) : Int) ≤ b := by
    have := Nat.gcd_le_right t.natAbs (show 0 < b.natAbs by omega)
    omega
  have cop : Nat.gcd b'.natAbs t'.natAbs = 1 := by
    have e1 : t.natAbs = Nat.gcd t.natAbs b.natAbs * t'.natAbs := by
      have := congrArg Int.natAbs ht
      rw [Int.natAbs_mul, Int.natAbs_natCast] at this
      exact this
    have e2 : b.natAbs = Nat.gcd t.natAbs b.natAbs * b'.natAbs := by
      have := congrArg Int.natAbs hb'
      rw [Int.natAbs_mul, Int.natAbs_natCast] at this
      exact this
    have e3 : Nat.gcd (Nat.gcd t.natAbs b.natAbs * t'.natAbs) (Nat.gcd t.natAbs b.natAbs * b'.natAbs) = Nat.gcd t.natAbs b.natAbs * Nat.gcd t'.natAbs b'.natAbs := Nat.gcd_mul_left _ _ _
    rw [← e1, ← e2] at e3
    rw [Nat.gcd_comm]
    exact Nat.eq_of_mul_eq_mul_left g0 (by rw [← e3, Nat.mul_one])
  refine ⟨_, t', b', rfl, gp, ht, hb', bp, ?_, gle, cop⟩
  unfold lo
  congr 1
  · conv => lhs; arg 1; rw [ht]
    exact Int.mul_ediv_cancel_left _ (by omega)
  · conv => lhs; arg 1; rw [hb']
    exact Int.mul_ediv_cancel_left _ (by omega)
theorem lo_mem {t b k : Int} (hb : 0 < b) : t * k % b = 0 ↔ (lo t b).2 ∣ k := by
  obtain ⟨g, t', b', _, gp, et, eb, bp, el, _, cop⟩ := gcd_facts (t := t) hb
  rw [el]
  show _ ↔ b' ∣ k
  constructor
  · intro h
    have h1 := Int.dvd_of_emod_eq_zero h
    rw [et, eb, Int.mul_assoc] at h1
    obtain ⟨c, hc⟩ := h1
    rw [Int.mul_assoc] at hc
    have h2 : b' ∣ t' * k := ⟨c, Int.eq_of_mul_eq_mul_left (by omega) hc⟩
    have h3 := Int.natAbs_dvd_natAbs.mpr h2
    rw [Int.natAbs_mul] at h3
    exact Int.natAbs_dvd_natAbs.mp (Nat.Coprime.dvd_of_dvd_mul_left cop h3)
  · rintro ⟨c, hc⟩
    apply Int.emod_eq_zero_of_dvd
    refine ⟨t' * c, ?_⟩
    rw [et, eb, hc]
    rw [Int.mul_assoc, Int.mul_assoc, Int.mul_left_comm t' b' c]
/-- the numbers from 1 to n that the law looks through -/
def ks (t b : Int) (n : Nat) : List Int := ((List.range n).map fun j => 1 + ((j : Nat) : Int)).filter fun k => decide (t * k % b = 0)
theorem ks_head {t b : Int} (hb : 0 < b) : (ks t b b.toNat)[0]? = some (lo t b).2 := by
  obtain ⟨g, t', b', _, gp, et, eb, bp, el, _, cop⟩ := gcd_facts (t := t) hb
  have hm : ∀ k, t * k % b = 0 ↔ b' ∣ k := fun k => by
    have := lo_mem (t := t) (k := k) hb
    rw [el] at this
    exact this
  rw [el]
  show (ks t b b.toNat)[0]? = some b'
  have ble : b' ≤ b := by
    rw [eb]
    have : 1 * b' ≤ g * b' := Int.mul_le_mul_of_nonneg_right (by omega) (by omega)
    omega
  unfold ks
  rw [List.filter_map, List.getElem?_map, ← List.head?_eq_getElem?, List.head?_filter]
  have e : (List.range b.toNat).find? ((fun k : Int => decide (t * k % b = 0)) ∘ fun j : Nat => 1 + (j : Int)) = some (b'.toNat - 1) := by
    rw [List.find?_range_eq_some]
    refine ⟨?_, List.mem_range.mpr (by omega), fun j hj => ?_⟩
    · show decide (t * (1 + ((b'.toNat - 1 : Nat) : Int)) % b = 0) = true
      rw [decide_eq_true_eq, hm, show 1 + ((b'.toNat - 1 : Nat) : Int) = b' by omega]
      exact Int.dvd_refl _
    · show (!decide (t * (1 + (j : Int)) % b = 0)) = true
      rw [Bool.not_eq_true', decide_eq_false_iff_not, hm]
      intro hd
      have := Int.le_of_dvd (by omega) hd
      omega
  rw [e]
  show some (1 + ((b'.toNat - 1 : Nat) : Int)) = some b'
  congr 1
  omega
theorem lo_top {t b : Int} (hb : 0 < b) : t * (lo t b).2 / b = (lo t b).1 := by
  obtain ⟨g, t', b', _, gp, et, eb, bp, el, _, cop⟩ := gcd_facts (t := t) hb
  rw [el]
  show t * b' / b = t'
  rw [et, show g * t' * b' = b * t' by rw [eb, Int.mul_assoc, Int.mul_assoc, Int.mul_comm t' b']]
  exact Int.mul_ediv_cancel_left _ (by omega)
/-! ### where a window stands -/
def plc (x y : Int) : List MV → Int → RW × RW
  | [], _ => ((x, 1), (y, 1))
  | m :: r, t => if t < m.2.2 then (lo (x * m.2.2 + (m.1 - x) * (t + 1)) m.2.2, lo (y * m.2.2 + (m.2.1 - y) * (t + 1)) m.2.2) else plc m.1 m.2.1 r (t - m.2.2)
theorem way_eq (x g n k : Int) : x * (n - k) + g * k = x * n + (g - x) * k := by
  rw [Int.mul_sub, Int.sub_mul]
  omega
theorem plc_nil (x y t : Int) : plc x y [] t = ((x, 1), (y, 1)) := rfl
theorem plc_cons (x y : Int) (m : MV) (r : List MV) (t : Int) : plc x y (m :: r) t = if t < m.2.2 then (lo (x * m.2.2 + (m.1 - x) * (t + 1)) m.2.2, lo (y * m.2.2 + (m.2.1 - y) * (t + 1)) m.2.2) else plc m.1 m.2.1 r (t - m.2.2) := rfl
theorem mtot_cons (m : MV) (r : List MV) : mtot (m :: r) = m.2.2 + mtot r := by
  unfold mtot
  rw [List.map_cons, List.sum_cons]
theorem mtot_nonneg : ∀ {ms : List MV}, (∀ m ∈ ms, VMove m) → 0 ≤ mtot ms ∧ mtot ms ≤ 24 * ms.length
  | [], _ => ⟨Int.le_refl _, Int.le_refl _⟩
  | m :: r, h => by
    have ih := mtot_nonneg (ms := r) fun q hq => h q (List.mem_cons_of_mem _ hq)
    obtain ⟨_, _, h3, h4⟩ := h m (List.mem_cons_self ..)
    rw [mtot_cons, List.length_cons]
    obtain ⟨i1, i2⟩ := ih
    constructor <;> omega
theorem plc_far : ∀ (ms : List MV) (x y a b : Int), (∀ m ∈ ms, VMove m) → mtot ms ≤ a → mtot ms ≤ b → plc x y ms a = plc x y ms b
  | [], _, _, _, _, _, _, _ => rfl
  | m :: r, x, y, a, b, h, ha, hb => by
    have hr : ∀ q ∈ r, VMove q := fun q hq => h q (List.mem_cons_of_mem _ hq)
    have := (mtot_nonneg hr).1
    rw [mtot_cons] at ha hb
    rw [plc_cons, plc_cons, if_neg (by omega), if_neg (by omega)]
    exact plc_far r _ _ _ _ hr (by omega) (by omega)
def pic (ls : List LY) (x y : Int) (ms : List MV) (m : Int) : PIC := (ls.map (fun l => shown l.1 l.2 m), plc x y ms m)
/-! ### the law's own helpers -/
theorem fm {x m : Int} (h : 0 < m) : 0 ≤ x.fmod m ∧ x.fmod m < m := by
  rw [Int.fmod_eq_emod_of_nonneg x (by omega)]
  exact ⟨Int.emod_nonneg _ (by omega), Int.emod_lt_of_pos _ h⟩
theorem tk_updL {K : PySem.W.Frag} {H : Hp} {D : Addr} {xs ys : List V} (h : H D = some (.lst xs)) : TKeep K H (upd H D (.lst ys)) := by
  intro a zs q
  rcases q with (q | ⟨o, q⟩) | q
  · refine .inl (.inl ?_)
    rw [upd_ne (ne_of q h (by intro z; cases z))]
    exact q
  · refine .inl (.inr ⟨o, ?_⟩)
    rw [upd_ne (ne_of q h (by intro z; cases z))]
    exact q
  · exact .inr q
inductive Fl : V → String → Bool → Prop
  | non : Fl .non "NoneType" false
  | bl (b : Bool) : Fl (.bl b) "bool" true
  | int (i : Int) : Fl (.int i) "int" false
theorem Fl.ty {K : PySem.W.Frag} {H : Hp} {x : V} {t : String} {b : Bool} (f : Fl x t b) : TyX K H x (.type t) := by
  cases f with
  | non => exact .base .non
  | bl b => exact .base (.bl b)
  | int i => exact .base (.int i)
theorem Fl.kit {x : V} {t : String} {b : Bool} (f : Fl x t b) : kitB t "bool" = some b := by
  cases f <;> decide +kernel
theorem Fl.kit2 {K : PySem.W.Frag} {x : V} {t : String} {b : Bool} (f : Fl x t b) : PySem.W.kitAny K (.type t) [.type "tuple", .type "list"] = some false := by
  cases f <;> exact kitAny_cons (kit_ty (r := false) (by decide +kernel)) (fun _ => kitAny_cons (kit_ty (r := false) (by decide +kernel)) (fun _ => kitAny_nil) (fun z => nomatch z)) (fun z => nomatch z)
theorem Fl.scal {x y : V} {t u : String} {b : Bool} (f : Fl x t b) (g : Fl y u b) : L2.scal x y = true := by
  cases f <;> cases g <;> rfl
theorem Fl.ne {x y : V} {t u : String} {b c : Bool} (f : Fl x t b) (g : Fl y u c) (h : b ≠ c) : x ≠ y := by
  cases f <;> cases g <;> first | exact absurd rfl h | (intro z; cases z)
theorem st_ne {H : Hp} {st p : Addr} (s : IsSt H st) (h : H p = none) : p ≠ st := by
  obtain ⟨x, y, hx, _⟩ := s
  exact fun z => by rw [z, hx] at h; cases h
theorem st_neT {H : Hp} {st p : Addr} {xs : List V} (s : IsSt H st) (h : H p = some (.tup xs)) : p ≠ st := by
  obtain ⟨x, y, hx, _⟩ := s
  exact ne_of h hx (by intro z; cases z)
/-! ### the law's own comparison, of equal data -/
theorem tyL {K : PySem.W.Frag} {H : Hp} {a : Addr} {xs : List V} (h : SqL K H a xs) : TyX K H (.ref a) (.type "list") := by
  rcases h with (h | ⟨o, h⟩) | ⟨o, its, n, h, c, _⟩
  · exact .base (.lst h)
  · exact .base (.frz h)
  · exact .kList h c
mutual
theorem Dp.sm {K : PySem.W.Frag} {H H' : Hp} (s : Same H H') : ∀ {v : V} {d : PyData}, Dp K H v d → Dp K H' v d
  | _, _, .non => .non
  | _, _, .bl b => .bl b
  | _, _, .int i => .int i
  | _, _, .str x => .str x
  | _, _, .lst h q => .lst (s.seq h) (DpAll.sm s q)
  | _, _, .tup h q => .tup (Same.sqT s h) (DpAll.sm s q)
theorem DpAll.sm {K : PySem.W.Frag} {H H' : Hp} (s : Same H H') : ∀ {v : List V} {d : List PyData}, DpAll K H v d → DpAll K H' v d
  | _, _, .nil => .nil
  | _, _, .cons h q => .cons (Dp.sm s h) (DpAll.sm s q)
end
theorem DpAll.at {K : PySem.W.Frag} {H : Hp} : ∀ {vs : List V} {ds : List PyData} {i : Nat} {v : V}, DpAll K H vs ds → vs[i]? = some v → ∃ d, ds[i]? = some d ∧ Dp K H v d
  | _, _, i, v, .nil, h => by simp at h
  | _, _, 0, v, .cons a t, h => by
    have e : _ = v := Option.some.inj h
    subst e
    exact ⟨_, rfl, a⟩
  | _, _, i + 1, v, .cons a t, h => DpAll.at (i := i) t h
theorem DpAll.len {K : PySem.W.Frag} {H : Hp} : ∀ {vs : List V} {ds : List PyData}, DpAll K H vs ds → vs.length = ds.length
  | _, _, .nil => rfl
  | _, _, .cons _ t => by rw [List.length_cons, List.length_cons, DpAll.len t]
def flD (d : PyData) : Prop := d = .none ∨ (∃ b, d = .bool b) ∨ ∃ i, d = .int i
def dOk : Nat → PyData → Prop
  | 0, d => flD d
  | n + 1, d => flD d ∨ ∃ ds, (d = .list ds ∨ d = .tuple ds) ∧ ds.length ≤ 1000 ∧ ∀ e ∈ ds, dOk n e
theorem flD.fl {K : PySem.W.Frag} {H : Hp} {x y : V} {d : PyData} (f : flD d) (hx : Dp K H x d) (hy : Dp K H y d) : x = y ∧ ∃ t b, Fl x t b := by
  rcases f with rfl | ⟨b, rfl⟩ | ⟨i, rfl⟩
  · cases hx
    cases hy
    exact ⟨rfl, _, _, .non⟩
  · cases hx
    cases hy
    exact ⟨rfl, _, _, .bl b⟩
  · cases hx
    cases hy
    exact ⟨rfl, _, _, .int i⟩
/-- a comprehension over a zip of two that stand still, each item True -/
theorem lc_zip {J : It} {xs ys : List V} {g : TG} {tt : TT} {te : TE} {vs : List Nat} {σ : L2.St} {H1 : Hp} {D : Addr} {Qd : Hp → Prop} (hl : ys.length = xs.length) (hz : xs.length ≤ 1000) (hD : H1 D = none)
    (st : ∀ H, Same H1 H → J.stop xs.length H) (go : ∀ (i : Nat) (H : Hp), Same H1 H → i < xs.length → J.go i H)
    (yl : ∀ (i : Nat) (H : Hp) (v : V) (H' : Hp), Same H1 H → J.yld i H v H' → ∃ T x y, v = .ref T ∧ H T = none ∧ H' = upd H T (.tup [x, y]) ∧ xs[i]? = some x ∧ ys[i]? = some y)
    (hs : ∀ (i : Nat) (x y : V) (T : Addr) (H : Hp) (R : V → Hp → Prop) (Z : Hp → Prop), xs[i]? = some x → ys[i]? = some y → Same H1 H → H T = some (.tup [x, y]) → (∀ H4, Same H H4 → R (.bl true) H4) →
      g (.ref T) (wipe σ vs) H fun σ2 H2 => wipe σ2 vs = wipe σ vs ∧ tt σ2 H2 fun b H3 => if b = true then te σ2 H3 R else Z H3)
    (hd : ∀ H, Same H1 H → H D = some (.lst ((List.replicate xs.length true).map V.bl)) → Qd H) :
    ∃ W : Nat → Nat → Hp → Prop, (∃ m, W 0 m (upd H1 D (.lst []))) ∧ ∀ i m H, W i m H →
      (J.stop i H ∧ Qd H) ∨ (J.go i H ∧ ∃ Nx : Hp → Prop, (∀ H', Nx H' → ∃ m', m' < m ∧ W (i + 1) m' H') ∧ ∀ x H', J.yld i H x H' → g x (wipe σ vs) H' fun σ2 H2 => wipe σ2 vs = wipe σ vs ∧ tt σ2 H2 fun b H3 =>
        if b = true then te σ2 H3 fun y H4 => ∃ acc, H4 D = some (.lst acc) ∧ acc.length < sizeLine ∧ Nx (upd H4 D (.lst (acc ++ [y]))) else Nx H3) := by
  refine ⟨fun i m H => m = xs.length - i ∧ i ≤ xs.length ∧ Same H1 H ∧ H D = some (.lst ((List.replicate i true).map V.bl)), ⟨xs.length, by simp, Nat.zero_le _, same_upd hD, upd_same⟩, ?_⟩
  rintro i m H ⟨rfl, hi, s1, eD⟩
  by_cases hlt : i < xs.length
  · refine .inr ⟨go i H s1 hlt, fun H' => Same H1 H' ∧ H' D = some (.lst ((List.replicate (i + 1) true).map V.bl)), fun H' p => ⟨xs.length - (i + 1), by omega, rfl, hlt, p⟩, fun v H' hy => ?_⟩
    obtain ⟨T, x, y, rfl, nT, rfl, hx, hy⟩ := yl i H v H' s1 hy
    have sT : Same H (upd H T (.tup [x, y])) := same_upd nT
    refine hs i x y T _ _ _ hx hy (s1.trans sT) upd_same (fun H4 s4 => ⟨_, s4 _ _ (sT _ _ eD), ?_, ?_, ?_⟩)
    · rw [List.length_map, List.length_replicate]
      exact small1000 (by omega)
    · intro b o e
      rw [upd_ne (ne_of_none e hD)]
      exact s4 _ _ (sT _ _ (s1 _ _ e))
    · rw [upd_same, List.replicate_succ', List.map_append]
      rfl
  · have e : i = xs.length := by omega
    subst e
    exact .inl ⟨st H s1, hd H s1 eD⟩
/-! ### a def that is entered where nothing is being shown: repr is known there -/
structure FnG (P : Program) (w : World) (K : PySem.W.Frag) (mg : Str → Option Value) (base : Heap) (k : Nat) (f : Addr) (fd : FuncData) (ps : List Str) (sp : Sp) : Prop where
  len : ∀ vs H Q E, sp vs H Q E → vs.length = ps.length
  run : ∀ (A : Around) (outer : List Env) (s : Shared) (H : Hp) (args : Args) (us : List Value) (vs : List V) (Q : VK) (E : XK), A.guards = some [] → Room k A → Env0 P w K mg base A outer s H → BindsTo s fd args (ps.zip us) →
    Vals vs us → sp vs H Q E → codeAny (model P w) A (.call (.ref f) args) (CR CX0 outer P w H s Q E) s
/-! ### a call goes by the def's body, in whatever context the body is read -/
/-- the def st stands at f, its code object is cdv -/
structure DefAt (K : PySem.W.Frag) (x qual : Str) (st : Stmt) (f : Addr) (fd : FuncData) (cdv : Value) : Prop where
  isFn : ∃ (kV doc pm : Value) (an : Option Addr) (ct : Value), fd = PySem.W.fnOf x qual (defArgs st) (defBody st) (defScope st) .none kV doc pm an cdv ct
  there : ∃ (oc : Value) (od : Option Addr) (osl : Array (Option Value)), K.lookup f = some ⟨oc, od, .func fd, osl⟩
  coded : PySem.W.codeIn K cdv qual = true
/-- what a call's value is, told by how the body ends -/
def given : Flow → Value
  | .ret u => u
  | _ => .none
/-- the state in which a body begins whose parameters ps hold us -/
abbrev Begun (qual : Str) (st : Stmt) (f : Addr) (cdv : Value) (ps : List Str) (us : List Value) (s s1 : Shared) : Prop :=
  InCallC s s.heap.objs.size (bindL (envOfC qual (defScope st) s.heap.objs.size f cdv).kindOf (ps.zip us) fun _ => none) (cellsFrom (s.heap.objs.size + 1) (defScope st).names [])
    (bindC (envOfC qual (defScope st) s.heap.objs.size f cdv).kindOf (ps.zip us) fun _ => none) s1
theorem given_by {X : Cx} {Q : VK} {fl : Flow} {s' : Shared} (none : X.ex = []) (h : SP X [] { nx := fun _ H' => Q .non H', rt := Q } fl s') : CE X.outer X.prog X.w X.H_0 X.s_0 Q (given fl) s' := by
  have told : ∀ {σ : L2.St} {H' : Hp} {v : V}, Inv X [] σ H' s' → RelV v (given fl) → Q v H' → CE X.outer X.prog X.w X.H_0 X.s_0 Q (given fl) s' := fun J rv q => ⟨_, _, J.os, J.bare, none ▸ J.base, J.hok, rv, q⟩
  match fl, h with
  | .ret _, ⟨_, _, _, J, rv, q⟩ => exact told J rv q
  | .next, ⟨_, _, J, q⟩ => exact told (v := .non) J rfl q
  | .brk, ⟨_, _, _, q⟩ | .cont, ⟨_, _, _, q⟩ => exact q.elim
section
variable {P : Program} {w : World} {K : PySem.W.Frag} {mg : Str → Option Value} {base : Heap}
theorem defAt_of {x qual : Str} {st : Stmt} {f : Addr} {fd : FuncData} (F : Fun K x qual st f fd) : ∃ cdv, DefAt K x qual st f fd cdv :=
  let ⟨oc, od, kV, doc, pm, an, cdv, ct, osl, e, l, c⟩ := F.ex
  ⟨cdv, ⟨kV, doc, pm, an, ct, e⟩, ⟨oc, od, osl, l⟩, c⟩
theorem DefAt.call {x qual : Str} {st : Stmt} {f : Addr} {fd : FuncData} {cdv : Value} {N ps : List Str} {A : Around} {outer : List Env} {s : Shared} {H : Hp} {args : Args} {us : List Value} {R : Result → Shared → Prop} (D : DefAt K x qual st f fd cdv) (S : FnScope N ps (defScope st))
    (room : A.depth < recursionLimit) (e0 : Env0 P w K mg base A outer s H) (hb : BindsTo s fd args (ps.zip us))
    (body : ∀ s1, Begun qual st f cdv ps us s s1 → wpAny (model P w) (A.deeper (envOfC qual (defScope st) s.heap.objs.size f cdv)) (execs (defBody st) (envOfC qual (defScope st) s.heap.objs.size f cdv)) (fun fl s' => R (.ok (.ret (given fl))) s')
      (fun e s' => wpAny (model P w) (A.deeper (envOfC qual (defScope st) s.heap.objs.size f cdv)) (leaving (envOfC qual (defScope st) s.heap.objs.size f cdv) e) (fun _ z => R (.error e) z) (fun e' z => R (.error e') z) s') s1) :
    codeAny (model P w) A (.call (.ref f) args) R s := by
  obtain ⟨⟨kV, doc, pm, an, ct, rfl⟩, ⟨oc, od, osl, there⟩, coded⟩ := D
  have stands : ∀ b o, base.get? b = some o → s.heap.get? b = some o := fun b o z => (e0.bs b o z).1
  have kin := e0.mod.kin.keeps stands
  apply codeAny_call_function room (kin f _ there) rfl S.co S.gen rfl (PySem.W.codeRec_of kin coded)
  apply hb
  apply wpAny_newFunctionEnv_cells S.kind
  · exact fun y hy => (S.par y.1 (List.of_mem_zip hy).1).imp id fun c => ⟨c, PySem.W.cellsFrom_some _ _ _ (.inl c)⟩
  · rintro _ rfl s1 begun
    exact ⟨(e0.mod.nolimit.keeps stands).keeps begun.toInCall.keep, codeAny_func (wpAny_mono (body s1 begun) (fun fl _ h => by cases fl <;> exact h) fun _ _ h => h)⟩
theorem fun_okG {x qual : Str} {st : Stmt} {f : Addr} {fd : FuncData} {N ps : List Str} {k : Nat} {sp : Sp} (F : Fun K x qual st f fd) (S : FnScope N ps (defScope st)) (ln : ∀ vs H Q E, sp vs H Q E → vs.length = ps.length)
    (hbody : ∀ (cdv : Value) (A : Around) (outer : List Env) (s : Shared) (H : Hp) (vs : List V) (Q : VK) (E : XK), A.guards = some [] → Room k (A.deeper (envOfC qual (defScope st) s.heap.objs.size f cdv)) → sp vs H Q E →
      ∃ t, PSs (cxOf CX0 P w K mg base N qual (defScope st) f cdv A outer s H E).nox (defBody st) t ∧ t { nx := fun _ H' => Q .non H', rt := Q } (L2.start N vs) H) : FnG P w K mg base (k + 1) f fd ps sp := by
  obtain ⟨cdv, D⟩ := defAt_of F
  refine ⟨ln, fun A outer s H args us vs Q E hgu hr e0 hb r hsp => D.call S hr.depth e0 hb fun s1 begun => ?_⟩
  obtain ⟨t, ht, hq⟩ := hbody cdv A outer s H vs Q E hgu (hr.deeper _) hsp
  exact thn (ht.nox.run [] s1 _ H _ (inv_start S hr.hd e0 (ln _ _ _ _ hsp) r begun) hq) fun _ _ h => given_by rfl h
/-- the law's call from such a promise -/
theorem law_callG {mb : Str → Option Value} {k : Nat} {fa a : Addr} {fd : FuncData} {x : Str} {sp : Sp} {s₁ : Shared} {vs : List Value} {ns : List Int}
    (KX : K.In s₁.heap) (hns : s₁.heap.Ns mainGlobals mg) (hb : s₁.heap.Ns builtinsNs mb) (hbb : ∀ x : Str, x ≠ "__name__" → mb x = bootBuiltins x) (hlim : s₁.heap.NoLimit)
    (hge : s₁.gens = #[]) (ha : s₁.heap.get? a = some { cls := .type "list", data := .seq vs.toArray }) (hi : IntsAre vs ns) (hl : ns.length ≤ sizeLine) (hr : Room k callerA)
    (F : ∀ base : Heap, K.In base → base.Ns mainGlobals mg → FnG P w K mg base k fa fd [x] sp)
    (hbind : ∀ (s : Shared) (u : Value), BindsTo s fd ⟨[u], []⟩ [(x, u)])
    (hsp : ∀ H : Hp, SqL K H a (ns.map V.int) → sp [.ref a] H (fun v _ => v = .bl true) fun _ _ _ => False) :
    codeAny (model P w) callerA (.call (.ref fa) ⟨[.ref a], []⟩)
      (fun r s' => r = .ok (.ret (.bool true)) ∧ OldK s₁.heap s'.heap ∧ s'.os = s₁.os ∧ AllBare s'.gens) s₁ := by
  have rv := vals_ints hi
  have lv := hi.length
  obtain ⟨H, hH⟩ : ∃ H : Hp, ∀ b, H b = if b = a ∧ K.lookup a = none then some (.frz { cls := .type "list", data := .seq vs.toArray } (.lst (ns.map V.int))) else none := ⟨fun b => _, fun _ => rfl⟩
  have some_of : ∀ {b u}, H b = some u → b = a ∧ K.lookup a = none ∧ u = .frz { cls := .type "list", data := .seq vs.toArray } (.lst (ns.map V.int)) := by
    intro b u e
    rw [hH b] at e
    by_cases c : b = a ∧ K.lookup a = none
    · rw [if_pos c] at e
      exact ⟨c.1, c.2, (Option.some.inj e).symm⟩
    · rw [if_neg c] at e
      cases e
  have none_of : ∀ {b o} {es : Array DictEntry} {ep : Nat}, s₁.heap.get? b = some o → o.data = .dict es ep → H b = none := by
    intro b o es ep e d
    cases c : H b with
    | none => rfl
    | some u =>
      obtain ⟨rfl, _, _⟩ := some_of c
      rw [ha] at e
      cases e
      cases d
  have hS : SqL K H a (ns.map V.int) := by
    cases hk : K.lookup a with
    | none => exact .inl (.inr ⟨_, by rw [hH a, if_pos ⟨rfl, hk⟩]⟩)
    | some o =>
      have e := KX a o hk
      rw [ha] at e
      cases e
      refine .inr ⟨_, vs.toArray, _, hk, rfl, rfl, rfl, ?_, by simpa using rv⟩
      rw [List.size_toArray, lv]
      exact hl
  have hok : HOk P w H s₁.heap := by
    intro b u e
    obtain ⟨rfl, _, rfl⟩ := some_of e
    refine ⟨ha, ?_, vs, _, rv, ha⟩
    rw [List.length_map]
    exact hl
  have nsB : ∀ {b : Addr} {m : Str → Option Value}, s₁.heap.Ns b m → (hidT s₁.heap H).Ns b m := by
    rintro b m ⟨o, es, ep, e, d, r⟩
    exact ⟨o, es, ep, hidT_get e (none_of e d), d, r⟩
  have kB : K.In (hidT s₁.heap H) := by
    intro b o e
    refine hidT_get (KX b o e) ?_
    cases c : H b with
    | none => rfl
    | some u =>
      obtain ⟨rfl, k0, _⟩ := some_of c
      rw [k0] at e
      cases e
  have md : Mod K mg (hidT s₁.heap H) := by
    obtain ⟨mc, h1, h2⟩ := hlim
    exact ⟨kB, nsB hns, ⟨mb, nsB hb, hbb⟩, ⟨mc, nsB h1, h2⟩⟩
  have e0 : Env0 P w K mg (hidT s₁.heap H) callerA [] s₁ H := by
    refine ⟨rfl, md, fun b o e => of_hidT e, Nat.le_of_eq (hidT_size _ _), trivial, ?_, hok, .of_eq hge⟩
    intro b hb
    exact absurd (show b ∈ ([] : List Addr) from hb) (by simp)
  have go := (F _ kB (nsB hns)).run callerA [] s₁ H ⟨[.ref a], []⟩ [.ref a] [.ref a] _ _ rfl hr e0
    (hbind s₁ (.ref a)) (.cons rfl .nil) (hsp H hS)
  refine codeAny_mono go fun r s' h => ?_
  cases r with
  | error e => exact h.elim
  | ok fl =>
    cases fl with
    | ret u =>
      obtain ⟨v, H', os, bare, un, hok', r', qv⟩ := h
      have qv' : v = .bl true := qv
      subst qv'
      obtain rfl : u = Value.bool true := r'
      refine ⟨rfl, OldK.of_keep fun b o e => ?_, os, bare⟩
      cases c : H b with
      | none =>
        refine un.keep b o e c ?_ (by simp)
        intro z
        exact absurd (show b ∈ ([] : List Addr) from z) (by simp)
      | some u =>
        obtain ⟨_, _, rfl⟩ := some_of c
        have c2 := un.frzs b _ _ c
        obtain ⟨e1, _⟩ := hok b _ c
        obtain ⟨e2, _⟩ := hok' b _ c2
        rw [e] at e1
        cases e1
        exact e2
    | next => exact False.elim h
    | brk => exact False.elim h
    | cont => exact False.elim h
end
theorem walk_ofG {l : PySem.W.OpenLaw} {n k : Nat} {q : Program} {loose : List Str} {XP : (Str → Option Value) → Heap → Prop} {YP : World → Heap → Prop} {d : DefRec} {K : Params → PySem.W.Frag} {sp : World → Sp} {x : Str}
    (hn : l.most = some n) (hn2 : n ≤ sizeLine) (hdf : d.params.defaults = []) (hr : Room k callerA) (hY : ∀ (w : World) (h : Heap), YP w h → (K w.params).In h)
    (F : ∀ (w : World) (mg : Str → Option Value) (fa : Addr) (h : Heap), (K w.params).In h → h.Ns mainGlobals mg → mg d.name = some (.ref fa) →
      ∃ fd : FuncData, (∀ (s : Shared) (u : Value), BindsTo s fd ⟨[u], []⟩ [(x, u)]) ∧
        ∀ base : Heap, (K w.params).In base → base.Ns mainGlobals mg → FnG l.prog w (K w.params) mg base k fa fd [x] (sp w))
    (hsp : ∀ (w : World) (H : Hp) (a : Addr) (ns : List Int), ns.length ≤ n → SqL (K w.params) H a (ns.map V.int) → sp w [.ref a] H (fun v _ => v = .bl true) fun _ _ _ => False) :
    PySem.W.WalkO q loose XP YP l.row.toRowW d [] (fun f vs => PySem.call f vs) := by
  refine Att.attach_call hn hdf fun w s₀ s₁ mg mb fa o pm cd doc a vs ns G Y _ _ _ hmg hobj hints hlen hge => ?_
  have KX := hY w _ Y
  obtain ⟨fd, hb, hF⟩ := F w mg fa _ KX G.T.g hmg
  exact law_callG KX G.T.g G.T.b G.T.builtins G.T.nolimit hge hobj hints (Nat.le_trans hlen hn2) hr hF hb
    (fun H hS => hsp w H a ns hlen hS)
/-! ### repr of data -/
def rRepr (K : PySem.W.Frag) : List V → Hp → VK → Prop := fun xs H Q => ∃ (a : Addr) (d : PyData) (S : Str), xs = [.ref a] ∧ Dp K H (.ref a) d ∧ d.showable = true ∧ d.hasDict = false ∧ d.depth ≤ 30 ∧ d.shown.length ≤ sizeLine ∧ d.shown = S ∧ Q (.str S) H
theorem call_repr {X : Cx} (hg : X.A.guards = some []) (hu : X.A.units + 64 < cLine) : CallR X (.builtin "repr") (rRepr X.K) := by
  intro pins s σ H xs us Q I r h
  obtain ⟨a, d, S, rfl, hd, hs, hnd, hdep, hsz, hS, q⟩ := h
  subst hS
  obtain ⟨u, rfl, rx⟩ := vals1 r
  cases (show u = Value.ref a from rx)
  obtain ⟨as, rd⟩ := Dp.reads I d _ _ hd rfl
  refine repr_of_reads' rd hs (fun z => by rw [hnd] at z; cases z) hg (by omega) (fun _ _ e => e) (fun h' u tk hk => ?_) hsz
  exact ⟨.str d.shown, H, I.kept hk, ⟨_, rfl⟩, q⟩
/-! ### data that can be shown -/
structure RO (k w : Nat) (d : PyData) : Prop where
  sh : d.showable = true
  nd : d.hasDict = false
  dp : d.depth ≤ k
  lv : d.leavesShort 13 = true
  wt : d.weight ≤ w
theorem RO.none {w : Nat} : RO 0 w .none := ⟨rfl, rfl, Nat.le_refl _, rfl, Nat.zero_le _⟩
theorem RO.bool {w : Nat} (b : Bool) : RO 0 w (.bool b) := ⟨rfl, rfl, Nat.le_refl _, rfl, Nat.zero_le _⟩
theorem RO.int {i : Int} (h1 : -999999999999 ≤ i) (h2 : i ≤ 999999999999) : RO 0 41 (.int i) := by
  have hl : i.natAbs.log2 < 41 := by
    rcases Nat.eq_zero_or_pos i.natAbs with e | e
    · rw [e]
      decide
    · exact (Nat.log2_lt (by omega)).mpr (Nat.lt_of_le_of_lt (show i.natAbs ≤ 999999999999 by omega) (by decide))
  refine ⟨decide_eq_true (by omega), rfl, Nat.le_refl _, decide_eq_true (PyData.shown_int_le2 h1 h2), ?_⟩
  show (if i == 0 then 0 else i.natAbs.log2 + 1) ≤ 41
  split <;> omega
theorem RO.more {k w k' w' : Nat} {d : PyData} (h : RO k w d) (h1 : k ≤ k') (h2 : w ≤ w') : RO k' w' d := ⟨h.sh, h.nd, Nat.le_trans h.dp h1, h.lv, Nat.le_trans h.wt h2⟩
theorem ro_all {k w : Nat} : ∀ {ds : List PyData}, (∀ e ∈ ds, RO k w e) → PyData.showableAll ds = true ∧ PyData.hasDictAll ds = false ∧ PyData.depthAll ds ≤ k ∧ PyData.leavesShortAll 13 ds = true ∧ PyData.weightAll ds ≤ ds.length * (w + 1)
  | [], _ => ⟨rfl, rfl, Nat.zero_le _, rfl, Nat.zero_le _⟩
  | d :: t, h => by
    obtain ⟨a, b, c, e, f⟩ := ro_all (ds := t) fun x hx => h x (List.mem_cons_of_mem _ hx)
    have h1 := h d (List.mem_cons_self ..)
    refine ⟨?_, ?_, ?_, ?_, ?_⟩
    · show (d.showable && PyData.showableAll t) = true
      rw [h1.sh, a]
      rfl
    · show (d.hasDict || PyData.hasDictAll t) = false
      rw [h1.nd, b]
      rfl
    · show max d.depth (PyData.depthAll t) ≤ k
      exact Nat.max_le.mpr ⟨h1.dp, c⟩
    · show (d.leavesShort 13 && PyData.leavesShortAll 13 t) = true
      rw [h1.lv, e]
      rfl
    · show d.weight + 1 + PyData.weightAll t ≤ (t.length + 1) * (w + 1)
      have := h1.wt
      rw [Nat.add_mul, Nat.one_mul]
      omega
theorem RO.tup {k w n : Nat} {ds : List PyData} (h : ∀ e ∈ ds, RO k w e) (hn : ds.length * (w + 1) ≤ n) : RO (k + 1) n (.tuple ds) := by
  obtain ⟨a, b, c, e, f⟩ := ro_all h
  exact ⟨a, b, Nat.succ_le_succ c, e, Nat.le_trans f hn⟩
theorem RO.lst {k w n : Nat} {ds : List PyData} (h : ∀ e ∈ ds, RO k w e) (hn : ds.length * (w + 1) ≤ n) : RO (k + 1) n (.list ds) := by
  obtain ⟨a, b, c, e, f⟩ := ro_all h
  exact ⟨a, b, Nat.succ_le_succ c, e, Nat.le_trans f hn⟩
theorem RO.fits {k w : Nat} {d : PyData} (h : RO k w d) (hw : w ≤ 1000000) : d.shown.length ≤ sizeLine := by
  have := PyData.shown_le 13 (by decide) d h.lv
  have := h.wt
  have e : sizeLine = 16777216 := by decide
  omega
/-! ### windows and places as data -/
theorem dpAll_of {K : PySem.W.Frag} {H : Hp} {β : Type} {R : V → β → Prop} {f : β → PyData} (h : ∀ v m, R v m → Dp K H v (f m)) : ∀ {vs : List V} {ms : List β}, Paired R vs ms → DpAll K H vs (ms.map f)
  | _, _, .nil => .nil
  | _, _, .cons r t => .cons (h _ _ r) (dpAll_of h t)
def rwD (r : RW) : PyData := .tuple [.int r.1, .int r.2]
def plD (p : RW × RW) : PyData := .tuple [rwD p.1, rwD p.2]
def mvD (m : MV) : PyData := .tuple [.int m.1, .int m.2.1, .int m.2.2]
def winD (x y : Int) (ms : List MV) : PyData := .tuple [.int x, .int y, .tuple (ms.map mvD)]
theorem RowAt.dp {K : PySem.W.Frag} {H : Hp} {v : V} {r : RW} : RowAt K H v r → Dp K H v (rwD r) := by
  rintro ⟨p, rfl, h⟩
  exact .tup h (.cons (.int _) (.cons (.int _) .nil))
theorem PlAt.dp {K : PySem.W.Frag} {H : Hp} {v : V} {p : RW × RW} : PlAt K H v p → Dp K H v (plD p) := by
  rintro ⟨a, v1, v2, rfl, h, r1, r2⟩
  exact .tup h (.cons r1.dp (.cons r2.dp .nil))
theorem MoveAt.dp {K : PySem.W.Frag} {H : Hp} {v : V} {m : MV} : MoveAt K H v m → Dp K H v (mvD m) := by
  rintro ⟨p, rfl, h⟩
  exact .tup h (.cons (.int _) (.cons (.int _) (.cons (.int _) .nil)))
theorem WinAt.dp {K : PySem.W.Frag} {H : Hp} {v : V} {x y : Int} {ms : List MV} : WinAt K H v x y ms → Dp K H v (winD x y ms) := by
  rintro ⟨p, mv, rfl, h, pm, vs, rfl, hq, pd⟩
  exact .tup h (.cons (.int _) (.cons (.int _) (.cons (.tup hq (dpAll_of (f := mvD) (fun _ _ h => MoveAt.dp h) pd)) .nil)))
theorem mem3 {α : Type} {a b c e : α} (h : e ∈ [a, b, c]) : e = a ∨ e = b ∨ e = c := by
  simpa using h
theorem mvD_ro {m : MV} (h : VMove m) : RO 1 126 (mvD m) := by
  obtain ⟨h1, h2, h3, h4⟩ := h
  refine RO.tup (k := 0) (w := 41) (fun e he => ?_) (by show 3 * 42 ≤ 126; decide)
  rcases mem3 he with rfl | rfl | rfl <;> exact RO.int (by omega) (by omega)
theorem winD_ro {x y : Int} {ms : List MV} (h : VWin x y ms) : RO 3 3051 (winD x y ms) := by
  obtain ⟨h1, h2, h3, h4⟩ := h
  refine RO.tup (k := 2) (w := 1016) (fun e he => ?_) (by show 3 * 1017 ≤ 3051; decide)
  rcases mem3 he with rfl | rfl | rfl
  · exact (RO.int (by omega) (by omega)).more (by omega) (by omega)
  · exact (RO.int (by omega) (by omega)).more (by omega) (by omega)
  · refine RO.tup (k := 1) (w := 126) (fun e he => ?_) ?_
    · obtain ⟨m, hm, rfl⟩ := List.mem_map.mp he
      exact mvD_ro (h4 m hm)
    · rw [List.length_map]
      omega
theorem ro_args {k w : Nat} {d : PyData} (h : RO k w d) (hk : k ≤ 30) (hw : w ≤ 1000000) : d.showable = true ∧ d.hasDict = false ∧ d.depth ≤ 30 ∧ d.shown.length ≤ sizeLine := ⟨h.sh, h.nd, Nat.le_trans h.dp hk, h.fits hw⟩
theorem fl_int (i : Int) : flD (.int i) := .inr (.inr ⟨i, rfl⟩)
theorem dOk_rw (r : RW) : dOk 1 (rwD r) := by
  refine .inr ⟨_, .inr rfl, (by show 2 ≤ 1000; decide), fun e he => ?_⟩
  rcases List.mem_cons.mp he with rfl | he
  · exact fl_int _
  · rw [List.mem_singleton.mp he]
    exact fl_int _
theorem dOk_pl (p : RW × RW) : dOk 2 (plD p) := by
  refine .inr ⟨_, .inr rfl, (by show 2 ≤ 1000; decide), fun e he => ?_⟩
  rcases List.mem_cons.mp he with rfl | he
  · exact dOk_rw _
  · rw [List.mem_singleton.mp he]
    exact dOk_rw _
/-! ### layers, sheets, pictures as data -/
def bkD : Option Int → PyData
  | none => .none
  | some i => .int i
def lyD (l : LY) : PyData := .tuple [.tuple (l.1.map rwD), bkD l.2]
def shD (ls : List LY) (x y : Int) (ms : List MV) : PyData := .tuple [.tuple (ls.map lyD), winD x y ms]
def picD (c : PIC) : PyData := .tuple [.tuple (c.1.map .int), plD c.2]
theorem bkD_dp {K : PySem.W.Frag} {H : Hp} (o : Option Int) : Dp K H (bkV o) (bkD o) := by
  cases o with
  | none => exact .non
  | some i => exact .int i
theorem LyAt.dp {K : PySem.W.Frag} {H : Hp} {v : V} {l : LY} : LyAt K H v l → Dp K H v (lyD l) := by
  rintro ⟨p, rv, rfl, h, pr, vs, rfl, hq, pd⟩
  exact .tup h (.cons (.tup hq (dpAll_of (f := rwD) (fun _ _ h => RowAt.dp h) pd)) (.cons (bkD_dp _) .nil))
theorem ShAt.dp {K : PySem.W.Frag} {H : Hp} {v : V} {ls : List LY} {x y : Int} {ms : List MV} : ShAt K H v ls x y ms → Dp K H v (shD ls x y ms) := by
  rintro ⟨p, lv, wv, rfl, h, ⟨pl, vs, rfl, hq, pd⟩, hw⟩
  exact .tup h (.cons (.tup hq (dpAll_of (f := lyD) (fun _ _ h => LyAt.dp h) pd)) (.cons hw.dp .nil))
theorem ints_dp {K : PySem.W.Frag} {H : Hp} : ∀ ns : List Int, DpAll K H (ns.map V.int) (ns.map .int)
  | [] => .nil
  | n :: r => .cons (.int n) (ints_dp r)
theorem PicAt.dp {K : PySem.W.Frag} {H : Hp} {v : V} {c : PIC} : PicAt K H v c → Dp K H v (picD c) := by
  rintro ⟨a, b, v2, rfl, h, h1, h2⟩
  exact .tup h (.cons (.tup h1 (ints_dp _)) (.cons h2.dp .nil))
theorem mem2 {α : Type} {a b e : α} (h : e ∈ [a, b]) : e = a ∨ e = b := by
  simpa using h
theorem rwD_ro {r : RW} (h : VRow r) : RO 1 84 (rwD r) := by
  obtain ⟨h1, h2, h3, h4⟩ := h
  refine RO.tup (k := 0) (w := 41) (fun e he => ?_) (by show 2 * 42 ≤ 84; decide)
  rcases mem2 he with rfl | rfl <;> exact RO.int (by omega) (by omega)
theorem lyD_ro {l : LY} (h : VLy l) : RO 3 1362 (lyD l) := by
  obtain ⟨⟨h8, hr⟩, hb⟩ := h
  refine RO.tup (k := 2) (w := 680) (fun e he => ?_) (by show 2 * 681 ≤ 1362; decide)
  rcases mem2 he with rfl | rfl
  · refine RO.tup (k := 1) (w := 84) (fun e he => ?_) ?_
    · obtain ⟨r, hm, rfl⟩ := List.mem_map.mp he
      exact rwD_ro (hr r hm)
    · rw [List.length_map]
      omega
  · cases e : l.2 with
    | none => exact RO.none.more (by omega) (Nat.le_refl _)
    | some i =>
      have := hb i e
      exact (RO.int (by omega) (by omega)).more (by omega) (by omega)
theorem shD_ro {ls : List LY} {x y : Int} {ms : List MV} (h : VLays ls) (hw : VWin x y ms) : RO 5 10906 (shD ls x y ms) := by
  obtain ⟨h1, h4, hl⟩ := h
  refine RO.tup (k := 4) (w := 5452) (fun e he => ?_) (by show 2 * 5453 ≤ 10906; decide)
  rcases mem2 he with rfl | rfl
  · refine RO.tup (k := 3) (w := 1362) (fun e he => ?_) ?_
    · obtain ⟨l, hm, rfl⟩ := List.mem_map.mp he
      exact lyD_ro (hl l hm)
    · rw [List.length_map]
      omega
  · exact (winD_ro hw).more (by omega) (by omega)
theorem dOk_up : ∀ {n : Nat} {d : PyData}, dOk n d → dOk (n + 1) d
  | 0, _, h => .inl h
  | n + 1, _, .inl h => .inl h
  | n + 1, _, .inr ⟨ds, h1, h2, h3⟩ => .inr ⟨ds, h1, h2, fun e he => dOk_up (h3 e he)⟩
theorem dOk_pic {c : PIC} (h : c.1.length ≤ 1000) : dOk 3 (picD c) := by
  refine .inr ⟨_, .inr rfl, (by show 2 ≤ 1000; decide), fun e he => ?_⟩
  rcases mem2 he with rfl | rfl
  · refine dOk_up (n := 1) (.inr ⟨_, .inr rfl, by rw [List.length_map]; exact h, fun e he => ?_⟩)
    obtain ⟨i, _, rfl⟩ := List.mem_map.mp he
    exact fl_int i
  · exact dOk_pl _
theorem dOk_pics {cs : List PIC} (h : cs.length ≤ 1000) (hc : ∀ c ∈ cs, c.1.length ≤ 1000) : dOk 4 (.list (cs.map picD)) := by
  refine .inr ⟨_, .inl rfl, by rw [List.length_map]; exact h, fun e he => ?_⟩
  obtain ⟨c, hm, rfl⟩ := List.mem_map.mp he
  exact dOk_pic (hc c hm)
theorem lcmap_list {K : PySem.W.Frag} {a : Addr} {xs : List V} {g : TG} {tt : TT} {te : TE} {vs : List Nat} {σ : L2.St} {H1 : Hp} {D : Addr} {Qd : Hp → Prop} (ys : List V) (hl : ys.length = xs.length) (hz : xs.length ≤ 1000) (hS : SqL K H1 a xs) (hD : H1 D = none)
    (hs : ∀ (i : Nat) (x y : V) (H : Hp) (R : V → Hp → Prop) (Z : Hp → Prop), xs[i]? = some x → ys[i]? = some y → Same H1 H → (∀ H4, Same H H4 → R y H4) → g x (wipe σ vs) H fun σ2 H2 => wipe σ2 vs = wipe σ vs ∧ tt σ2 H2 fun b H3 => if b = true then te σ2 H3 R else Z H3)
    (hd : ∀ H, Same H1 H → H D = some (.lst ys) → Qd H) :
    ∃ W : Nat → Nat → Hp → Prop, (∃ m, W 0 m (upd H1 D (.lst []))) ∧ ∀ i m H, W i m H →
      ((Itl K a).stop i H ∧ Qd H) ∨ ((Itl K a).go i H ∧ ∃ Nx : Hp → Prop, (∀ H', Nx H' → ∃ m', m' < m ∧ W (i + 1) m' H') ∧ ∀ x H', (Itl K a).yld i H x H' → g x (wipe σ vs) H' fun σ2 H2 => wipe σ2 vs = wipe σ vs ∧ tt σ2 H2 fun b H3 =>
        if b = true then te σ2 H3 fun y H4 => ∃ acc, H4 D = some (.lst acc) ∧ acc.length < sizeLine ∧ Nx (upd H4 D (.lst (acc ++ [y]))) else Nx H3) := by
  refine lc_list (K := K) (a := a) (xs := xs) (fun i H => Same H1 H ∧ H D = some (.lst (ys.take i))) ⟨same_upd hD, upd_same⟩ (fun i H _ p => p.1.seq hS) (fun i x H hx p => ?_) (fun H p => ?_)
  · have hi : i < xs.length := (List.getElem?_eq_some_iff.mp hx).1
    obtain ⟨y, hy⟩ : ∃ y, ys[i]? = some y := ⟨_, List.getElem?_eq_getElem (by omega)⟩
    refine hs i x y H _ _ hx hy p.1 (fun H4 s4 => ⟨ys.take i, s4 _ _ p.2, ?_, ?_, ?_⟩)
    · rw [List.length_take]
      exact Nat.lt_of_le_of_lt (Nat.min_le_left _ _) (small1000 (by omega))
    · intro b o e
      rw [upd_ne (ne_of_none e hD)]
      exact s4 _ _ (p.1 _ _ e)
    · rw [upd_same, List.take_add_one, hy]
      rfl
  · refine hd H p.1 ?_
    rw [p.2, List.take_of_length_le (by omega)]
/-! ### laying -/
def rnd (rs : List RW) : Option Int → Int
  | none => 0
  | some b => tot (rs.drop b.toNat)
def lays (rs : List RW) (bk : Option Int) (n : Nat) : List V := (List.range n).map fun i => V.int (shown rs bk (i : Nat))
theorem lays_at {rs : List RW} {bk : Option Int} {n i : Nat} (h : i < n) : (lays rs bk n)[i]? = some (.int (shown rs bk (i : Nat))) := by
  unfold lays
  rw [List.getElem?_map, List.getElem?_range h]
  rfl
theorem lays_len (rs : List RW) (bk : Option Int) (n : Nat) : (lays rs bk n).length = n := by
  unfold lays
  rw [List.length_map, List.length_range]
theorem lays_of {rs : List RW} {bk : Option Int} {n : Nat} {fs : List Int} (hl : n ≤ fs.length) (h : ∀ i, i < fs.length → fs[i]? = some (shown rs bk (i : Nat))) : (fs.map V.int).take n = lays rs bk n := by
  apply List.ext_getElem?
  intro i
  by_cases hi : i < n
  · rw [lays_at hi, List.getElem?_take_of_lt hi, List.getElem?_map, h i (by omega)]
    rfl
  · rw [List.getElem?_eq_none (by rw [List.length_take]; omega), List.getElem?_eq_none (by rw [lays_len]; omega)]
/-! ### laid out, row by row -/
/-- a walk over J: Body tells what is asked of a turn, Qd what is asked at the end -/
abbrev Goes (J : It) (Body : V → Hp → (Hp → Prop) → Prop) (Hs : Hp) (Qd : Hp → Prop) : Prop :=
  ∃ W : Nat → Nat → Hp → Prop, (∃ m, W 0 m Hs) ∧ ∀ i m H, W i m H →
    (J.stop i H ∧ Qd H) ∨ (J.go i H ∧ ∃ Nx : Hp → Prop, (∀ H', Nx H' → ∃ m', m' < m ∧ W (i + 1) m' H') ∧ ∀ x H', J.yld i H x H' → Body x H' Nx)
/-- n turns: Pv i stands when i of them are done -/
theorem goes_by {J : It} {n : Nat} {Body : V → Hp → (Hp → Prop) → Prop} {Hs : Hp} {Qd : Hp → Prop} (Pv : Nat → Hp → Prop) (h0 : Pv 0 Hs) (last : ∀ H, Pv n H → J.stop n H ∧ Qd H)
    (turn : ∀ i H, i < n → Pv i H → J.go i H ∧ ∀ x H', J.yld i H x H' → Body x H' (Pv (i + 1))) : Goes J Body Hs Qd := by
  refine ⟨fun done left H => done + left = n ∧ Pv done H, ⟨n, Nat.zero_add n, h0⟩, fun i left H here => ?_⟩
  cases left with
  | zero =>
    obtain ⟨rfl, p⟩ := here
    exact .inl (last H p)
  | succ less =>
    have now := turn i H (by have := here.1; omega) here.2
    exact .inr ⟨now.1, Pv (i + 1), fun H' p => ⟨less, Nat.lt_succ_self less, by have := here.1; omega, p⟩, now.2⟩
theorem wk_tup {K : PySem.W.Frag} {a : Addr} {xs : List V} {Body : V → Hp → (Hp → Prop) → Prop} {Hs : Hp} {Qd : Hp → Prop} (Pv : Nat → Hp → Prop) (h0 : Pv 0 Hs) (hl : ∀ i H, i ≤ xs.length → Pv i H → SqT K H a xs)
    (hs : ∀ i x H, xs[i]? = some x → Pv i H → Body x H (Pv (i + 1))) (hd : ∀ H, Pv xs.length H → Qd H) : Goes (Itt K a) Body Hs Qd :=
  goes_by (n := xs.length) Pv h0 (fun H p => ⟨⟨xs, hl _ H (Nat.le_refl _) p, Nat.le_refl _⟩, hd H p⟩) fun i H lt p =>
    have stays := hl i H (Nat.le_of_lt lt) p
    ⟨⟨xs, _, stays, List.getElem?_eq_getElem lt⟩, fun x _ y => y.1 ▸ hs i x H (y.2 xs stays) p⟩
theorem wk_list {K : PySem.W.Frag} {a : Addr} {xs : List V} {Body : V → Hp → (Hp → Prop) → Prop} {Hs : Hp} {Qd : Hp → Prop} (Pv : Nat → Hp → Prop) (h0 : Pv 0 Hs) (hl : ∀ i H, i ≤ xs.length → Pv i H → SqL K H a xs)
    (hs : ∀ i x H, xs[i]? = some x → Pv i H → Body x H (Pv (i + 1))) (hd : ∀ H, Pv xs.length H → Qd H) : Goes (Itl K a) Body Hs Qd :=
  goes_by (n := xs.length) Pv h0 (fun H p => ⟨⟨xs, hl _ H (Nat.le_refl _) p, Nat.le_refl _⟩, hd H p⟩) fun i H lt p =>
    have stays := hl i H (Nat.le_of_lt lt) p
    ⟨⟨xs, _, stays, List.getElem?_eq_getElem lt⟩, fun x _ y => y.1 ▸ hs i x H (y.2 xs stays) p⟩
theorem wk_range {lo : Int} {n : Nat} {Body : V → Hp → (Hp → Prop) → Prop} {Hs : Hp} {Qd : Hp → Prop} (Pv : Nat → Hp → Prop) (h0 : Pv 0 Hs)
    (hs : ∀ i H, i < n → Pv i H → Body (.int (lo + i)) H (Pv (i + 1))) (hd : ∀ H, Pv n H → Qd H) : Goes (Itr lo n) Body Hs Qd :=
  goes_by Pv h0 (fun H p => ⟨Nat.le_refl n, hd H p⟩) fun i H lt p => ⟨lt, fun _ _ y => y.1 ▸ y.2 ▸ hs i H lt p⟩
theorem yes_ok2 {σ : L2.St} {H : Hp} {X Z : Hp → Prop} (h : X H) : tYes σ H (fun b H3 => if b = true then X H3 else Z H3) := by
  show if true = true then X H else Z H
  rw [if_pos rfl]
  exact h
def dwg : List RW → List Int
  | [] => []
  | r :: t => List.replicate r.2.toNat r.1 ++ dwg t
theorem dwg_append (a b : List RW) : dwg (a ++ b) = dwg a ++ dwg b := by
  induction a with
  | nil => rfl
  | cons r t ih => rw [List.cons_append, dwg, dwg, ih, List.append_assoc]
theorem dwg_len : ∀ {rs : List RW}, (∀ r ∈ rs, VRow r) → ((dwg rs).length : Int) = tot rs
  | [], _ => rfl
  | r :: t, v => by
    have v1 := v r (List.mem_cons_self ..)
    have ih := dwg_len (rs := t) fun q hq => v q (List.mem_cons_of_mem _ hq)
    rw [dwg, List.length_append, List.length_replicate, tot_cons]
    obtain ⟨_, _, h3, _⟩ := v1
    omega
theorem dwg_at : ∀ {rs : List RW} {i : Nat}, (∀ r ∈ rs, VRow r) → (i : Int) < tot rs → (dwg rs)[i]? = some (walk rs i)
  | [], i, _, h => by
    rw [tot_nil] at h
    omega
  | r :: t, i, v, h => by
    have v1 := v r (List.mem_cons_self ..)
    have vt : ∀ q ∈ t, VRow q := fun q hq => v q (List.mem_cons_of_mem _ hq)
    obtain ⟨_, _, h3, _⟩ := v1
    rw [tot_cons] at h
    rw [dwg]
    unfold walk
    by_cases c : (i : Int) < r.2
    · rw [if_pos c, List.getElem?_append_left (by rw [List.length_replicate]; omega), List.getElem?_replicate, if_pos (by omega)]
    · rw [if_neg c, List.getElem?_append_right (by rw [List.length_replicate]; omega), List.length_replicate]
      have := dwg_at (rs := t) (i := i - r.2.toNat) vt (by omega)
      rw [this]
      congr 2
      omega
theorem walk_cons (r : RW) (t : List RW) (m : Int) : walk (r :: t) m = if m < r.2 then r.1 else walk t (m - r.2) := rfl
theorem walk_append : ∀ {a b : List RW} {m : Int}, (∀ r ∈ a, VRow r) → 0 ≤ m → walk (a ++ b) m = if m < tot a then walk a m else walk b (m - tot a)
  | [], b, m, _, h => by
    rw [tot_nil, if_neg (by omega), List.nil_append, show m - 0 = m by omega]
  | r :: t, b, m, v, h => by
    have v1 := v r (List.mem_cons_self ..)
    have vt : ∀ q ∈ t, VRow q := fun q hq => v q (List.mem_cons_of_mem _ hq)
    have t0 := (tot_nonneg vt).1
    obtain ⟨_, _, h3, _⟩ := v1
    rw [List.cons_append, tot_cons, walk_cons, walk_cons]
    by_cases c : m < r.2
    · rw [if_pos c, if_pos (by omega), if_pos c]
    · rw [if_neg c, walk_append vt (by omega), if_neg c]
      by_cases d : m < r.2 + tot t
      · rw [if_pos d, if_pos (by omega)]
      · rw [if_neg d, if_neg (by omega), show m - r.2 - tot t = m - (r.2 + tot t) by omega]
theorem rep_at {α : Type} {B : List α} (hB : 0 < B.length) : ∀ (t j : Nat), j < t * B.length → (List.replicate t B).flatten[j]? = B[j % B.length]?
  | 0, j, h => by omega
  | t + 1, j, h => by
    rw [List.replicate_succ, List.flatten_cons]
    by_cases c : j < B.length
    · rw [List.getElem?_append_left c, Nat.mod_eq_of_lt c]
    · rw [List.getElem?_append_right (by omega), rep_at hB t (j - B.length) (by rw [Nat.add_mul, Nat.one_mul] at h; omega), ← Nat.mod_eq_sub_mod (by omega)]
/-- what a layer shows: ahead once, around again and again -/
def ahL (rs : List RW) : Option Int → List Int
  | none => dwg rs
  | some b => dwg (rs.take b.toNat)
def arL (rs : List RW) : Option Int → List Int
  | none => [0]
  | some b => dwg (rs.drop b.toNat)
theorem VRows.takeV {rs : List RW} (v : VRows rs) (k : Nat) : VRows (rs.take k) := ⟨by rw [List.length_take]; have := v.1; omega, fun r hr => v.2 r (List.mem_of_mem_take hr)⟩
theorem VRows.dropV {rs : List RW} (v : VRows rs) (k : Nat) : VRows (rs.drop k) := ⟨by rw [List.length_drop]; have := v.1; omega, fun r hr => v.2 r (List.mem_of_mem_drop hr)⟩
theorem ahL_len {rs : List RW} {bk : Option Int} (v : VRows rs) : (ahL rs bk).length ≤ 192 := by
  cases bk with
  | none =>
    have h := dwg_len v.2
    have t := (tot_nonneg v.2).2
    have := v.1
    show (dwg rs).length ≤ 192
    omega
  | some b =>
    have h := dwg_len (v.takeV b.toNat).2
    have t := (tot_nonneg (v.takeV b.toNat).2).2
    have := (v.takeV b.toNat).1
    show (dwg (rs.take b.toNat)).length ≤ 192
    omega
theorem arL_len {rs : List RW} {bk : Option Int} (v : VRows rs) (vb : VBack rs bk) : 1 ≤ (arL rs bk).length ∧ (arL rs bk).length ≤ 192 := by
  cases bk with
  | none => exact ⟨Nat.le_refl _, by show 1 ≤ 192; omega⟩
  | some b =>
    have hb := vb b rfl
    have h := dwg_len (v.dropV b.toNat).2
    have t := tot_nonneg (v.dropV b.toNat).2
    have := v.1
    rw [List.length_drop] at t
    show 1 ≤ (dwg (rs.drop b.toNat)).length ∧ (dwg (rs.drop b.toNat)).length ≤ 192
    omega
theorem shown_lay {rs : List RW} {bk : Option Int} (v : VRows rs) (vb : VBack rs bk) (i : Nat) :
    some (shown rs bk i) = if i < (ahL rs bk).length then (ahL rs bk)[i]? else (arL rs bk)[(i - (ahL rs bk).length) % (arL rs bk).length]? := by
  cases bk with
  | none =>
    have h := dwg_len v.2
    show some (walk rs i) = if i < (dwg rs).length then (dwg rs)[i]? else ([0] : List Int)[(i - (dwg rs).length) % 1]?
    by_cases c : i < (dwg rs).length
    · rw [if_pos c, dwg_at v.2 (by omega)]
    · rw [if_neg c, walk_out rs i (by omega) v.2, Nat.mod_one]
      rfl
  | some b =>
    have hb := vb b rfl
    have h := dwg_len (v.takeV b.toNat).2
    have h2 := dwg_len (v.dropV b.toNat).2
    have t2 := (tot_nonneg (v.dropV b.toNat).2).1
    rw [List.length_drop] at t2
    have cpos : 0 < tot (rs.drop b.toNat) := by omega
    show some (walk rs (if (i : Int) < tot (rs.take b.toNat) then (i : Int) else tot (rs.take b.toNat) + ((i : Int) - tot (rs.take b.toNat)) % tot (rs.drop b.toNat))) = if i < (dwg (rs.take b.toNat)).length then (dwg (rs.take b.toNat))[i]? else (dwg (rs.drop b.toNat))[(i - (dwg (rs.take b.toNat)).length) % (dwg (rs.drop b.toNat)).length]?
    have wa := fun m h0 => walk_append (a := rs.take b.toNat) (b := rs.drop b.toNat) (m := m) (v.takeV b.toNat).2 h0
    rw [List.take_append_drop] at wa
    by_cases c : i < (dwg (rs.take b.toNat)).length
    · rw [if_pos c, if_pos (by omega), wa _ (by omega), if_pos (by omega), dwg_at (v.takeV b.toNat).2 (by omega)]
    · have m0 := Int.emod_nonneg ((i : Int) - tot (rs.take b.toNat)) (show tot (rs.drop b.toNat) ≠ 0 by omega)
      have m1 := Int.emod_lt_of_pos ((i : Int) - tot (rs.take b.toNat)) cpos
      have t1 := (tot_nonneg (v.takeV b.toNat).2).1
      have em : (((i - (dwg (rs.take b.toNat)).length) % (dwg (rs.drop b.toNat)).length : Nat) : Int) = ((i : Int) - tot (rs.take b.toNat)) % tot (rs.drop b.toNat) := by
        rw [Int.natCast_emod, h2, Int.natCast_sub (by omega), h]
      rw [if_neg c, if_neg (by omega), wa _ (by omega), if_neg (by omega), dwg_at (v.dropV b.toNat).2 (by omega), em]
      congr 2
      omega
def laysI (rs : List RW) (bk : Option Int) (n : Nat) : List Int := (List.range n).map fun i => shown rs bk (i : Nat)
theorem laysI_map (rs : List RW) (bk : Option Int) (n : Nat) : lays rs bk n = (laysI rs bk n).map V.int := by
  unfold lays laysI
  rw [List.map_map]
  rfl
theorem first_lay {rs : List RW} {bk : Option Int} (v : VRows rs) (vb : VBack rs bk) {n t : Nat} (ht : n ≤ (ahL rs bk).length + t * (arL rs bk).length) :
    ((ahL rs bk) ++ (List.replicate t (arL rs bk)).flatten).take n = laysI rs bk n := by
  have hp := (arL_len v vb).1
  apply List.ext_getElem?
  intro i
  unfold laysI
  by_cases hi : i < n
  · rw [List.getElem?_take_of_lt hi, List.getElem?_map, List.getElem?_range hi]
    show _ = some (shown rs bk (i : Nat))
    rw [shown_lay v vb]
    by_cases c : i < (ahL rs bk).length
    · rw [if_pos c, List.getElem?_append_left c]
    · rw [if_neg c, List.getElem?_append_right (by omega), rep_at (by omega) t _ (by omega)]
  · rw [List.getElem?_eq_none (by rw [List.length_take]; omega), List.getElem?_eq_none (by rw [List.length_map, List.length_range]; omega)]
/-! ### data that is compared -/
mutual
def nb : PyData → Bool
  | .none => true
  | .int _ => true
  | .str x => PyData.strOk x
  | .bool _ => false
  | .list xs => nbs xs
  | .tuple xs => nbs xs
  | .dict _ => false
def nbs : List PyData → Bool
  | [] => true
  | x :: xs => nb x && nbs xs
end
theorem nbs_all : ∀ {xs : List PyData}, (∀ x ∈ xs, nb x = true) → nbs xs = true
  | [], _ => rfl
  | x :: xs, h => by
    show (nb x && nbs xs) = true
    rw [h x (List.mem_cons_self ..), nbs_all fun y hy => h y (List.mem_cons_of_mem _ hy)]
    rfl
mutual
theorem nb_can : ∀ d : PyData, nb d = true → d.canLay0 = true
  | .none, _ => rfl
  | .int _, _ => rfl
  | .str x, h => h
  | .bool _, h => nomatch h
  | .list xs, h => nbs_can xs h
  | .tuple xs, h => nbs_can xs h
  | .dict _, h => nomatch h
theorem nbs_can : ∀ xs : List PyData, nbs xs = true → PyData.canLayAll0 xs = true
  | [], _ => rfl
  | x :: xs, h => by
    have h' : (nb x && nbs xs) = true := h
    rw [Bool.and_eq_true] at h'
    show (x.canLay0 && PyData.canLayAll0 xs) = true
    rw [nb_can x h'.1, nbs_can xs h'.2]
    rfl
end
mutual
theorem nb_eq : ∀ d e : PyData, nb d = true → nb e = true → (PyData.eqv d e = true → d = e)
  | .none, e, _, h => by cases e <;> first | (intro _; rfl) | (intro z; cases z) | (cases h)
  | .int i, e, _, h => by
    cases e <;> first | (intro z; cases z) | (cases h) | skip
    intro z
    rw [PyData.eqv] at z
    rw [eq_of_beq z]
  | .str x, e, _, h => by
    cases e <;> first | (intro z; cases z) | (cases h) | skip
    intro z
    rw [PyData.eqv] at z
    rw [eq_of_beq z]
  | .bool _, _, h, _ => nomatch h
  | .list xs, e, h0, h => by
    cases e <;> first | (intro z; cases z) | (cases h) | skip
    intro z
    rw [PyData.eqv] at z
    rw [nbs_eq xs _ h0 h z]
  | .tuple xs, e, h0, h => by
    cases e <;> first | (intro z; cases z) | (cases h) | skip
    intro z
    rw [PyData.eqv] at z
    rw [nbs_eq xs _ h0 h z]
  | .dict _, _, h, _ => nomatch h
theorem nbs_eq : ∀ xs ys : List PyData, nbs xs = true → nbs ys = true → (PyData.eqvAll xs ys = true → xs = ys)
  | [], [], _, _ => fun _ => rfl
  | [], _ :: _, _, _ => fun z => nomatch z
  | _ :: _, [], _, _ => fun z => nomatch z
  | x :: xs, y :: ys, h0, h => by
    intro z
    have h0' : (nb x && nbs xs) = true := h0
    have h' : (nb y && nbs ys) = true := h
    rw [Bool.and_eq_true] at h0' h'
    rw [PyData.eqvAll, Bool.and_eq_true] at z
    rw [nb_eq x y h0'.1 h'.1 z.1, nbs_eq xs ys h0'.2 h'.2 z.2]
end
theorem nb_eqv {d e : PyData} (h0 : nb d = true) (h : nb e = true) : PyData.eqv d e = true ↔ d = e :=
  ⟨nb_eq d e h0 h, fun z => by rw [z]; exact SeqAt.eqv_refl e (nb_can e h)⟩
/-- may be compared: depth at most k -/
structure Sd (k : Nat) (d : PyData) : Prop where
  nb : nb d = true
  dp : d.depth ≤ k
theorem Sd.int {k : Nat} (i : Int) : Sd k (.int i) := ⟨rfl, Nat.zero_le _⟩
theorem Sd.none {k : Nat} : Sd k .none := ⟨rfl, Nat.zero_le _⟩
theorem Sd.more {k k' : Nat} {d : PyData} (h : Sd k d) (h1 : k ≤ k') : Sd k' d := ⟨h.nb, Nat.le_trans h.dp h1⟩
theorem sd_all {k : Nat} : ∀ {ds : List PyData}, (∀ e ∈ ds, Sd k e) → PyData.depthAll ds ≤ k
  | [], _ => Nat.zero_le _
  | d :: t, h => Nat.max_le.mpr ⟨(h d (List.mem_cons_self ..)).dp, sd_all fun x hx => h x (List.mem_cons_of_mem _ hx)⟩
theorem Sd.tup {k : Nat} {ds : List PyData} (h : ∀ e ∈ ds, Sd k e) : Sd (k + 1) (.tuple ds) := ⟨nbs_all fun x hx => (h x hx).nb, Nat.succ_le_succ (sd_all h)⟩
theorem Sd.lst {k : Nat} {ds : List PyData} (h : ∀ e ∈ ds, Sd k e) : Sd (k + 1) (.list ds) := ⟨nbs_all fun x hx => (h x hx).nb, Nat.succ_le_succ (sd_all h)⟩
theorem Sd.sh {k : Nat} {d : PyData} (h : Sd k d) (hk : k ≤ 64) : SeqAt.shaped d = true := by
  show (d.canLay0 && decide (d.depth ≤ 64)) = true
  rw [nb_can d h.nb, decide_eq_true (Nat.le_trans h.dp hk)]
  rfl
theorem Sd.ints {ns : List Int} : Sd 1 (.list (ns.map .int)) := Sd.lst fun e he => by
  obtain ⟨i, _, rfl⟩ := List.mem_map.mp he
  exact Sd.int i
theorem Sd.intsT {ns : List Int} : Sd 1 (.tuple (ns.map .int)) := Sd.tup fun e he => by
  obtain ⟨i, _, rfl⟩ := List.mem_map.mp he
  exact Sd.int i
theorem ints_inj {ns ms : List Int} : ns.map PyData.int = ms.map PyData.int ↔ ns = ms :=
  ⟨fun h => List.map_inj_right (fun _ _ e => PyData.int.inj e) |>.mp h, fun h => by rw [h]⟩
theorem eqv_ints (ns ms : List Int) : PyData.eqv (.list (ns.map .int)) (.list (ms.map .int)) = decide (ns = ms) := by
  have h := nb_eqv (Sd.ints (ns := ns)).nb (Sd.ints (ns := ms)).nb
  by_cases e : ns = ms
  · rw [decide_eq_true e]
    exact h.mpr (by rw [e])
  · rw [decide_eq_false e]
    exact Bool.eq_false_iff.mpr fun z => e (ints_inj.mp (PyData.list.inj (h.mp z)))
/-- x != y of data: the readings -/
theorem ne_data {K : PySem.W.Frag} {H : Hp} {x y : V} {d e : PyData} {k : Nat} {Q : VK} (hx : Dp K H x d) (hy : Dp K H y e) (sd : Sd k d) (se : Sd k e) (hk : k ≤ 64) (q : ∀ b : Bool, (b = true ↔ d = e) → Q (.bl (!b)) H) : rNeD K x y H Q :=
  ⟨d, e, hx, hy, sd.sh hk, se.sh hk, q _ (nb_eqv sd.nb se.nb)⟩
theorem ne_same {K : PySem.W.Frag} {H : Hp} {x y : V} {d : PyData} {k : Nat} {Q : VK} (hx : Dp K H x d) (hy : Dp K H y d) (sd : Sd k d) (hk : k ≤ 64) (q : Q (.bl false) H) : rNeD K x y H Q :=
  ⟨d, d, hx, hy, sd.sh hk, sd.sh hk, by rw [(nb_eqv sd.nb sd.nb).mpr rfl]; exact q⟩
theorem eq_data {K : PySem.W.Frag} {H : Hp} {x y : V} {d e : PyData} {k : Nat} {Q : VK} (hx : Dp K H x d) (hy : Dp K H y e) (sd : Sd k d) (se : Sd k e) (hk : k ≤ 64) (q : ∀ b : Bool, (b = true ↔ d = e) → Q (.bl b) H) : rEqD K x y H Q :=
  ⟨d, e, hx, hy, sd.sh hk, se.sh hk, q _ (nb_eqv sd.nb se.nb)⟩
theorem ne_ints {K : PySem.W.Frag} {H : Hp} {x y : Addr} {ns ms : List Int} {Q : VK} (hx : SqL K H x (ns.map V.int)) (hy : SqL K H y (ms.map V.int)) (q : Q (.bl (!decide (ns = ms))) H) : rNeD K (.ref x) (.ref y) H Q :=
  ⟨_, _, .lst hx (ints_dp _), .lst hy (ints_dp _), Sd.ints.sh (by decide), Sd.ints.sh (by decide), by rw [eqv_ints]; exact q⟩
theorem ints_dpl {K : PySem.W.Frag} {H : Hp} {p : Addr} {ns : List Int} (h : SqL K H p (ns.map V.int)) : Dp K H (.ref p) (.list (ns.map .int)) := .lst h (ints_dp _)
theorem while_R {c : TT} {tb : TS} {D : Ends} {σ : L2.St} {H : Hp} (Pv : L2.St → Hp → Prop) (μ : L2.St → Hp → Nat) (h0 : Pv σ H)
    (hs : ∀ σ H, Pv σ H → ∀ R : Bool → Hp → Prop, (∀ H1, tb { D with nx := fun σ' H' => Pv σ' H' ∧ μ σ' H' < μ σ H, ct := fun σ' H' => Pv σ' H' ∧ μ σ' H' < μ σ H, bk := D.nx } σ H1 → R true H1) → (∀ H1, D.nx σ H1 → R false H1) → c σ H R) : tWhile c tb D σ H := by
  refine ⟨fun m σ H => m = μ σ H ∧ Pv σ H, ⟨_, rfl, h0⟩, ?_⟩
  rintro m σ H ⟨rfl, p⟩
  refine hs σ H p _ (fun H1 h => ?_) (fun H1 h => ?_)
  · show if true = true then _ else _
    rw [if_pos rfl]
    exact ⟨_, fun σ' H' ⟨p', l⟩ => ⟨_, l, rfl, p'⟩, h⟩
  · show if false = true then _ else _
    rw [if_neg (by decide)]
    exact h
/-! ### what comes again and again -/
section
variable {f : Nat → Int}
theorem per_mul {A m : Nat} (h : ∀ t, A ≤ t → f (t + m) = f t) : ∀ (k t : Nat), A ≤ t → f (t + m * k) = f t
  | 0, t, _ => by rw [Nat.mul_zero, Nat.add_zero]
  | k + 1, t, ht => by rw [Nat.mul_succ, ← Nat.add_assoc, h _ (by omega), per_mul h k t ht]
theorem per_mod {A m n : Nat} (h : ∀ t, A ≤ t → f (t + m) = f t) (h' : ∀ t, A ≤ t → f (t + n) = f t) : ∀ t, A ≤ t → f (t + n % m) = f t := fun t ht => by
  rw [← per_mul h (n / m) _ (show A ≤ t + n % m by omega), Nat.add_assoc, Nat.mod_add_div, h' t ht]
theorem per_ev {A c m B : Nat} (hc : 1 ≤ c) (hp : ∀ t, A ≤ t → f (t + c) = f t) (h : ∀ t, B ≤ t → f (t + m) = f t) : ∀ t, A ≤ t → f (t + m) = f t := fun t ht => by
  have hb : B ≤ c * B := Nat.le_mul_of_pos_left B hc
  rw [← per_mul hp B t ht, ← h (t + c * B) (by omega), ← per_mul hp B (t + m) (by omega)]
  congr 1
  omega
/-- the least round -/
structure Lst (f : Nat → Int) (a m : Nat) : Prop where
  m1 : 1 ≤ m
  per : ∀ t, a ≤ t → f (t + m) = f t
  dvd : ∀ n B, (∀ t, B ≤ t → f (t + n) = f t) → m ∣ n
  fst : ∀ b, b + 1 = a → f (b + m) ≠ f b
theorem ex_least {A c : Nat} (hc : 1 ≤ c) (hp : ∀ t, A ≤ t → f (t + c) = f t) : ∃ m, 1 ≤ m ∧ m ≤ c ∧ (∀ t, A ≤ t → f (t + m) = f t) ∧ ∀ k, 1 ≤ k → (∀ t, A ≤ t → f (t + k) = f t) → m ≤ k := by
  induction c using Nat.strongRecOn with
  | ind c ih =>
    by_cases h : ∃ k, 1 ≤ k ∧ k < c ∧ ∀ t, A ≤ t → f (t + k) = f t
    · obtain ⟨k, k1, kc, kp⟩ := h
      obtain ⟨m, m1, mk, r⟩ := ih k kc k1 kp
      exact ⟨m, m1, by omega, r⟩
    · refine ⟨c, hc, Nat.le_refl _, hp, fun k k1 kp => ?_⟩
      exact Nat.le_of_not_lt fun z => h ⟨k, k1, z, kp⟩
/-- the least many, then the least ahead -/
theorem lst_of {A c m a : Nat} (hc : 1 ≤ c) (hp : ∀ t, A ≤ t → f (t + c) = f t) (m1 : 1 ≤ m) (hm : ∀ t, A ≤ t → f (t + m) = f t) (least : ∀ k, 1 ≤ k → k < m → c % k = 0 → ¬ ∀ t, A ≤ t → f (t + k) = f t)
    (ha : a ≤ A) (hb : ∀ t, a ≤ t → t < A → f (t + m) = f t) (hf : ∀ b, b + 1 = a → f (b + m) ≠ f b) : Lst f a m := by
  obtain ⟨n, n1, nc, np, nl⟩ := ex_least hc hp
  have div : ∀ k, (∀ t, A ≤ t → f (t + k) = f t) → n ∣ k := fun k kp => by
    apply Nat.dvd_of_mod_eq_zero
    rcases Nat.eq_zero_or_pos (k % n) with z | z
    · exact z
    · have := nl (k % n) z (per_mod np kp)
      have := Nat.mod_lt k (show 0 < n by omega)
      omega
  have e : m = n := by
    have h1 := Nat.le_of_dvd (by omega) (div m hm)
    rcases Nat.lt_or_ge n m with z | z
    · exact absurd np (least n n1 z (Nat.mod_eq_zero_of_dvd (div c hp)))
    · omega
  subst e
  refine ⟨m1, fun t ht => ?_, fun k B h => div k (per_ev hc hp h), hf⟩
  rcases Nat.lt_or_ge t A with z | z
  · exact hb t ht z
  · exact hm t z
theorem Lst.uniq {a m a' m' : Nat} (h : Lst f a m) (h' : Lst f a' m') : a = a' ∧ m = m' := by
  have e : m = m' := Nat.dvd_antisymm (h.dvd m' a' h'.per) (h'.dvd m a h.per)
  subst e
  refine ⟨?_, rfl⟩
  rcases Nat.lt_trichotomy a a' with z | z | z
  · exact absurd (h.per (a' - 1) (by omega)) (h'.fst (a' - 1) (by omega))
  · exact z
  · exact absurd (h'.per (a - 1) (by omega)) (h.fst (a - 1) (by omega))
/-- rounds by the least one -/
theorem Lst.iff {a m : Nat} (h : Lst f a m) (b n : Nat) (n1 : 1 ≤ n) : (∀ t, b ≤ t → f (t + n) = f t) ↔ a ≤ b ∧ m ∣ n := by
  constructor
  · intro hp
    have d := h.dvd n b hp
    refine ⟨?_, d⟩
    rcases Nat.lt_or_ge b a with z | z
    · obtain ⟨k, rfl⟩ := d
      have k1 : 1 ≤ k := by
        rcases Nat.eq_zero_or_pos k with z | z
        · rw [z] at n1
          omega
        · exact z
      exfalso
      refine h.fst (a - 1) (by omega) ?_
      have e := hp (a - 1) (by omega)
      have e2 := per_mul h.per (k - 1) (a - 1 + m) (by have := h.m1; omega)
      rw [show a - 1 + m + m * (k - 1) = a - 1 + m * k by
        obtain ⟨j, rfl⟩ : ∃ j, k = j + 1 := ⟨k - 1, by omega⟩
        rw [Nat.add_sub_cancel, Nat.mul_succ]
        omega, e] at e2
      exact e2.symm
    · exact z
  · rintro ⟨z, k, rfl⟩ t ht
    exact per_mul h.per k t (by omega)
def seg (f : Nat → Int) (A c : Nat) : List Int := (List.range c).map fun j => f (A + j)
theorem seg_len (A c : Nat) : (seg f A c).length = c := by
  unfold seg
  rw [List.length_map, List.length_range]
theorem seg_at {A c i : Nat} (h : i < c) : (seg f A c)[i]? = some (f (A + i)) := by
  unfold seg
  rw [List.getElem?_map, List.getElem?_range h]
  rfl
theorem rot_at {A c m j : Nat} (hp : ∀ t, A ≤ t → f (t + c) = f t) (hm : m ≤ c) (hj : j < c) : ((seg f A c).drop m ++ (seg f A c).take m)[j]? = some (f (A + j + m)) := by
  by_cases h : j < c - m
  · rw [List.getElem?_append_left (by rw [List.length_drop, seg_len]; exact h), List.getElem?_drop, seg_at (by omega)]
    congr 2
    omega
  · rw [List.getElem?_append_right (by rw [List.length_drop, seg_len]; omega), List.length_drop, seg_len, List.getElem?_take_of_lt (by omega), seg_at (by omega), ← hp _ (by omega)]
    congr 2
    omega
theorem rot_iff {A c m : Nat} (hc : 1 ≤ c) (hp : ∀ t, A ≤ t → f (t + c) = f t) (hm : m ≤ c) : (seg f A c).drop m ++ (seg f A c).take m = seg f A c ↔ ∀ t, A ≤ t → f (t + m) = f t := by
  constructor
  · intro h t ht
    have l := Nat.mod_lt (t - A) (show 0 < c by omega)
    have e := rot_at hp hm l
    rw [h, seg_at l] at e
    have e1 := Option.some.inj e
    have q := Nat.mod_add_div (t - A) c
    have e2 := per_mul hp ((t - A) / c) (A + (t - A) % c) (by omega)
    have e3 := per_mul hp ((t - A) / c) (A + (t - A) % c + m) (by omega)
    rw [show A + (t - A) % c + c * ((t - A) / c) = t by omega] at e2
    rw [show A + (t - A) % c + m + c * ((t - A) / c) = t + m by omega] at e3
    rw [e2, e3]
    exact e1.symm
  · intro h
    apply List.ext_getElem?
    intro i
    by_cases hi : i < c
    · rw [rot_at hp hm hi, seg_at hi, h _ (by omega)]
    · rw [List.getElem?_eq_none (by rw [List.length_append, List.length_drop, List.length_take, seg_len]; omega), List.getElem?_eq_none (by rw [seg_len]; omega)]
end
/-- what a layer shows, by the moment -/
def shN (rs : List RW) (bk : Option Int) (t : Nat) : Int := shown rs bk (t : Nat)
theorem shN_per {rs : List RW} {bk : Option Int} (v : VRows rs) (vb : VBack rs bk) : ∀ t, (ahL rs bk).length ≤ t → shN rs bk (t + (arL rs bk).length) = shN rs bk t := fun t ht => by
  have e1 := shown_lay v vb t
  have e2 := shown_lay v vb (t + (arL rs bk).length)
  rw [if_neg (by omega)] at e1 e2
  rw [show t + (arL rs bk).length - (ahL rs bk).length = t - (ahL rs bk).length + (arL rs bk).length by omega, Nat.add_mod_right] at e2
  exact Option.some.inj (e2.trans e1.symm)
theorem arL_seg {rs : List RW} {bk : Option Int} (v : VRows rs) (vb : VBack rs bk) : arL rs bk = seg (shN rs bk) (ahL rs bk).length (arL rs bk).length := by
  apply List.ext_getElem?
  intro i
  by_cases hi : i < (arL rs bk).length
  · rw [seg_at hi]
    show _ = some (shown rs bk (((ahL rs bk).length + i : Nat) : Int))
    rw [shown_lay v vb, if_neg (by omega), Nat.add_sub_cancel_left, Nat.mod_eq_of_lt hi]
  · rw [List.getElem?_eq_none (by omega), List.getElem?_eq_none (by rw [seg_len]; omega)]
theorem aa_at {rs : List RW} {bk : Option Int} (v : VRows rs) (vb : VBack rs bk) {i : Nat} (h : i < (ahL rs bk).length + (arL rs bk).length) : (ahL rs bk ++ arL rs bk)[i]? = some (shN rs bk i) := by
  show _ = some (shown rs bk (i : Nat))
  rw [shown_lay v vb]
  by_cases c : i < (ahL rs bk).length
  · rw [if_pos c, List.getElem?_append_left c]
  · rw [if_neg c, List.getElem?_append_right (by omega), Nat.mod_eq_of_lt (by omega)]
/-! ### helpers of the laws over rounds -/
theorem Paired.appP {α β : Type} {F : α → β → Prop} : ∀ {l₁ m₁ : List α} {l₂ m₂ : List β}, Paired F l₁ l₂ → Paired F m₁ m₂ → Paired F (l₁ ++ m₁) (l₂ ++ m₂)
  | _, _, _, _, .nil, h => h
  | _, _, _, _, .cons r t, h => .cons r (Paired.appP t h)
theorem Paired.repP {α β : Type} {F : α → β → Prop} {l₁ : List α} {l₂ : List β} (h : Paired F l₁ l₂) : ∀ n, Paired F (List.replicate n l₁).flatten (List.replicate n l₂).flatten
  | 0 => .nil
  | n + 1 => by
    rw [List.replicate_succ, List.replicate_succ, List.flatten_cons, List.flatten_cons]
    exact Paired.appP h (Paired.repP h n)
theorem mem_rep {α : Type} {l : List α} {x : α} {n : Nat} (h : x ∈ (List.replicate n l).flatten) : x ∈ l := by
  obtain ⟨m, hm, hx⟩ := List.mem_flatten.mp h
  rw [(List.mem_replicate.mp hm).2] at hx
  exact hx
theorem len_rep {α : Type} {l : List α} {n : Nat} : (List.replicate n l).flatten.length = n * l.length := by
  rw [List.length_flatten, List.map_replicate, List.sum_replicate_nat]
theorem cut_mid {xs : List V} {a b : Nat} (h : a ≤ b) (h2 : b ≤ xs.length) : cutV xs (some (a : Int)) (some (b : Int)) = (xs.drop a).take (b - a) := by
  unfold cutV
  rw [HT.sIx_nat, HT.sIx_nat, Nat.min_eq_left h2, Nat.min_eq_left (show a ≤ xs.length by omega)]
theorem lays_cut {rs : List RW} {bk : Option Int} {n a b : Nat} (h : a ≤ b) (h2 : b ≤ n) : cutV (lays rs bk n) (some (a : Int)) (some (b : Int)) = (seg (shN rs bk) a (b - a)).map V.int := by
  rw [cut_mid h (by rw [lays_len]; exact h2)]
  apply List.ext_getElem?
  intro i
  by_cases hi : i < b - a
  · rw [List.getElem?_take_of_lt hi, List.getElem?_drop, lays_at (by omega), List.getElem?_map, seg_at hi]
    rfl
  · rw [List.getElem?_eq_none (by rw [List.length_take]; omega), List.getElem?_eq_none (by rw [List.length_map, seg_len]; omega)]
theorem cut_opt {rs : List RW} {bk : Option Int} (vb : VBack rs bk) (xs : List V) : cutV xs none bk = match bk with | none => xs | some b => xs.take b.toNat := by
  cases bk with
  | none => exact cut_all xs
  | some b =>
    have hb := vb b rfl
    obtain ⟨k, rfl⟩ : ∃ k : Nat, b = (k : Int) := ⟨b.toNat, by omega⟩
    exact cut_to xs k
def ahd (rs : List RW) : Option Int → List RW
  | none => rs
  | some b => rs.take b.toNat
def siz (rs : List RW) : Option Int → Int
  | none => 1
  | some b => tot (rs.drop b.toNat)
theorem siz_pos {rs : List RW} {bk : Option Int} (v : VRows rs) (vb : VBack rs bk) : 1 ≤ siz rs bk ∧ siz rs bk ≤ 192 := by
  obtain ⟨v8, vr⟩ := v
  cases bk with
  | none => exact ⟨by show (1 : Int) ≤ 1; omega, by show (1 : Int) ≤ 192; omega⟩
  | some b =>
    have hb := vb b rfl
    have := tot_nonneg (rs := rs.drop b.toNat) fun q hq => vr q (List.mem_of_mem_drop hq)
    rw [List.length_drop] at this
    obtain ⟨t1, t2⟩ := this
    constructor
    · show 1 ≤ tot (rs.drop b.toNat)
      omega
    · show tot (rs.drop b.toNat) ≤ 192
      omega
theorem siz_len {rs : List RW} {bk : Option Int} (v : VRows rs) : siz rs bk = ((arL rs bk).length : Int) := by
  cases bk with
  | none => rfl
  | some b => exact (dwg_len (v.dropV b.toNat).2).symm
theorem ahL_tot {rs : List RW} {bk : Option Int} (v : VRows rs) : ((ahL rs bk).length : Int) ≤ tot rs := by
  cases bk with
  | none => exact Int.le_of_eq (dwg_len v.2)
  | some b =>
    show ((dwg (rs.take b.toNat)).length : Int) ≤ tot rs
    have h := dwg_len (v.takeV b.toNat).2
    have s := tot_split rs b.toNat
    have t := (tot_nonneg (v.dropV b.toNat).2).1
    omega
/-- by the whole length and the round's size -/
theorem per_whole {rs : List RW} {bk : Option Int} (v : VRows rs) (vb : VBack rs bk) {W c : Nat} (hW : (W : Int) = tot rs) (hc : (c : Int) = siz rs bk) : ∀ t, W ≤ t → shN rs bk (t + c) = shN rs bk t := fun t ht => by
  have e := siz_len (bk := bk) v
  have a := ahL_tot (bk := bk) v
  rw [show c = (arL rs bk).length by omega]
  exact shN_per v vb t (by omega)
theorem Gr.keepRow {st : Addr} {K : PySem.W.Frag} {H H' : Hp} (g : Gr st H H') (s : IsSt H st) {vs : List V} {rs : List RW} (p : Paired (RowAt K H) vs rs) : Paired (RowAt K H') vs rs := Paired.mono p fun _ _ => RowAt.keep (g.tk s)
theorem gr_upd {st D : Addr} {H0 H : Hp} {o : HO} (g : Gr st H0 H) (n0 : H0 D = none) (nD : D ≠ st) : Gr st H0 (upd H D o) :=
  ⟨fun b x nb e => by rw [upd_ne (ne_of_none e n0)]; exact g.1 b x nb e, fun hz => by
    obtain ⟨x, y, hx, hxy⟩ := g.2 hz
    exact ⟨x, y, by rw [upd_ne (Ne.symm nD)]; exact hx, hxy⟩⟩
/-! ### rounds of sheets -/
def plN (x y : Int) (ms : List MV) (t : Nat) : RW × RW := plc x y ms (t : Int)
theorem rwD_inj {r s : RW} (h : rwD r = rwD s) : r = s := by
  have e := PyData.tuple.inj h
  injection e with e1 e2
  injection e2 with e2 _
  exact Prod.ext (PyData.int.inj e1) (PyData.int.inj e2)
theorem plD_inj {p q : RW × RW} (h : plD p = plD q) : p = q := by
  have e := PyData.tuple.inj h
  injection e with e1 e2
  injection e2 with e2 _
  exact Prod.ext (rwD_inj e1) (rwD_inj e2)
theorem picD_inj {c d : PIC} (h : picD c = picD d) : c = d := by
  have e := PyData.tuple.inj h
  injection e with e1 e2
  injection e2 with e2 _
  exact Prod.ext (ints_inj.mp (PyData.tuple.inj e1)) (plD_inj e2)
theorem sd_rw (r : RW) : Sd 1 (rwD r) := Sd.tup fun e he => by
  rcases mem2 he with rfl | rfl <;> exact Sd.int _
theorem sd_pl (p : RW × RW) : Sd 2 (plD p) := Sd.tup fun e he => by
  rcases mem2 he with rfl | rfl <;> exact sd_rw _
theorem sd_pic (c : PIC) : Sd 3 (picD c) := Sd.tup fun e he => by
  rcases mem2 he with rfl | rfl
  · exact Sd.intsT.more (by decide)
  · exact sd_pl _
structure WinR (x y : Int) (ms : List MV) (b : Nat) : Prop where
  per : ∀ t, b ≤ t → plN x y ms (t + 1) = plN x y ms t
  fst : ∀ c, c + 1 = b → plN x y ms (c + 1) ≠ plN x y ms c
structure ShR (ls : List LY) (x y : Int) (ms : List MV) (a m : Nat) : Prop where
  m1 : 1 ≤ m
  perL : ∀ l ∈ ls, ∀ t, a ≤ t → shN l.1 l.2 (t + m) = shN l.1 l.2 t
  perW : ∀ t, a ≤ t → plN x y ms (t + 1) = plN x y ms t
  dvd : ∀ n, (∀ l ∈ ls, ∀ a' m', Lst (shN l.1 l.2) a' m' → m' ∣ n) → m ∣ n
  fst : ∀ b, b + 1 = a → (∃ l ∈ ls, shN l.1 l.2 (b + m) ≠ shN l.1 l.2 b) ∨ plN x y ms (b + 1) ≠ plN x y ms b
theorem ShR.uniq {ls : List LY} {x y : Int} {ms : List MV} {a m a' m' : Nat} (h : ShR ls x y ms a m) (h' : ShR ls x y ms a' m') : a = a' ∧ m = m' := by
  have e : m = m' := Nat.dvd_antisymm (h.dvd m' fun l hl b n hb => hb.dvd m' a' (h'.perL l hl)) (h'.dvd m fun l hl b n hb => hb.dvd m a (h.perL l hl))
  subst e
  refine ⟨?_, rfl⟩
  rcases Nat.lt_trichotomy a a' with z | z | z
  · rcases h'.fst (a' - 1) (by omega) with ⟨l, hl, hn⟩ | hn
    · exact absurd (h.perL l hl (a' - 1) (by omega)) hn
    · exact absurd (h.perW (a' - 1) (by omega)) hn
  · exact z
  · rcases h.fst (a - 1) (by omega) with ⟨l, hl, hn⟩ | hn
    · exact absurd (h'.perL l hl (a - 1) (by omega)) hn
    · exact absurd (h'.perW (a - 1) (by omega)) hn
theorem Paired.mem2 {α β : Type} {F : α → β → Prop} {l₁ : List α} {l₂ : List β} (p : Paired F l₁ l₂) {y : β} (h : y ∈ l₂) : ∃ x ∈ l₁, F x y := by
  obtain ⟨i, hi⟩ := List.mem_iff_getElem?.mp h
  obtain ⟨x, hx, f⟩ := Paired.at2 p hi
  exact ⟨x, List.mem_of_getElem? hx, f⟩
theorem Paired.mem1 {α β : Type} {F : α → β → Prop} {l₁ : List α} {l₂ : List β} (p : Paired F l₁ l₂) {x : α} (h : x ∈ l₁) : ∃ y ∈ l₂, F x y := by
  obtain ⟨i, hi⟩ := List.mem_iff_getElem?.mp h
  obtain ⟨y, hy, f⟩ := Paired.at p hi
  exact ⟨y, List.mem_of_getElem? hy, f⟩
abbrev RdOf (r : Nat × Nat) (l : LY) : Prop := Lst (shN l.1 l.2) r.1 r.2 ∧ r.1 ≤ 192 ∧ r.2 ≤ 192
theorem shR_mk {ls : List LY} {rd : List (Nat × Nat)} {x y : Int} {ms : List MV} {a b m : Nat} (hp : Paired RdOf rd ls) (hw : WinR x y ms b) (ha : ∀ r ∈ rd, r.1 ≤ a) (hb : b ≤ a) (hm : a = b ∨ ∃ r ∈ rd, r.1 = a) (m1 : 1 ≤ m)
    (hd : ∀ r ∈ rd, r.2 ∣ m) (hl : ∀ n, (∀ r ∈ rd, r.2 ∣ n) → m ∣ n) : ShR ls x y ms a m := by
  refine ⟨m1, fun l hl t ht => ?_, fun t ht => hw.per t (by omega), fun n hn => hl n fun r hr => ?_, fun c hc => ?_⟩
  · obtain ⟨r, hr, f, _⟩ := Paired.mem2 hp hl
    obtain ⟨k, rfl⟩ := hd r hr
    exact per_mul f.per k t (by have := ha r hr; omega)
  · obtain ⟨l, hl', f, _⟩ := Paired.mem1 hp hr
    exact hn l hl' r.1 r.2 f
  · rcases hm with e | ⟨r, hr, e⟩
    · exact .inr (hw.fst c (by omega))
    · obtain ⟨l, hl', f, _⟩ := Paired.mem1 hp hr
      refine .inl ⟨l, hl', fun z => f.fst c (by omega) ?_⟩
      obtain ⟨k, hk⟩ := hd r hr
      obtain ⟨j, rfl⟩ : ∃ j, k = j + 1 := ⟨k - 1, by
        rcases Nat.eq_zero_or_pos k with z | z
        · rw [z] at hk
          omega
        · omega⟩
      have e2 := per_mul f.per j (c + r.2) (by have := f.m1; omega)
      rw [show c + r.2 + r.2 * j = c + m by rw [hk, Nat.mul_succ]; omega, z] at e2
      exact e2.symm
theorem ShR.pic_eq {ls : List LY} {x y : Int} {ms : List MV} {a m : Nat} (h : ShR ls x y ms a m) {t : Nat} (ht : a ≤ t) (k : Nat) : pic ls x y ms ((t + m * k : Nat) : Int) = pic ls x y ms (t : Int) := by
  refine Prod.ext ?_ ?_
  · exact List.map_congr_left fun l hl => per_mul (h.perL l hl) k t ht
  · have := per_mul (f := fun t => (0 : Int)) (A := 0) (m := 1) (fun _ _ => rfl)
    have e : ∀ n, plN x y ms (t + n) = plN x y ms t := fun n => by
      induction n with
      | zero => rfl
      | succ n ih => rw [← Nat.add_assoc, h.perW _ (by omega), ih]
    exact e (m * k)
theorem ShR.pic_ne {ls : List LY} {x y : Int} {ms : List MV} {a m : Nat} (h : ShR ls x y ms a m) {b : Nat} (hb : b + 1 = a) : pic ls x y ms (b : Int) ≠ pic ls x y ms ((b + m : Nat) : Int) := fun e => by
  rcases h.fst b hb with ⟨l, hl, hn⟩ | hn
  · exact hn (List.map_inj_left.mp (congrArg Prod.fst e) l hl).symm
  · refine hn ?_
    have e1 : plN x y ms b = plN x y ms (b + m) := congrArg Prod.snd e
    have e2 : ∀ n, plN x y ms (b + 1 + n) = plN x y ms (b + 1) := fun n => by
      induction n with
      | zero => rfl
      | succ n ih => rw [← Nat.add_assoc, h.perW _ (by omega), ih]
    have m1 := h.m1
    have e3 := e2 (m - 1)
    rw [show b + 1 + (m - 1) = b + m by omega] at e3
    rw [e1, e3]
theorem winR_of {x y : Int} {ms : List MV} {L b : Nat} (vm : ∀ m ∈ ms, VMove m) (hL : (L : Int) = mtot ms) (hb : b ≤ L) (hp : ∀ t, b ≤ t → t < L → plN x y ms (t + 1) = plN x y ms t) (hf : ∀ c, c + 1 = b → plN x y ms (c + 1) ≠ plN x y ms c) : WinR x y ms b := by
  refine ⟨fun t ht => ?_, hf⟩
  rcases Nat.lt_or_ge t L with z | z
  · exact hp t ht z
  · exact plc_far ms x y _ _ vm (by omega) (by omega)
/-- the step of the law's own reckoning of a common multiple -/
theorem lcm_step {s z k : Nat} (s1 : 1 ≤ s) (z1 : 1 ≤ z) (k1 : 1 ≤ k) (hd : z ∣ s * k) (hmin : ∀ j, 1 ≤ j → j < k → ¬ z ∣ s * j) : s * k = Nat.lcm s z := by
  obtain ⟨j, hj⟩ := Nat.dvd_lcm_left s z
  have lp : 0 < Nat.lcm s z := Nat.lcm_pos (by omega) (by omega)
  have j1 : 1 ≤ j := by
    rcases Nat.eq_zero_or_pos j with e | e
    · rw [e] at hj
      omega
    · exact e
  have h1 : Nat.lcm s z ∣ s * k := Nat.lcm_dvd (Nat.dvd_mul_right s k) hd
  have h2 : k ≤ j := Nat.le_of_not_lt fun lt => hmin j j1 lt (by rw [← hj]; exact Nat.dvd_lcm_right s z)
  have h3 := Nat.le_of_dvd (Nat.mul_pos (by omega) (by omega)) h1
  have h4 : s * k ≤ s * j := Nat.mul_le_mul_left s h2
  omega
theorem lcm_le {s z : Nat} (h : 0 < Nat.gcd s z) : Nat.lcm s z ≤ s * z := by
  unfold Nat.lcm
  exact Nat.div_le_self _ _

/-! ### defs called where an error is handled -/
/-- f, called while the error at a (class cls, dict d) is handled, keeps sp -/
structure FnE (P : Program) (w : World) (K : PySem.W.Frag) (mg : Str → Option Value) (base : Heap) (k : Nat) (f : Addr) (fd : FuncData) (ps : List Str) (sp : Addr → Value → Option Addr → Sp) : Prop where
  len : ∀ a cls d vs H Q E, sp a cls d vs H Q E → vs.length = ps.length
  run : ∀ (A : Around) (outer : List Env) (s : Shared) (H : Hp) (args : Args) (us : List Value) (vs : List V) (Q : VK) (E : XK) (a : Addr) (oe : Obj) (cls : Value) (d : Option Addr), L2H.RoomH k A → Zc cls d oe → (∃ z, oe.data = .fields z) → L2H.PinOk outer H s (a, oe) →
    Env0 P w K mg base A outer s H → BindsTo s fd args (ps.zip us) → Vals vs us → sp a cls d vs H Q E → codeAny (model P w) A (.call (.ref f) args) (CR CX0 outer P w H s Q E) s
section
variable {P : Program} {w : World} {K : PySem.W.Frag} {mg : Str → Option Value} {base : Heap}
theorem fun_okE {x qual : Str} {st : Stmt} {f : Addr} {fd : FuncData} {N ps : List Str} {k : Nat} {sp : Addr → Value → Option Addr → Sp} (F : Fun K x qual st f fd) (S : FnScope N ps (defScope st)) (ln : ∀ a cls d vs H Q E, sp a cls d vs H Q E → vs.length = ps.length)
    (hbody : ∀ (cdv : Value) (A : Around) (outer : List Env) (s : Shared) (H : Hp) (vs : List V) (Q : VK) (E : XK) (a : Addr) (oe : Obj) (cls : Value) (d : Option Addr), Zc cls d oe → (∃ z, oe.data = .fields z) → L2H.RoomH k (A.deeper (envOfC qual (defScope st) s.heap.objs.size f cdv)) → sp a cls d vs H Q E →
      ∃ t, PSs (L2H.cxH CX0 P w K mg base N qual (defScope st) f cdv A outer s H E (a, oe)) (defBody st) t ∧ t { nx := fun _ H' => Q .non H', rt := Q } (L2.start N vs) H) : FnE P w K mg base (k + 1) f fd ps sp := by
  obtain ⟨cdv, D⟩ := defAt_of F
  refine ⟨ln, fun A outer s H args us vs Q E a oe cls d hr hz hfs hpin e0 hb r hsp => D.call S hr.depth e0 hb fun s1 begun => ?_⟩
  obtain ⟨t, ht, hq⟩ := hbody cdv A outer s H vs Q E a oe cls d hz hfs (hr.deeper _) hsp
  exact thn (ht.run [] s1 _ H _ (L2H.inv_startH S hpin e0 (ln _ _ _ _ _ _ _ hsp) r begun) hq) fun _ _ h => given_by rfl h
end
section
variable {X : Cx}
/-- what is pinned in the context may be pinned in a body that it calls -/
theorem pinned {pins : List (Addr × Obj)} {σ : L2.St} {H : Hp} {s : Shared} {p : Addr × Obj} (I : Inv X pins σ H s) (hpn : p ∈ X.pn) : L2H.PinOk X.stack H s p := by
  obtain ⟨get, free, low, far, flat⟩ := I.pin p (List.mem_append_left pins hpn)
  refine ⟨get, free, fun on => ?_, flat⟩
  rcases List.mem_cons.mp (I.stkSub p.1 on) with z | z
  · exact low z
  · exact far z
/-- a call of a global name: T tells what is asked of its arguments -/
theorem pe_named {f : Addr} {x : Str} {q pos : Pos} {e : Expr} {es : List Expr} {t : TA} {T : List V → Hp → VK → Prop} (hg : Gl X x) (hm : X.mg x = some (.ref f)) (hk : PySem.W.keepIn X.K (.ref f) = true) (ha : PA X (e :: es) t)
    (run : ∀ (pins : List (Addr × Obj)) (s : Shared) (σ : L2.St) (H : Hp) (us : List Value) (vs : List V) (Q : VK), Inv X pins σ H s → Vals vs us → T vs H Q → wpAny (model X.prog X.w) X.A (call (.ref f) us) (EP X pins σ Q) X.xe s)
    (plain : (x == ("__debug__" : Str)) = false) (first : starEach (e :: es) X.env = (false, eval e X.env) :: starEach es X.env) (noStar : (backTo pos (starEach es X.env)).any (·.1) = false) :
    PE X (.Call (.Name x q) (e :: es) [] pos) (fun σ H Q => t σ H fun vs H1 => T vs H1 Q) :=
  ⟨fun pins s σ H Q I h => wpAny_Call_Name_kw (ld_glob I hg hm (PySem.W.callWith_K (h₀ := X.base) I.ok.mod.kin hk
    (thn (ha.run pos pins s σ H _ I h) fun us s1 ⟨vs, H1, I1, r, due⟩ => ⟨I1.kIn, run pins s1 σ H1 us vs Q I1 r due⟩) first noStar) plain)⟩
/-- f(e, ..), the error at a being handled -/
theorem pe_callE {k : Nat} {f a : Addr} {oe : Obj} {cls : Value} {d : Option Addr} {fd : FuncData} {ps : List Str} {sp : Addr → Value → Option Addr → Sp} {x : Str} {q pos : Pos} {e : Expr} {es : List Expr} {t : TA} (F : FnE X.prog X.w X.K X.mg X.base k f fd ps sp) (hr : L2H.RoomH k X.A) (hpn : (a, oe) ∈ X.pn)
    (hz : Zc cls d oe) (hfs : ∃ z, oe.data = .fields z) (hg : Gl X x) (hm : X.mg x = some (.ref f)) (hk : PySem.W.keepIn X.K (.ref f) = true) (hb : Binds X.K fd ps []) (ha : PA X (e :: es) t)
    (hdb : (x == ("__debug__" : Str)) = false := by decide) (he : starEach (e :: es) X.env = (false, eval e X.env) :: starEach es X.env := by rfl) (hpl : (backTo pos (starEach es X.env)).any (·.1) = false := by rfl) :
    PE X (.Call (.Name x q) (e :: es) [] pos) (fun σ H Q => t σ H fun vs H1 => sp a cls d vs H1 Q E0) := by
  refine pe_named (T := fun vs H Q => sp a cls d vs H Q E0) hg hm hk ha (fun pins s σ H us vs Q I r due => ?_) hdb he hpl
  have binds : BindsTo s fd ⟨us, []⟩ (ps.zip us) := by
    simpa only [List.append_nil] using hb s us I.kIn (by rw [List.append_nil, ← r.length]; exact F.len _ _ _ _ _ _ _ due)
  refine wpAny_call (codeAny_mono (F.run X.A X.stack s H ⟨us, []⟩ us vs Q E0 a oe cls d hr hz hfs (pinned I hpn) I.env0 binds r due) fun res s' left => ?_)
  match res, left with
  | .ok (.ret _), left => exact I.after left
  | .ok .next, left | .ok .brk, left | .ok .cont, left | .error _, left => exact False.elim left
/-- isinstance(e, c), e a handled error -/
def rIsP (K : PySem.W.Frag) (D a : Addr) (d : Option Addr) : List V → Hp → VK → Prop := fun xs H Q => ∃ (c : V) (cv : Value) (b : Bool), xs = [.ref a, c] ∧ (∀ u, RelV c u → u = cv) ∧ PySem.W.kitOne K (.ref D) cv = some b ∧
  (∀ dd, d = some dd → ∃ fs, H dd = some (.xd fs)) ∧ Q (.bl b) H
theorem call_isP {a D : Addr} {oe : Obj} {d : Option Addr} (hpn : (a, oe) ∈ X.pn) (C : ExcC X.K D) (hz : Zc (.ref D) d oe) (hfs : ∃ z, oe.data = .fields z) : CallR X (.builtin "isinstance") (rIsP X.K D a d) := by
  intro pins s σ H xs us Q I r h
  obtain ⟨c, cv, b, rfl, hcv, e, hd, q⟩ := h
  obtain ⟨u1, u2, rfl, r1, r2⟩ := vals2 r
  have ec := hcv _ r2
  subst ec
  cases (show u1 = Value.ref a from r1)
  obtain ⟨hget, _⟩ := I.pin (a, oe) (List.mem_append_left _ hpn)
  obtain ⟨z, hv⟩ := hfs
  have hno : PySem.W.notCls oe = true := by
    unfold PySem.W.notCls
    rw [hv]
  obtain ⟨od, J⟩ : ∃ od, PySem.W.InstAt s.heap a oe D od := by
    cases d with
    | none => exact ⟨none, hget, hz.1, hno, by rw [hz.2]; trivial⟩
    | some dd =>
      obtain ⟨fs, hfs⟩ := hd dd rfl
      obtain ⟨mA, hns, hr⟩ := (show ObjOk X.prog X.w H s.heap dd (.xd fs) from I.hok dd _ hfs)
      obtain ⟨od, ho, hl⟩ := lookIn_ns hns
      exact ⟨some od, hget, hz.1, hno, by rw [hz.2]; exact ho⟩
  have hcl : (PySem.W.clsIn X.K D).isSome = true := by
    obtain ⟨cd, hc, _⟩ := PySem.W.any_some C.hd
    rw [hc]
    rfl
  exact PySem.W.kia_one (PySem.W.kitx_exc hcl C.hg C.hk C.hs C.ha C.hn C.ht C.hm) I.kIn J e (fun z => nomatch z) fun tk => ⟨.bl b, H, I.tok tk, rfl, q⟩
end

/-! ### what the written part says of the refusals -/
def excCB (K : PySem.W.Frag) (D : Addr) : Bool :=
  decide (PySem.W.findIn K (.ref D) "__getattribute__" = some (some (.builtin "BaseException.__getattribute__"))) && (decide (PySem.W.findIn K (.ref D) "__getattr__" = some none) && (decide (PySem.W.subIn K (.ref D) (.type "BaseException") = some true) &&
    (PySem.W.hasDictIn K D && (decide (PySem.W.findIn K (.ref D) "__class__" = some (some (.builtin "object.__class__"))) && (decide (PySem.W.specialIn K (.builtin "object.__class__") "__get__" = some (some (.builtin "getset_descriptor.__get__"))) &&
      (decide (PySem.W.takesIn K (.builtin "object.__class__") = some true) && decide (PySem.W.mroIn K D (.type "object") = some true)))))))
theorem excC_of {K : PySem.W.Frag} {D : Addr} (h : excCB K D = true) : ExcC K D := by
  unfold excCB at h
  simp only [Bool.and_eq_true, decide_eq_true_eq] at h
  obtain ⟨h1, h2, h3, h4, h5, h6, h7, h8⟩ := h
  exact ⟨h1, h2, h3, h4, h5, h6, h7, h8⟩
def excTB (K : PySem.W.Frag) (c : Nat → Addr) (LE : Addr) : Bool :=
  (List.range 16).all fun i => excCB K (c i) && (decide (PySem.W.kitOne K (.ref (c i)) (.type "ValueError") = some true) && (decide (PySem.W.exmOne K (.ref (c i)) (.ref LE) = some true) &&
    ((decide (14 ≤ i) || PySem.W.excIn K (c i) PySem.HandSPX.veTail "ValueError.__new__") && (PySem.W.keepIn K (.ref (c i)) && (decide (PySem.W.typeIn K (.ref (c i)) = some (.type "type")) &&
      (List.range 16).all fun j => decide (PySem.W.kitOne K (.ref (c i)) (.ref (c j)) = some (decide (i = j))))))))
/-- the sixteen refusals stand at c 0 .. c 15, LanternError at LE -/
structure ExcT (K : PySem.W.Frag) (c : Nat → Addr) (LE : Addr) : Prop where
  e : ∀ i, i < 16 → ExcC K (c i)
  kv : ∀ i, i < 16 → PySem.W.kitOne K (.ref (c i)) (.type "ValueError") = some true
  ex : ∀ i, i < 16 → PySem.W.exmOne K (.ref (c i)) (.ref LE) = some true
  nw : ∀ i, i < 14 → PySem.W.excIn K (c i) PySem.HandSPX.veTail "ValueError.__new__" = true
  kp : ∀ i, i < 16 → PySem.W.keepIn K (.ref (c i)) = true
  ty : ∀ i, i < 16 → PySem.W.typeIn K (.ref (c i)) = some (.type "type")
  ko : ∀ i, i < 16 → ∀ j, j < 16 → PySem.W.kitOne K (.ref (c i)) (.ref (c j)) = some (decide (i = j))
theorem excT_of {K : PySem.W.Frag} {c : Nat → Addr} {LE : Addr} (h : excTB K c LE = true) : ExcT K c LE := by
  have key : ∀ i, i < 16 → excCB K (c i) = true ∧ PySem.W.kitOne K (.ref (c i)) (.type "ValueError") = some true ∧ PySem.W.exmOne K (.ref (c i)) (.ref LE) = some true ∧ (14 ≤ i ∨ PySem.W.excIn K (c i) PySem.HandSPX.veTail "ValueError.__new__" = true) ∧ PySem.W.keepIn K (.ref (c i)) = true ∧
      PySem.W.typeIn K (.ref (c i)) = some (.type "type") ∧ ∀ j, j < 16 → PySem.W.kitOne K (.ref (c i)) (.ref (c j)) = some (decide (i = j)) := fun i hi => by
    have z := List.all_eq_true.mp h i (List.mem_range.mpr hi)
    simp only [Bool.and_eq_true, Bool.or_eq_true, decide_eq_true_eq] at z
    obtain ⟨z1, z2, z3, z4, z5, z6, z7⟩ := z
    exact ⟨z1, z2, z3, z4, z5, z6, fun j hj => of_decide_eq_true (List.all_eq_true.mp z7 j (List.mem_range.mpr hj))⟩
  exact ⟨fun i hi => excC_of (key i hi).1, fun i hi => (key i hi).2.1, fun i hi => (key i hi).2.2.1, fun i hi => (key i (by omega)).2.2.2.1.elim (fun z => absurd z (by omega)) id, fun i hi => (key i hi).2.2.2.2.1, fun i hi => (key i hi).2.2.2.2.2.1, fun i hi => (key i hi).2.2.2.2.2.2⟩
theorem ExcT.rs {X : Cx} {c : Nat → Addr} {LE : Addr} (T : ExcT X.K c LE) {i : Nat} (hi : i < 16) : Raises X (.ref (c i)) := raises_own (T.e i hi).hs (T.ty i hi)
/-! ### xs.count(True) -/
def rCntB (K : PySem.W.Frag) : V → List V → Hp → VK → Prop := fun x xs H Q => ∃ (p : Addr) (bs : List Bool), x = .ref p ∧ xs = [.bl true] ∧ SqL K H p (bs.map V.bl) ∧ Q (.int (bs.count true : Nat)) H
theorem bl_flat : ∀ bs : List Bool, (bs.map V.bl).all flatV = true
  | [] => rfl
  | b :: r => by
    rw [List.map_cons, List.all_cons, bl_flat r]
    rfl
theorem cnt_bl : ∀ {bs : List Bool} {us : List Value}, Vals (bs.map V.bl) us → us.countP (eqU (.bl true)) = bs.count true
  | [], _, .nil => rfl
  | b :: r, _, .cons (b := u) (l₂ := us) ru rt => by
    have e : eqU (.bl true) u = eqV (.bl b) (.bl true) := eqU_of ru rfl
    rw [List.countP_cons, cnt_bl rt, List.count_cons, e]
    cases b <;> rfl
theorem mt_bcount {X : Cx} : MtR X "list.count" (rCntB X.K) := by
  intro pins s σ H x xs v us Q I rx rxs h
  obtain ⟨p, bs, rfl, rfl, hs, q⟩ := h
  cases rx
  obtain ⟨u, rfl, ru⟩ := rxs.one
  obtain ⟨its, rv, ⟨⟨cls, dd, data, sl⟩, n, ho, hc, hdn, hd⟩, hlen⟩ := I.list hs
  simp only at hc hd
  subst hc hd
  refine call_meets PySem.F.slot_list_count ⟨_, ho, rfl⟩ PySem.F.entry_list_count
    (PySem.F.args_list_count_2 _ _) (SeqAt.list_countAt p its.toArray n dd sl u (eqU (.bl true)))
    ⟨ho, fun y hy => mem_eqAt ru rfl rv (bl_flat bs) y (by simpa using hy), ?_⟩
  refine ⟨.int (bs.count true : Nat), H, I.tok _, ⟨s.toks, ?_⟩, q⟩
  show Value.int ((its.toArray.toList.countP (eqU (.bl true)) : Nat) : Int) s.toks = Value.int ((bs.count true : Nat) : Int) s.toks
  rw [List.toList_toArray, cnt_bl rv]
/-! ### what is told of a call -/
def bits (i : Nat) : List Bool := (List.range 16).map fun j => decide (i = j)
def HasXd (d : Option Addr) (H : Hp) : Prop := ∀ dd, d = some dd → ∃ fs, H dd = some (.xd fs)
def spCls (c : Nat → Addr) : Addr → Value → Option Addr → Sp := fun a cls d vs H Q _ => ∃ i, i < 16 ∧ vs = [.ref a] ∧ cls = .ref (c i) ∧ HasXd d H ∧ ∀ H' p, Same H H' → H p = none → H' p = some (.lst ((bits i).map V.bl)) → Q (.ref p) H'
/-- what is wished of a refusal that met catches: told are 'refused' and its number, 'many' and both fields, 'leaned' and the numbers -/
def EMet (c : Nat → Addr) (Q : VK) : XK := fun cls d H => ∃ i, i < 16 ∧ cls = .ref (c i) ∧ HasXd d H ∧
  (i < 14 → ∀ H' p, Same H H' → H p = none → H' p = some (.tup [.str "refused", .int (i : Nat)]) → Q (.ref p) H') ∧
  (i = 14 → ∃ dd fs m n, d = some dd ∧ H dd = some (.xd fs) ∧ fs.lookup ("many" : Str) = some m ∧ fs.lookup ("most" : Str) = some n ∧ ∀ H' p q, Same H H' → H p = none → H' q = some (.tup [m, n]) → H' p = some (.tup [.str "many", .ref q]) → Q (.ref p) H') ∧
  (i = 15 → ∃ dd fs m, d = some dd ∧ H dd = some (.xd fs) ∧ fs.lookup ("numbers" : Str) = some m ∧ ∀ H' p, Same H H' → H p = none → H' p = some (.tup [.str "leaned", m]) → Q (.ref p) H')
/-- what met makes of the lambda's reading -/
def TMet (c : Nat → Addr) : (XK → Hp → VK → Prop) → Hp → VK → Prop := fun tl H Q =>
  tl (EMet c Q) H fun v H1 => 2 ≤ sizeLine ∧ ∀ p, H1 p = none → Q (.ref p) (upd H1 p (.tup [.str "told", v]))

def clsN : List Str := ["NoLayer", "NoWindow", "NoSheet", "NoMoment", "NoRow", "NoNumber", "NoDrawings", "Unlike", "Endless", "Squeezed", "NoPaper", "NoDeed", "NoText", "NoWords", "TooMany", "Leaned"]
structure ExcN (K : PySem.W.Frag) (mg : Str → Option Value) (c : Nat → Addr) (LE : Addr) : Prop extends ExcT K c LE where
  g : ∀ i n, clsN[i]? = some n → mg n = some (.ref (c i))
  gL : mg "LanternError" = some (.ref LE)
  n1 : PySem.W.findIn K (.ref (c 14)) "many" = some none
  n2 : PySem.W.findIn K (.ref (c 14)) "most" = some none
  n3 : PySem.W.findIn K (.ref (c 15)) "numbers" = some none
theorem ExcN.xf {K : PySem.W.Frag} {mg : Str → Option Value} {c : Nat → Addr} {LE : Addr} (T : ExcN K mg c LE) {i : Nat} (hi : i < 16) : XfC K (c i) := ⟨(T.e i hi).hg, (T.e i hi).hk, (T.e i hi).hs, (T.e i hi).hd⟩
structure ClE (P : Program) (w : World) (K : PySem.W.Frag) (mg : Str → Option Value) (base : Heap) (k : Nat) (x : Str) (ps : List Str) (sp : Addr → Value → Option Addr → Sp) : Prop where
  ex : ∃ (f : Addr) (fd : FuncData), FnE P w K mg base k f fd ps sp ∧ PySem.W.keepIn K (.ref f) = true ∧ Binds K fd ps [] ∧ mg x = some (.ref f)
/-- a def that may refuse -/
structure ClX (P : Program) (w : World) (K : PySem.W.Frag) (mg : Str → Option Value) (base : Heap) (k : Nat) (x : Str) (ps : List Str) (sp : Sp) : Prop where
  ex : ∃ (f : Addr) (fd : FuncData), FnOk P w K mg base (L2.CX P w) k f fd ps sp ∧ PySem.W.keepIn K (.ref f) = true ∧ Binds K fd ps [] ∧ mg x = some (.ref f)
section
variable {X : Cx}
theorem pe_gref {x : Str} {pos : Pos} {C : Addr} (hg : Gl X x) (h : X.mg x = some (.ref C)) (hd : (x == ("__debug__" : Str)) = false := by decide) : PE X (.Name x pos) (tC (.ref C)) := pe_glob hg h rfl hd
/-- a built-in's method, the written part told by its letter -/
theorem pe_bmK {K : PySem.W.Frag} {T : String} {name : Str} {id : String} {r : V → List V → Hp → VK → Prop} {o e : Expr} {es : List Expr} {to : TE} {t : TA} {apos cpos : Pos} (pa : PlainAttrs T) (slot : Slot T name id) (hty : typeOf (.builtin id) = pure (.type "method_descriptor")) (hm : MtR X id r) (ho : PE X o to) (ha : PA X (e :: es) t) (hK : X.K = K := by rfl)
    (hbase : attributeBase o name X.env (eval o X.env) = eval o X.env := by rfl)
    (hfew : ((backTo cpos (starEach (e :: es) X.env)).all (fun x => !x.1) && (backToKw cpos (keywordEach [] X.env)).all (fun x => x.1.isSome) && decide ((e :: es).length + ([] : List Keyword).length + (if ([] : List Keyword).isEmpty then 0 else 1) < 30)) = true := by rfl)
    (hline : (apos.endLine == cpos.line) = true := by rfl) (hs : starEach (e :: es) X.env = (false, eval e X.env) :: starEach es X.env := by rfl)
    (hplain : (backTo cpos (starEach es X.env)).any (·.1) = false := by rfl) : PE X (.Call (.Attribute o name apos) (e :: es) [] cpos) (tBM K T r to t) := by
  subst hK
  exact pe_bm pa slot hty hm ho ha hbase hfew hline hs hplain
theorem pe_ownE {k : Nat} {x : Str} {ps : List Str} {sp : Addr → Value → Option Addr → Sp} {a : Addr} {oe : Obj} {cls : Value} {d : Option Addr} {e : Expr} {es : List Expr} {t : TA} {p pos : Pos} (C : ClE X.prog X.w X.K X.mg X.base k x ps sp) (hr : L2H.RoomH k X.A) (hpn : (a, oe) ∈ X.pn) (hz : Zc cls d oe)
    (hfs : ∃ z, oe.data = .fields z) (hg : Gl X x) (ha : PA X (e :: es) t)
    (hdb : (x == ("__debug__" : Str)) = false := by decide) (he : starEach (e :: es) X.env = (false, eval e X.env) :: starEach es X.env := by rfl) (hpl : (backTo pos (starEach es X.env)).any (·.1) = false := by rfl) :
    PE X (.Call (.Name x p) (e :: es) [] pos) (fun σ H Q => t σ H fun vs H1 => sp a cls d vs H1 Q E0) := by
  obtain ⟨f, fd, F, hk, hb, hm⟩ := C.ex
  exact pe_callE F hr hpn hz hfs hg hm hk hb ha hdb he hpl
/-- f(e, ..), f may refuse: E is wished of what it lets out -/
theorem pe_ownX {k : Nat} {x : Str} {ps : List Str} {sp : Sp} {W : WX} {e : Expr} {es : List Expr} {t : TA} {p pos : Pos} (C : ClX X.prog X.w X.K X.mg X.base k x ps sp) (hr : Room k X.A) (tk : Takes X W) (hg : Gl X x) (ha : PA X (e :: es) t)
    (hdb : (x == ("__debug__" : Str)) = false := by decide) (he : starEach (e :: es) X.env = (false, eval e X.env) :: starEach es X.env := by rfl) (hpl : (backTo pos (starEach es X.env)).any (·.1) = false := by rfl) :
    PE X (.Call (.Name x p) (e :: es) [] pos) (tCallS sp (WE W) t) := by
  obtain ⟨f, fd, F, hk, hb, hm⟩ := C.ex
  exact pe_callS F hr hg hm hk hb (fun σ => passAt tk σ) ha hdb he hpl
def rIsQ (K : PySem.W.Frag) (c : Nat → Addr) (a : Addr) (cls : Value) (d : Option Addr) : List V → Hp → VK → Prop := fun xs H Q => ∃ i, i < 16 ∧ cls = .ref (c i) ∧ rIsP K (c i) a d xs H Q
theorem call_isQ {K : PySem.W.Frag} {c : Nat → Addr} {LE a : Addr} {oe : Obj} {cls : Value} {d : Option Addr} (T : ExcT K c LE) (hpn : (a, oe) ∈ X.pn) (hz : Zc cls d oe) (hfs : ∃ z, oe.data = .fields z) (hK : X.K = K := by rfl) : CallR X (.builtin "isinstance") (rIsQ K c a cls d) := by
  subst hK
  intro pins s σ H xs us Q I r h
  obtain ⟨i, hi, rfl, h⟩ := h
  exact call_isP hpn (T.e i hi) hz hfs pins s σ H xs us Q I r h
/-- what a met def must have: its place, its text -/
structure MetF (X : Cx) (x a : Str) (TT : (XK → Hp → VK → Prop) → Hp → VK → Prop) : Prop where
  ex : ∃ (g : Addr) (pg : Arguments) (bg : List Stmt) (sg : Scope) (kV doc pm cdv ct oc : Value) (an od : Option Addr) (osl : Array (Option Value)) (Ng : List Str), X.mg x = some (.ref g) ∧ PySem.W.keepIn X.K (.ref g) = true ∧
    X.K.lookup g = some ⟨oc, od, .func (PySem.W.fnOf x x pg bg sg .none kV doc pm an cdv ct), osl⟩ ∧ PySem.W.codeIn X.K cdv x = true ∧ L2.Binds X.K (PySem.W.fnOf x x pg bg sg .none kV doc pm an cdv ct) [a] [] ∧ FnScope Ng [a] sg ∧ Ng[0]? = some a ∧ Vis sg a ∧
    LamX.GivesTo X Ng x sg g cdv bg a (X.env.qual ++ "<lambda>") TT
/-- x(lambda: body) -/
theorem pe_met {T : List (Addr × Str)} {TT : (XK → Hp → VK → Prop) → Hp → VK → Prop} {x a : Str} {c P : Addr} {k : Nat} {params : Arguments} {body : Expr} {scope : Scope} {t : XK → TE} {p lpos pos : Pos} (M : MetF X x a TT) (hg : Gl X x)
    (TB : LamX.TabB X.base X.mg c P) (hcode : X.env.code = .ref c) (hmT : (P, X.env.qual ++ "<lambda>") ∈ T) (hu : ∀ p ∈ T, p.1 = P → p.2 = X.env.qual ++ "<lambda>") (hr : Room (k + 2) X.A) (L : LamX.LamS X.env.scope scope)
    (hbody : ∀ (A : Around) (outer : List Env) (s : Shared) (H : Hp) (E : XK) (f c' : Addr), Room k (A.deeper (LamX.lamEnv X scope s.heap.objs.size f c')) → PE (LamX.lamCx X A outer s H E scope f c') body (t E))
    (hdef : defaultsOf params X.env = ([], []) := by rfl)
    (hbind : ∀ (q : Str) (cl : List (Str × Addr)) (pm cv ctv : Value), bindArgs (PySem.W.kla_fn "<lambda>" q params body scope cl pm cv ctv) ⟨[], []⟩ = pure [] := by intros; rfl)
    (hdb : (x == ("__debug__" : Str)) = false := by decide) (hd : (a == ("__debug__" : Str)) = false := by decide) (hcd : (a == ("__classdict__" : Str)) = false := by decide) :
    PE X (.Call (.Name x p) [.Lambda params body scope lpos] [] pos) (LamX.tLam T TT t) := by
  obtain ⟨g, pg, bg, sg, kV, doc, pm, cdv, ct, oc, an, od, osl, Ng, hm, hk, lk, hcg, hb, Sg, hNg, hva, hG⟩ := M.ex
  exact LamX.pe_lamcall hg hm hk lk hcg hb Sg hNg hva hG TB hcode hmT hu hr L hdef hbind hbody hdb hd hcd
end
/-! ### the end of a law that makes lambdas -/
def TabsIn (q : Program) (K : PySem.W.Frag) (h : Heap) : Prop := ∀ (x : Str) (c P : Addr), ((recsOf q).find? fun e => e.name == x).isSome = true → PySem.W.tabIn K x = some (c, P) → PySem.W.CodeHd h c P ∧ h.get? P = some { cls := .none, data := .fields #[] }
theorem walk_ofL {l : PySem.W.OpenLaw} {n k : Nat} {q : Program} {loose : List Str} {XP : (Str → Option Value) → Heap → Prop} {YP : World → Heap → Prop} {d : DefRec} {K : Params → PySem.W.Frag} {x : Str}
    (hn : l.most = some n) (hn2 : n ≤ sizeLine) (hdf : d.params.defaults = []) (hr : Room k callerA) (hY : ∀ (w : World) (h : Heap), YP w h → (K w.params).In h)
    (F : ∀ (w : World) (mg : Str → Option Value) (fa : Addr) (h : Heap), (K w.params).In h → h.Ns mainGlobals mg → mg d.name = some (.ref fa) → TabsIn q (K w.params) h → LamX.LawAtS l w (K w.params) CX0 k n x mg fa h) :
    PySem.W.WalkO q loose XP YP l.row.toRowW d [] (fun f vs => PySem.call f vs) := by
  refine Att.attach_callB hn hdf
    fun w s₀ s₁ mg mb fa o pm cd doc a vs ns G Y ho hd hcd hmg hobj hints hlen hbits hg => ?_
  have hK := hY w _ Y
  have tabs : TabsIn q (K w.params) s₁.heap := fun y c P hf ht => by
    obtain ⟨dL, hfd⟩ := Option.isSome_iff_exists.mp hf
    exact PySem.W.tab_of G.T hK hfd ht
  obtain ⟨fd, cs, sp, hT, nT, C, hb, hsp, hF⟩ := F w mg fa _ hK G.T.g hmg tabs
  exact LamX.law_callTs hK G.T.g G.T.b G.T.builtins G.T.nolimit hg hT nT C G.T.bmain hobj hints
    (Nat.le_trans hlen hn2) hr hF hb (fun H hH hS => hsp H a ns hlen hbits hH hS) fun H e s' z => z

def qLam (x : Str) : Str := x ++ ".<locals>." ++ "<lambda>"
/-- as Fun, its code object told -/
structure FunC (K : PySem.W.Frag) (x qual : Str) (st : Stmt) (f : Addr) (fd : FuncData) (cc : Addr) : Prop where
  ex : ∃ (oc : Value) (od : Option Addr) (kV doc pm : Value) (an : Option Addr) (ct : Value) (osl : Array (Option Value)),
    fd = PySem.W.fnOf x qual (defArgs st) (defBody st) (defScope st) .none kV doc pm an (.ref cc) ct ∧ K.lookup f = some ⟨oc, od, .func fd, osl⟩ ∧ PySem.W.codeIn K (.ref cc) qual = true
theorem funC_mk {K : PySem.W.Frag} {x qual : Str} {st : Stmt} {f cc : Addr} {oc : Value} {od an : Option Addr} {osl : Array (Option Value)} {kV doc pm ct : Value} (l : K.lookup f = some ⟨oc, od, .func (PySem.W.fnOf x qual (defArgs st) (defBody st) (defScope st) .none kV doc pm an (.ref cc) ct), osl⟩)
    (c : PySem.W.codeIn K (.ref cc) qual = true) : FunC K x qual st f (PySem.W.fnOf x qual (defArgs st) (defBody st) (defScope st) .none kV doc pm an (.ref cc) ct) cc := ⟨⟨oc, od, kV, doc, pm, an, ct, osl, rfl, l, c⟩⟩
/-- what a maker of lambdas has: its table at PP among the tables TS -/
structure Mkr (base : Heap) (mg : Str → Option Value) (cc PP : Addr) (x : Str) (TS : List (Addr × Str)) : Prop where
  tb : LamX.TabB base mg cc PP
  hm : (PP, qLam x) ∈ TS
  hu : ∀ p ∈ TS, p.1 = PP → p.2 = qLam x
section
variable {P : Program} {w : World} {K : PySem.W.Frag} {mg : Str → Option Value} {base : Heap}
theorem fun_okL {x qual : Str} {st : Stmt} {f cc : Addr} {fd : FuncData} {N ps : List Str} {k : Nat} {sp : Sp} (F : FunC K x qual st f fd cc) (S : FnScope N ps (defScope st)) (ln : ∀ vs H Q E, sp vs H Q E → vs.length = ps.length)
    (hbody : ∀ (A : Around) (outer : List Env) (s : Shared) (H : Hp) (vs : List V) (Q : VK) (E : XK), Room k (A.deeper (envOfC qual (defScope st) s.heap.objs.size f (.ref cc))) → sp vs H Q E →
      ∃ t, PSs (cxOf CX0 P w K mg base N qual (defScope st) f (.ref cc) A outer s H E).nox (defBody st) t ∧ t { nx := fun _ H' => Q .non H', rt := Q } (L2.start N vs) H) : FnOk P w K mg base CX0 (k + 1) f fd ps sp := by
  obtain ⟨oc, od, kV, doc, pm, an, ct, osl, rfl, lk, hcd⟩ := F.ex
  refine fn_of lk hcd S ln fun A outer s H vs Q E hr hsp => ?_
  obtain ⟨t, ht, hq⟩ := hbody A outer s H vs Q E hr hsp
  exact ⟨t, ht.nox, hq⟩
end
/-! ### the state of the later laws; what stands but the state and the tables -/
def IsSx (H : Hp) (st : Addr) : Prop := ∃ (a : Int) (b : Bool), H st = some (.lst [.int a, .bl b]) ∧ 0 ≤ a ∧ (b = false → a < 2147483647)
def Gx (st : Addr) (H H' : Hp) : Prop := (∀ b o, b ≠ st → (∀ ps, o ≠ .tbl ps) → H b = some o → H' b = some o) ∧ (IsSx H st → IsSx H' st) ∧ ∀ T, LamX.Tabs T H → LamX.Tabs T H'
theorem Gx.refl {st : Addr} {H : Hp} : Gx st H H := ⟨fun _ _ _ _ h => h, id, fun _ h => h⟩
theorem Gx.trans {st : Addr} {H H1 H2 : Hp} (a : Gx st H H1) (b : Gx st H1 H2) : Gx st H H2 := ⟨fun c o n z h => b.1 c o n z (a.1 c o n z h), fun h => b.2.1 (a.2.1 h), fun T h => b.2.2 T (a.2.2 T h)⟩
theorem gx_same {st : Addr} {H H' : Hp} (s : Same H H') : Gx st H H' := ⟨fun b o _ _ h => s b o h, fun ⟨a, b, h, r⟩ => ⟨a, b, s _ _ h, r⟩, fun T h => h.ext s⟩
theorem lst_tbl {xs : List V} : ∀ ps, HO.lst xs ≠ .tbl ps := fun ps z => by cases z
theorem tup_tbl {xs : List V} : ∀ ps, HO.tup xs ≠ .tbl ps := fun ps z => by cases z
theorem tabs_lst {T : List (Addr × Str)} {H : Hp} {D : Addr} {xs ys : List V} (e : H D = some (.lst xs)) (h : LamX.Tabs T H) : LamX.Tabs T (upd H D (.lst ys)) := fun p hp => by
  obtain ⟨ps, h1, h2, h3⟩ := h p hp
  refine ⟨ps, ?_, h2, fun pos cv hc => ?_⟩
  · rw [upd_ne (ne_of h1 e (by intro z; cases z))]
    exact h1
  · obtain ⟨c0, e1, e2⟩ := h3 pos cv hc
    refine ⟨c0, e1, ?_⟩
    rw [upd_ne (ne_of e2 e (by intro z; unfold LamX.CodeO at z; cases z))]
    exact e2
theorem gx_ext {st : Addr} {H H' : Hp} (e : LamX.ExtN H H') (t : ∀ T, LamX.Tabs T H → LamX.Tabs T H') : Gx st H H' := ⟨fun b o _ z h => e b o h z, fun ⟨a, b, h, r⟩ => ⟨a, b, e _ _ h lst_tbl, r⟩, t⟩
theorem Gx.sqT {st : Addr} {K : PySem.W.Frag} {H H' : Hp} {a : Addr} {xs : List V} (g : Gx st H H') (s : IsSx H st) (h : SqT K H a xs) : SqT K H' a xs := by
  obtain ⟨u, v, hs, _⟩ := s
  rcases h with (h | ⟨o, h⟩) | h
  · exact .inl (.inl (g.1 _ _ (ne_of h hs (by intro z; cases z)) tup_tbl h))
  · exact .inl (.inr ⟨o, g.1 _ _ (ne_of h hs (by intro z; cases z)) (fun ps z => by cases z) h⟩)
  · exact .inr h
theorem Gx.tk {st : Addr} {K : PySem.W.Frag} {H H' : Hp} (g : Gx st H H') (s : IsSx H st) : TKeep K H H' := fun _ _ h => g.sqT s h
/-- what stood before the law's state was made -/
theorem Gx.sqL {st : Addr} {K : PySem.W.Frag} {H H' : Hp} {a : Addr} {xs : List V} (g : Gx st H H') (n : a ≠ st) (h : SqL K H a xs) : SqL K H' a xs := by
  rcases h with (h | ⟨o, h⟩) | h
  · exact .inl (.inl (g.1 _ _ n lst_tbl h))
  · exact .inl (.inr ⟨o, g.1 _ _ n (fun ps z => by cases z) h⟩)
  · exact .inr h
theorem sx_ne {H : Hp} {st p : Addr} (s : IsSx H st) (h : H p = none) : p ≠ st := by
  obtain ⟨a, b, e, _⟩ := s
  exact fun z => by rw [z, e] at h; cases h
theorem gx_set {st : Addr} {H : Hp} {a : Int} {b : Bool} {xs : List V} (e : H st = some (.lst xs)) (h0 : 0 ≤ a) (h1 : b = false → a < 2147483647) : Gx st H (upd H st (.lst [.int a, .bl b])) :=
  ⟨fun c o n _ h => by rw [upd_ne n]; exact h, fun _ => ⟨a, b, upd_same, h0, h1⟩, fun T h => tabs_lst e h⟩
theorem gx_upd {st D : Addr} {H0 H : Hp} {xs : List V} (g : Gx st H0 H) (n0 : H0 D = none) (nD : D ≠ st) (eD : H D = some (.lst xs)) (ys : List V) : Gx st H0 (upd H D (.lst ys)) :=
  ⟨fun b o n z h => by rw [upd_ne (ne_of_none h n0)]; exact g.1 b o n z h, fun s => by
    obtain ⟨a, b, e, r⟩ := g.2.1 s
    exact ⟨a, b, by rw [upd_ne (Ne.symm nD)]; exact e, r⟩, fun T h => tabs_lst eD (g.2.2 T h)⟩
/-- the same with the law's own tables alone -/
def Gw (TS : List (Addr × Str)) (st : Addr) (H H' : Hp) : Prop := (∀ b o, b ≠ st → (∀ ps, o ≠ .tbl ps) → H b = some o → H' b = some o) ∧ (IsSx H st → IsSx H' st) ∧ (LamX.Tabs TS H → LamX.Tabs TS H')
theorem Gw.refl {TS : List (Addr × Str)} {st : Addr} {H : Hp} : Gw TS st H H := ⟨fun _ _ _ _ h => h, id, id⟩
theorem Gw.trans {TS : List (Addr × Str)} {st : Addr} {H H1 H2 : Hp} (a : Gw TS st H H1) (b : Gw TS st H1 H2) : Gw TS st H H2 := ⟨fun c o n z h => b.1 c o n z (a.1 c o n z h), fun h => b.2.1 (a.2.1 h), fun h => b.2.2 (a.2.2 h)⟩
theorem Gx.l {TS : List (Addr × Str)} {st : Addr} {H H' : Hp} (g : Gx st H H') : Gw TS st H H' := ⟨g.1, g.2.1, g.2.2 TS⟩
theorem gw_same {TS : List (Addr × Str)} {st : Addr} {H H' : Hp} (s : Same H H') : Gw TS st H H' := (gx_same s).l
theorem gw_ext {TS : List (Addr × Str)} {st : Addr} {H H' : Hp} (e : LamX.ExtN H H') (t : LamX.Tabs TS H') : Gw TS st H H' := ⟨fun b o _ z h => e b o h z, fun ⟨a, b, h, r⟩ => ⟨a, b, e _ _ h lst_tbl, r⟩, fun _ => t⟩
theorem Gw.tk {TS : List (Addr × Str)} {st : Addr} {K : PySem.W.Frag} {H H' : Hp} (g : Gw TS st H H') (s : IsSx H st) : TKeep K H H' := fun a xs h => by
  obtain ⟨u, v, hs, _⟩ := s
  rcases h with (h | ⟨o, h⟩) | h
  · exact .inl (.inl (g.1 _ _ (ne_of h hs (by intro z; cases z)) tup_tbl h))
  · exact .inl (.inr ⟨o, g.1 _ _ (ne_of h hs (by intro z; cases z)) (fun ps z => by cases z) h⟩)
  · exact .inr h
theorem ExtN.tk {K : PySem.W.Frag} {H H' : Hp} (e : LamX.ExtN H H') : TKeep K H H' := fun a xs h => by
  rcases h with (h | ⟨o, h⟩) | h
  · exact .inl (.inl (e _ _ h tup_tbl))
  · exact .inl (.inr ⟨o, e _ _ h (fun ps z => by cases z)⟩)
  · exact .inr h
/-- what stands in a law between two of its states -/
structure Go (TS : List (Addr × Str)) (H H' : Hp) : Prop where
  e : LamX.ExtN H H'
  t : LamX.Tabs TS H'
theorem Go.sqL {TS : List (Addr × Str)} {K : PySem.W.Frag} {H H' : Hp} {a : Addr} {xs : List V} (g : Go TS H H') (h : SqL K H a xs) : SqL K H' a xs := by
  rcases h with (h | ⟨o, h⟩) | h
  · exact .inl (.inl (g.e _ _ h lst_tbl))
  · exact .inl (.inr ⟨o, g.e _ _ h (fun ps z => by cases z)⟩)
  · exact .inr h
theorem Gw.go {TS : List (Addr × Str)} {st : Addr} {H0 H H1 H2 : Hp} (g : Gw TS st H1 H2) (o : Go TS H0 H) (s : Same H H1) (n : H st = none) : Go TS H0 H2 :=
  ⟨fun b u h z => g.1 b u (ne_of_none (o.e b u h z) n) z (s _ _ (o.e b u h z)), g.2.2 (o.t.ext s)⟩

/-! ### refusals with fields -/
def clsB (s : Stmt) (i : Nat) : Stmt := match s with
  | .ClassDef _ _ _ b _ _ _ _ _ _ _ => b.getD i (.Pass ⟨0, 0, 0, 0⟩)
  | _ => .Pass ⟨0, 0, 0, 0⟩
/-- the class at C is made by its own __init__, which keeps sp -/
structure IniT (P : Program) (w : World) (K : PySem.W.Frag) (mg : Str → Option Value) (base : Heap) (C : Addr) (n : Nat) (sp : Sp) : Prop where
  ex : ∃ (fI : Addr) (fd : FuncData) (ps : List Str), OexC K C ∧ PySem.W.findIn K (.ref C) "__init__" = some (some (.ref fI)) ∧ PySem.W.typeIn K (.ref fI) = some (.type "function") ∧ FnOk P w K mg base CX0 1 fI fd ps sp ∧ Binds K fd ps []
theorem pmk_init {X : Cx} {C : Addr} {n : Nat} {sp : Sp} {x : Str} {e : Expr} {es : List Expr} {ta : TA} {p pos : Pos} (I : IniT X.prog X.w X.K X.mg X.base C n sp) (hr : Room 2 X.A) (hg : Gl X x) (hm : X.mg x = some (.ref C)) (ha : PA X (e :: es) ta)
    (hdb : (x == ("__debug__" : Str)) = false := by decide) (he : starEach (e :: es) X.env = (false, eval e X.env) :: starEach es X.env := by rfl) (hpl : (backTo pos (starEach es X.env)).any (·.1) = false := by rfl) :
    PMk X (.Call (.Name x p) (e :: es) [] pos) (tMkO C sp [] ta) := by
  obtain ⟨fI, fd, ps, o, i, t, F, b⟩ := I.ex
  exact pmk_oex o i t F hr b .nil pass0 hg hm ha hdb he hpl
/-- a wish may lean on how many slots there are -/
theorem takes_len {X : Cx} {W : WX} (tk : Takes X W) : Takes X (fun cls d σ H => σ.length = X.N.length → W cls d σ H) := fun u s' ⟨a, B, sI, pins, σ, H, cls, d, e, I, nb, up, sky, na, os, ag, hw⟩ =>
  tk u s' ⟨a, B, sI, pins, σ, H, cls, d, e, I, nb, up, sky, na, os, ag, hw I.len⟩
theorem HasXd.sm {d : Option Addr} {H H' : Hp} (h : HasXd d H) (s : Same H H') : HasXd d H' := fun dd e => by
  obtain ⟨fs, hf⟩ := h dd e
  exact ⟨fs, s _ _ hf⟩
theorem bits_count (i : Nat) (h : i < 16) : (bits i).count true = 1 := by
  have : ∀ i, i < 16 → (bits i).count true = 1 := by decide
  exact this i h
theorem bits_at (i j : Nat) (h : j < 16) : ((bits i).map V.bl)[j]? = some (.bl (decide (i = j))) := by
  unfold bits
  rw [List.map_map, List.getElem?_map, List.getElem?_range h]
  rfl
theorem run_ex {X : Cx} {st : List Stmt} {pins : List (Addr × Obj)} {s : Shared} {σ : L2.St} {H : Hp} {D : Ends} (h : ∃ t, PSs X st t ∧ t D σ H) (I : Inv X pins σ H s) :
    wpAny (model X.prog X.w) X.A (execs st X.env) (SP X pins D) X.xe s := by
  obtain ⟨t, h1, h2⟩ := h
  exact h1.run pins s σ H D I h2

theorem sl_any {K : PySem.W.Frag} {H : Hp} {a : Addr} {xs : List V} {lo hi : Option Int} {R : VK} (hS : SqT K H a xs) (h : ∀ H' p, Same H H' → SqT K H' p (cutV xs lo hi) → R (.ref p) H') : rSlA K (.ref a) lo hi H R :=
  ⟨a, xs, rfl, hS, fun w => h H a (Same.refl _) (by rw [cut_whole w]; exact hS), fun _ p np => h _ p (same_upd np) (.inl (.inl upd_same))⟩
theorem cat_any {K : PySem.W.Frag} {H : Hp} {a b : Addr} {xs ys : List V} {R : VK} (ha : SqT K H a xs) (hb : SqT K H b ys) (hz : xs.length + ys.length ≤ 1000) (h : ∀ H' p, Same H H' → SqT K H' p (xs ++ ys) → R (.ref p) H') : rCatA K (.ref a) (.ref b) H R :=
  ⟨a, b, xs, ys, rfl, rfl, ha, hb, Nat.le_of_lt (small1000 hz), fun e => h H b (Same.refl _) (by rw [e]; exact hb), fun _ e => h H a (Same.refl _) (by rw [e, List.append_nil]; exact ha), fun _ _ p np => h _ p (same_upd np) (.inl (.inl upd_same))⟩
theorem Sd.st {k : Nat} {x : Str} (h : PyData.strOk x = true) : Sd k (.str x) := ⟨h, Nat.zero_le _⟩
theorem sd_mv (m : MV) : Sd 1 (mvD m) := Sd.tup fun e he => by
  rcases mem3 he with rfl | rfl | rfl <;> exact Sd.int _
theorem sd_bk (o : Option Int) : Sd 0 (bkD o) := by
  cases o with
  | none => exact Sd.none
  | some i => exact Sd.int i
theorem sd_ly (l : LY) : Sd 3 (lyD l) := Sd.tup fun e he => by
  rcases mem2 he with rfl | rfl
  · exact Sd.tup fun z hz => by
      obtain ⟨r, _, rfl⟩ := List.mem_map.mp hz
      exact sd_rw r
  · exact (sd_bk _).more (by omega)
theorem sd_win (x y : Int) (ms : List MV) : Sd 3 (winD x y ms) := Sd.tup fun e he => by
  rcases mem3 he with rfl | rfl | rfl
  · exact Sd.int _
  · exact Sd.int _
  · exact Sd.tup fun z hz => by
      obtain ⟨m, _, rfl⟩ := List.mem_map.mp hz
      exact sd_mv m
theorem sd_sh (ls : List LY) (x y : Int) (ms : List MV) : Sd 5 (shD ls x y ms) := Sd.tup fun e he => by
  rcases mem2 he with rfl | rfl
  · exact Sd.tup fun z hz => by
      obtain ⟨l, _, rfl⟩ := List.mem_map.mp hz
      exact sd_ly l
  · exact (sd_win x y ms).more (by omega)
/-- what met tells, as data -/
def toldD (d : PyData) : PyData := .tuple [.str "told", d]
def refD (i : Int) : PyData := .tuple [.str "refused", .int i]
def manyD (m n : Int) : PyData := .tuple [.str "many", .tuple [.int m, .int n]]
theorem sd_told {k : Nat} {d : PyData} (h : Sd k d) : Sd (k + 1) (toldD d) := Sd.tup fun e he => by
  rcases mem2 he with rfl | rfl
  · exact Sd.st (by decide +kernel)
  · exact h
theorem sd_ref (i : Int) : Sd 1 (refD i) := Sd.tup fun e he => by
  rcases mem2 he with rfl | rfl
  · exact Sd.st (by decide +kernel)
  · exact Sd.int i
theorem sd_many (m n : Int) : Sd 2 (manyD m n) := Sd.tup fun e he => by
  rcases mem2 he with rfl | rfl
  · exact Sd.st (by decide +kernel)
  · exact Sd.tup fun z hz => by rcases mem2 hz with rfl | rfl <;> exact Sd.int _
theorem told_dp {K : PySem.W.Frag} {H : Hp} {p : Addr} {v : V} {d : PyData} (h : SqT K H p [.str "told", v]) (hv : Dp K H v d) : Dp K H (.ref p) (toldD d) := .tup h (.cons (.str _) (.cons hv .nil))
theorem ref_dp {K : PySem.W.Frag} {H : Hp} {p : Addr} {i : Int} (h : SqT K H p [.str "refused", .int i]) : Dp K H (.ref p) (refD i) := .tup h (.cons (.str _) (.cons (.int i) .nil))
theorem many_dp {K : PySem.W.Frag} {H : Hp} {p q : Addr} {m n : Int} (h : SqT K H p [.str "many", .ref q]) (hq : SqT K H q [.int m, .int n]) : Dp K H (.ref p) (manyD m n) := .tup h (.cons (.str _) (.cons (.tup hq (.cons (.int m) (.cons (.int n) .nil))) .nil))
/-- != of two things of the same data -/
theorem ne_eqd {K : PySem.W.Frag} {H : Hp} {x y : V} {d : PyData} {Q : VK} (hx : Dp K H x d) (hy : Dp K H y d) (sd : ∃ k, Sd k d ∧ k ≤ 64) (q : Q (.bl false) H) : rNeD K x y H Q := by
  obtain ⟨k, s, hk⟩ := sd
  exact ne_same hx hy s hk q
/-- data that stands as long as the tuples do -/
def Dk (K : PySem.W.Frag) (H : Hp) (v : V) (d : PyData) : Prop := ∀ H', TKeep K H H' → Dp K H' v d
theorem Dk.keep {K : PySem.W.Frag} {H H' : Hp} {v : V} {d : PyData} (h : Dk K H v d) (k : TKeep K H H') : Dk K H' v d := fun H2 k2 => h H2 fun a xs z => k2 _ _ (k _ _ z)
theorem Dk.dp {K : PySem.W.Frag} {H : Hp} {v : V} {d : PyData} (h : Dk K H v d) : Dp K H v d := h H fun _ _ z => z
theorem ShAt.dk {K : PySem.W.Frag} {H : Hp} {v : V} {ls : List LY} {x y : Int} {ms : List MV} (h : ShAt K H v ls x y ms) : Dk K H v (shD ls x y ms) := fun H' k => (h.keep k).dp
theorem LyAt.dk {K : PySem.W.Frag} {H : Hp} {v : V} {l : LY} (h : LyAt K H v l) : Dk K H v (lyD l) := fun H' k => (LyAt.keep k h).dp
theorem told_dk {K : PySem.W.Frag} {H : Hp} {p : Addr} {v : V} {d : PyData} (h : SqT K H p [.str "told", v]) (hv : Dk K H v d) : Dk K H (.ref p) (toldD d) := fun H' k => told_dp (k _ _ h) (hv H' k)
theorem ref_dk {K : PySem.W.Frag} {H : Hp} {p : Addr} {i : Int} (h : SqT K H p [.str "refused", .int i]) : Dk K H (.ref p) (refD i) := fun H' k => ref_dp (k _ _ h)
theorem many_dk {K : PySem.W.Frag} {H : Hp} {p q : Addr} {m n : Int} (h : SqT K H p [.str "many", .ref q]) (hq : SqT K H q [.int m, .int n]) : Dk K H (.ref p) (manyD m n) := fun H' k => many_dp (k _ _ h) (k _ _ hq)
theorem pi_listK {X : Cx} {K : PySem.W.Frag} {tg l : Expr} {tl : TE} (hl : PE X l tl) (hK : X.K = K := by rfl) : PI X tg l (iList K tl) := by
  subst hK
  exact pi_list hl
theorem pi_tupK {X : Cx} {K : PySem.W.Frag} {tg l : Expr} {tl : TE} (hl : PE X l tl) (hK : X.K = K := by rfl) : PI X tg l (iTup K tl) := by
  subst hK
  exact pi_tup hl
/-- is not, of two truths -/
theorem op_notB {X : Cx} : OpR X (compareOp .IsNot) (fun x y H Q => ∃ a b, x = .bl a ∧ y = .bl b ∧ Q (.bl (!decide (a = b))) H) := by
  intro pins s σ H x y v u Q I rx ry h
  obtain ⟨a, b, rfl, rfl, q⟩ := h
  cases rx
  cases ry
  show wpAny _ _ ((isSame (Value.bool a) (Value.bool b)) >>= fun z => pure (Value.bool (!z))) _ _ s
  exact wpAny_bind (wpAny_isSame_plain rfl (wpAny_pure (fin_bl I q (by cases a <;> cases b <;> rfl))))

/-! ### a try whose body always refuses, the caught error kept in a name beyond the clause -/
/-- the context with one more thing that stands still -/
abbrev pnd (X : Cx) (p : Addr × Obj) : Cx := { X with pn := p :: X.pn }
theorem pnd_ok {X : Cx} {p : Addr × Obj} (ok : X.Ok) : (pnd X p).Ok := ok.toTry (p :: X.pn) X.xe
theorem inv_pnd {X : Cx} {p : Addr × Obj} {pins : List (Addr × Obj)} {σ : L2.St} {H : Hp} {s : Shared} (I : Inv X (p :: pins) σ H s) : Inv (pnd X p) pins σ H s :=
  ⟨pnd_ok I.ok, I.os, I.bare, I.base, I.loc, I.cell, I.free, I.freeC, fun q hq => I.pin q (by
    rcases List.mem_append.mp hq with h | h
    · rcases List.mem_cons.mp h with e | h
      · exact List.mem_append_right _ (by rw [e]; exact List.mem_cons_self)
      · exact List.mem_append_left _ h
    · exact List.mem_append_right _ (List.mem_cons_of_mem _ h)), I.hok, I.len⟩
theorem inv_unpnd {X : Cx} {p : Addr × Obj} {pins : List (Addr × Obj)} {σ : L2.St} {H : Hp} {s : Shared} (ok : X.Ok) (I : Inv (pnd X p) pins σ H s) : Inv X pins σ H s :=
  ⟨ok, I.os, I.bare, I.base, I.loc, I.cell, I.free, I.freeC, fun q hq => I.pin q (by
    rcases List.mem_append.mp hq with h | h
    · exact List.mem_append_left _ (List.mem_cons_of_mem _ h)
    · exact List.mem_append_right _ h), I.hok, I.len⟩
/-- behind the clause the caught one still stands -/
theorem inv_behind {X : Cx} {a : Addr} {oe : Obj} {pins pn' : List (Addr × Obj)} {σ : L2.St} {H : Hp} {s : Shared} (ok : X.Ok) (I : Inv (X.suite a ((a, oe) :: (X.pn ++ pins))) pn' σ H s) : Inv X ((a, oe) :: pins) σ H s :=
  ⟨ok, I.os, I.bare, I.base, I.loc, I.cell, I.free, I.freeC, fun q hq => I.pin q (List.mem_append_left _ (by
    rcases List.mem_append.mp hq with h | h
    · exact List.mem_cons_of_mem _ (List.mem_append_left _ h)
    · rcases List.mem_cons.mp h with e | h
      · rw [e]
        exact List.mem_cons_self
      · exact List.mem_cons_of_mem _ (List.mem_append_right _ h))), I.hok, I.len⟩
/-- no way goes on but by what is caught -/
def noEnds : Ends := { nx := fun _ _ => False, rt := fun _ _ => False, bk := fun _ _ => False, ct := fun _ _ => False }
/-- what is wished of a refusal: the clause takes it, its suite ends, and the rest is read with it -/
def wKeep (K : PySem.W.Frag) (c : Value) (i : Nat) (ts tr : Addr → Value → Option Addr → TS) (D : Ends) : WX := fun cls d σ H =>
  PySem.W.exmOne K cls c = some true ∧ ∀ a, H a = none → ts a cls d { noEnds with nx := fun σ' H' => tr a cls d D (σ'.set i none) H' } (σ.set i (some (.ref a))) H
section
variable {X : Cx} {x n : Str} {c : Value} {i : Nat} {body suite rest : List Stmt} {b₀ : Stmt} {np pos pos' : Pos} {tb : WX → TS} {ts tr : Addr → Value → Option Addr → TS}
theorem pss_keep (hs : X.stack = X.env :: X.outer) (hf : X.env.frame = some X.env.locals) (hN : X.N.Nodup) (hi : X.N[i]? = some n) (hln : X.env.kindOf n = some .local) (hc : Names X x c)
    (hb : ∀ (W : WX) (pn : List (Addr × Obj)) (xe : Value → Shared → Prop), Takes (X.tr pn xe) W → PSs (X.tr pn xe) body (tb W))
    (hsu : ∀ (a : Addr) (oe : Obj) (cls : Value) (d : Option Addr) (pn : List (Addr × Obj)), Zc cls d oe → (∃ vs, oe.data = .fields vs) → PSs (X.suite a ((a, oe) :: pn)) (b₀ :: suite) (ts a cls d))
    (hre : ∀ (a : Addr) (oe : Obj) (cls : Value) (d : Option Addr), Zc cls d oe → (∃ vs, oe.data = .fields vs) → PSs (pnd X (a, oe)) rest (tr a cls d)) :
    PSs X (.Try body [.ExceptHandler (some (.Name x np)) (some n) (b₀ :: suite) pos'] [] [] pos :: rest) (fun D σ H => tb (wKeep X.K c i ts tr D) noEnds σ H) := by
  refine ⟨fun pins s σ H D I h => wpAny_execs_cons (wpAny_Try_except ?_)⟩
  have ok := I.ok
  have frm : X.A.frames = some (X.env :: X.outer) := ok.frames.trans (congrArg some hs)
  refine wpAny_mono ((hb (wKeep X.K c i ts tr D) (X.pn ++ pins) _ fun u s' xx => ?_).run [] s σ H noEnds (I.toTry _) h) (fun f s1 z => ?_) (fun _ _ z => z)
  · obtain ⟨a, B, sI, _, σ1, H1, cls, d, rfl, J0, nb, up, sky, na, os, ag, take, go⟩ := xx
    have J : Inv X pins σ1 H1 sI := J0.ofTry ok
    rw [show (X.tr (X.pn ++ pins) _).stack = X.env :: X.outer from hs] at sky
    refine Sky.land Zc.steady frm hf sky fun hA flA upA => ?_
    have off : ∀ {hh : Heap}, HandSPX.FlyingZ B (X.env :: X.outer) a (Zc cls d) hh → a ≠ X.env.locals ∧ a ∉ X.fs ∧ ∃ oe, hh.get? a = some oe ∧ Zc cls d oe ∧ ∃ vs, oe.data = .fields vs := fun {hh} fl => by
      obtain ⟨oe, vs, e1, e2, e3⟩ := fl.there
      have nf : a ∉ frs (X.env :: X.outer) := fun m => by
        obtain ⟨_, o2, q1, q2⟩ := fl.2.2.1.mem m
        cases e1.symm.trans q1
        exact q2 _ e3
      refine ⟨fun q => nf (List.mem_filterMap.mpr ⟨X.env, List.mem_cons_self, hf.trans (congrArg some q.symm)⟩), fun m => nf ?_, oe, e1, e2, vs, e3⟩
      obtain ⟨en, m1, m2⟩ := List.mem_filterMap.mp m
      exact List.mem_filterMap.mpr ⟨en, List.mem_cons_of_mem _ m1, m2⟩
    obtain ⟨nL, nF, oA, eA, zA, vA, dA⟩ := off flA
    have JA : Inv X pins σ1 H1 { s' with heap := hA } := J.landed nb flA.1 (up.trans upA) os ag
    have SA := JA.suite eA dA na nL nF
    have tells : PySem.W.Looks (model X.prog X.w) hA (typeOf (.ref a)) cls := fun A Q E s k q => wpAny_typeOf_ref (k _ _ eA) (by rw [zA.1]; exact q)
    refine wpAny_handleBy_cons (codeAny_handlers_test ?_) (fun q => nomatch q)
    have named : ∀ {Q E : Value → Shared → Prop}, Q c { s' with heap := hA } → wpAny (model X.prog X.w) (X.A.mark (some (.ref a))) (eval (.Name x np) X.env) Q E { s' with heap := hA } := fun {Q E} q => by
      obtain ⟨g1, g2, g3⟩ := hc
      rcases g3 with m | ⟨m, b1, b2⟩
      · exact ld_glob (X := X.suite a ((a, oA) :: (X.pn ++ pins))) SA g1 m q g2
      · exact ld_blt (X := X.suite a ((a, oA) :: (X.pn ++ pins))) SA g1 m b1 q b2 g2
    refine named ((PySem.W.exm_one (M := model X.prog X.w) JA.kIn tells take).here ?_)
    refine codeAny_handlers_suite_as (HandSPX.lands_againZ flA fun hB flB upB => ?_)
    obtain ⟨_, _, oB, eB, zB, vB, dB⟩ := off flB
    have SB := (J.landed (s' := { s' with heap := hB }) nb flB.1 ((up.trans upA).trans upB) os ag).suite eB dB na nL nF
    refine store_ok (X := X.suite a ((a, oB) :: (X.pn ++ pins))) (v := .ref a) SB hN hi (.inl hln) rfl (fun sC SC => ?_) (.inr hln)
    refine wpAny_mono ((hsu a oB cls d (X.pn ++ pins) zB ⟨vB, dB⟩).run [] sC _ H1 _ SC (go a na)) (fun f sD z => ?_) (fun _ _ z => False.elim z)
    cases f with
    | next =>
      obtain ⟨σD, HD, ID, q⟩ := z
      refine gone_ok (inv_behind ok ID) hN hi hln fun sE IE => ?_
      refine wpAny_mono ((hre a oB cls d zB ⟨vB, dB⟩).run pins sE _ HD D (inv_pnd IE) q) (fun f sF z => ?_) (fun _ _ z => z)
      cases f with
      | next => exact z.imp fun _ z => z.imp fun _ z => ⟨inv_unpnd ok z.1, z.2⟩
      | brk => exact z.imp fun _ z => z.imp fun _ z => ⟨inv_unpnd ok z.1, z.2⟩
      | cont => exact z.imp fun _ z => z.imp fun _ z => ⟨inv_unpnd ok z.1, z.2⟩
      | ret u => exact z.imp fun _ z => z.imp fun _ z => z.imp fun _ z => ⟨inv_unpnd ok z.1, z.2⟩
    | brk => exact z.elim fun _ z => z.elim fun _ z => z.2.elim
    | cont => exact z.elim fun _ z => z.elim fun _ z => z.2.elim
    | ret u => exact z.elim fun _ z => z.elim fun _ z => z.elim fun _ z => z.2.2.elim
  · cases f with
    | next => exact z.elim fun _ z => z.elim fun _ z => z.2.elim
    | brk => exact z.elim fun _ z => z.elim fun _ z => z.2.elim
    | cont => exact z.elim fun _ z => z.elim fun _ z => z.2.elim
    | ret u => exact z.elim fun _ z => z.elim fun _ z => z.elim fun _ z => z.2.2.elim
end

/-! ### the end of a law that makes lambdas and calls repr -/
section
variable {P : Program} {w : World} {K : PySem.W.Frag} {mg : Str → Option Value}
theorem fun_okLG {base : Heap} {x qual : Str} {st : Stmt} {f cc : Addr} {fd : FuncData} {N ps : List Str} {k : Nat} {sp : Sp} (F : FunC K x qual st f fd cc) (S : FnScope N ps (defScope st)) (ln : ∀ vs H Q E, sp vs H Q E → vs.length = ps.length)
    (hbody : ∀ (A : Around) (outer : List Env) (s : Shared) (H : Hp) (vs : List V) (Q : VK) (E : XK), A.guards = some [] → Room k (A.deeper (envOfC qual (defScope st) s.heap.objs.size f (.ref cc))) → sp vs H Q E →
      ∃ t, PSs (cxOf CX0 P w K mg base N qual (defScope st) f (.ref cc) A outer s H E).nox (defBody st) t ∧ t { nx := fun _ H' => Q .non H', rt := Q } (L2.start N vs) H) : FnG P w K mg base (k + 1) f fd ps sp := by
  obtain ⟨oc, od, kV, doc, pm, an, ct, osl, e, l, c⟩ := F.ex
  have D : DefAt K x qual st f fd (.ref cc) := ⟨⟨kV, doc, pm, an, ct, e⟩, ⟨oc, od, osl, l⟩, c⟩
  refine ⟨ln, fun A outer s H args us vs Q E hgu hr e0 hb r hsp => D.call S hr.depth e0 hb fun s1 begun => ?_⟩
  obtain ⟨t, ht, hq⟩ := hbody A outer s H vs Q E hgu (hr.deeper _) hsp
  exact thn (ht.nox.run [] s1 _ H _ (inv_start S hr.hd e0 (ln _ _ _ _ hsp) r begun) hq) fun _ _ h => given_by rfl h
/-- the law's call from such a promise, the tables of its code objects told -/
theorem law_callGT {mb : Str → Option Value} {k : Nat} {fa a : Addr} {cs : List (Addr × Addr)} {fd : FuncData} {x : Str} {sp : Sp} {s₁ : Shared} {vs : List Value} {ns : List Int}
    (KX : K.In s₁.heap) (hns : s₁.heap.Ns mainGlobals mg) (hb : s₁.heap.Ns builtinsNs mb) (hbb : ∀ x : Str, x ≠ "__name__" → mb x = bootBuiltins x) (hlim : s₁.heap.NoLimit) (hge : s₁.gens = #[])
    (hT : ∀ p ∈ cs, s₁.heap.get? p.2 = some { cls := .none, data := .fields #[] }) (nT : ∀ p ∈ cs, K.lookup p.2 = none) (hC : ∀ p ∈ cs, PySem.W.CodeHd s₁.heap p.1 p.2)
    (hbm : ∃ (bm : Addr) (ob : Obj), mg "__builtins__" = some (.ref bm) ∧ bm ≠ builtinsNs ∧ s₁.heap.get? bm = some ob ∧ ob.cls = .type "module" ∧ ob.dict = some builtinsNs ∧ ob.data = .plain)
    (ha : s₁.heap.get? a = some { cls := .type "list", data := .seq vs.toArray }) (hi : IntsAre vs ns) (hl : ns.length ≤ sizeLine) (hr : Room k callerA)
    (F : ∀ base : Heap, K.In base → base.Ns mainGlobals mg → (∀ p ∈ cs, LamX.TabB base mg p.1 p.2) → FnG P w K mg base k fa fd [x] sp)
    (hbind : ∀ (s : Shared) (u : Value), BindsTo s fd ⟨[u], []⟩ [(x, u)])
    (hsp : ∀ H : Hp, (∀ p ∈ cs, H p.2 = some (.tbl #[])) → SqL K H a (ns.map V.int) → sp [.ref a] H (fun v _ => v = .bl true) fun _ _ _ => False) :
    codeAny (model P w) callerA (.call (.ref fa) ⟨[.ref a], []⟩)
      (fun r s' => r = .ok (.ret (.bool true)) ∧ OldK s₁.heap s'.heap ∧ s'.os = s₁.os ∧ AllBare s'.gens) s₁ := by
  have rv := vals_ints hi
  have lv := hi.length
  have tab : ∀ {b : Addr}, (∃ p ∈ cs, p.2 = b) → s₁.heap.get? b = some { cls := .none, data := .fields #[] } := fun {b} ⟨p, hp, e⟩ => e ▸ hT p hp
  have atab : ¬ ∃ p ∈ cs, p.2 = a := fun z => by
    have e := (tab z).symm.trans ha
    cases e
  have hex : ∃ H : Hp, (∀ b, (∃ p ∈ cs, p.2 = b) → H b = some (.tbl #[])) ∧ (K.lookup a = none → H a = some (.frz { cls := .type "list", data := .seq vs.toArray } (.lst (ns.map V.int)))) ∧
      ∀ b u, H b = some u → ((∃ p ∈ cs, p.2 = b) ∧ u = .tbl #[]) ∨ (b = a ∧ K.lookup a = none ∧ u = .frz { cls := .type "list", data := .seq vs.toArray } (.lst (ns.map V.int))) := by
    refine ⟨fun b => (open Classical in if ∃ p ∈ cs, p.2 = b then some (.tbl #[]) else if b = a ∧ K.lookup a = none then some (.frz { cls := .type "list", data := .seq vs.toArray } (.lst (ns.map V.int))) else none), fun b z => if_pos z, fun z => (if_neg atab).trans (if_pos ⟨rfl, z⟩), fun b u e => ?_⟩
    by_cases c1 : ∃ p ∈ cs, p.2 = b
    · exact .inl ⟨c1, (Option.some.inj ((if_pos c1).symm.trans e)).symm⟩
    · have e := (if_neg c1).symm.trans e
      by_cases c2 : b = a ∧ K.lookup a = none
      · exact .inr ⟨c2.1, c2.2, (Option.some.inj ((if_pos c2).symm.trans e)).symm⟩
      · cases (if_neg c2).symm.trans e
  obtain ⟨H, hHt, hHa, some_of⟩ := hex
  have none_of : ∀ {b o}, s₁.heap.get? b = some o → (∀ q n, o.data ≠ .seq q n) → o.data ≠ .fields #[] → H b = none := by
    intro b o e d1 d2
    cases c : H b with
    | none => rfl
    | some u =>
      rcases some_of b u c with ⟨z, _⟩ | ⟨z, _, _⟩
      · cases (tab z).symm.trans e
        exact absurd rfl d2
      · rw [z, ha] at e
        cases e
        exact absurd rfl (d1 _ _)
  have hS : SqL K H a (ns.map V.int) := by
    cases hk : K.lookup a with
    | none => exact .inl (.inr ⟨_, hHa hk⟩)
    | some o =>
      have e := KX a o hk
      rw [ha] at e
      cases e
      refine .inr ⟨_, vs.toArray, _, hk, rfl, rfl, rfl, ?_, by simpa using rv⟩
      rw [List.size_toArray, lv]
      exact hl
  have hok : HOk P w H s₁.heap := by
    intro b u e
    rcases some_of b u e with ⟨z, rfl⟩ | ⟨rfl, _, rfl⟩
    · exact tab z
    · refine ⟨ha, ?_, vs, _, rv, ha⟩
      rw [List.length_map]
      exact hl
  have nsB : ∀ {b : Addr} {m : Str → Option Value}, s₁.heap.Ns b m → (hidT s₁.heap H).Ns b m := by
    rintro b m ⟨o, es, ep, e, d, r⟩
    exact ⟨o, es, ep, hidT_get e (none_of e (fun q n z => by rw [d] at z; cases z) (fun z => by rw [d] at z; cases z)), d, r⟩
  have kB : K.In (hidT s₁.heap H) := by
    intro b o e
    refine hidT_get (KX b o e) ?_
    cases c : H b with
    | none => rfl
    | some u =>
      rcases some_of b u c with ⟨⟨p, hp, rfl⟩, _⟩ | ⟨rfl, k0, _⟩
      · rw [nT p hp] at e
        cases e
      · rw [k0] at e
        cases e
  have md : Mod K mg (hidT s₁.heap H) := by
    obtain ⟨mc, h1, h2⟩ := hlim
    exact ⟨kB, nsB hns, ⟨mb, nsB hb, hbb⟩, ⟨mc, nsB h1, h2⟩⟩
  have mainD : ∀ {b o}, s₁.heap.get? b = some o → (∀ es ep, o.data ≠ .dict es ep) → mainGlobals ≠ b := fun {b o} e d z => by
    obtain ⟨o', es, ep, e', d', _⟩ := hns
    rw [z, e] at e'
    cases e'
    exact d es ep d'
  have TB : ∀ p ∈ cs, LamX.TabB (hidT s₁.heap H) mg p.1 p.2 := fun p hp => by
    refine ⟨?_, ?_, mainD (hT p hp) (fun es ep z => nomatch z)⟩
    · obtain ⟨o, us, file, tf, flags, tg, inF, text, tt, e1, e2, e3, e4, e5⟩ := hC p hp
      refine ⟨o, us, file, tf, flags, tg, inF, text, tt, hidT_get e1 (none_of e1 (fun q n z => ?_) fun z => ?_), e2, e3, e4, e5⟩
      · rw [e3] at z
        cases z
      · rw [e3] at z
        cases z
        cases e4
    · obtain ⟨bm, ob, b1, b2, b3, b4, b5, b6⟩ := hbm
      refine ⟨bm, ob, b1, b2, (mainD b3 (fun es ep z => by rw [b6] at z; cases z)).symm, fun z => ?_, hidT_get b3 (none_of b3 (fun q n z => by rw [b6] at z; cases z) (fun z => by rw [b6] at z; cases z)), b4, b5, b6⟩
      rw [z, hT p hp] at b3
      cases b3
      cases b6
  have e0 : Env0 P w K mg (hidT s₁.heap H) callerA [] s₁ H := by
    refine ⟨rfl, md, fun b o e => of_hidT e, Nat.le_of_eq (hidT_size _ _), trivial, ?_, hok, .of_eq hge⟩
    intro b hb
    exact absurd (show b ∈ ([] : List Addr) from hb) (by simp)
  have go := (F _ kB (nsB hns) TB).run callerA [] s₁ H ⟨[.ref a], []⟩ [.ref a] [.ref a] _ _ rfl hr e0
    (hbind s₁ (.ref a)) (.cons rfl .nil) (hsp H (fun p hp => hHt p.2 ⟨p, hp, rfl⟩) hS)
  refine codeAny_mono go fun r s' h => ?_
  cases r with
  | error e => exact h.elim
  | ok fl =>
    cases fl with
    | ret u =>
      obtain ⟨v, H', os, bare, un, hok', r', qv⟩ := h
      have qv' : v = .bl true := qv
      subst qv'
      obtain rfl : u = Value.bool true := r'
      have each : ∀ b o, s₁.heap.get? b = some o → s'.heap.get? b = some o ∨ ((∃ p ∈ cs, p.2 = b) ∧ ∃ more : Array Value, s'.heap.get? b = some { cls := .none, data := .fields more }) := fun b o e => by
        cases c : H b with
        | none =>
          refine .inl (un.keep b o e c ?_ (by simp))
          intro z
          exact absurd (show b ∈ ([] : List Addr) from z) (by simp)
        | some u =>
          rcases some_of b u c with ⟨z, rfl⟩ | ⟨_, _, rfl⟩
          · obtain ⟨more, q⟩ := un.tbls b #[] c
            exact .inr ⟨z, _, hok' b _ q⟩
          · have c2 := un.frzs b _ _ c
            obtain ⟨e1, _⟩ := hok b _ c
            obtain ⟨e2, _⟩ := hok' b _ c2
            rw [e] at e1
            cases e1
            exact .inl e2
      refine ⟨rfl, ⟨fun b o e => ?_, fun b o e => ?_⟩, os, bare⟩
      · rcases each b o e with z | ⟨⟨p, hp, rfl⟩, more, z⟩
        · exact .inl z
        · cases e.symm.trans (hT p hp)
          exact .inr (.inl ⟨((hC p hp).tab (hT p hp)).isCodeTable, rfl, #[], more, rfl, by rw [Array.empty_append]; exact z⟩)
      · rcases each b o e with z | ⟨_, more, z⟩
        · exact ⟨_, z⟩
        · exact ⟨_, z⟩
    | next => exact False.elim h
    | brk => exact False.elim h
    | cont => exact False.elim h
end
/-- what is known of such a law at the head's heap -/
def LawAtG (l : PySem.W.OpenLaw) (w : World) (K : PySem.W.Frag) (k n : Nat) (x : Str) (mg : Str → Option Value) (fa : Addr) (h : Heap) : Prop :=
  ∃ (fd : FuncData) (cs : List (Addr × Addr)) (sp : Sp), (∀ p ∈ cs, h.get? p.2 = some { cls := .none, data := .fields #[] }) ∧ (∀ p ∈ cs, K.lookup p.2 = none) ∧ (∀ p ∈ cs, PySem.W.CodeHd h p.1 p.2) ∧ (∀ (s : Shared) (u : Value), BindsTo s fd ⟨[u], []⟩ [(x, u)]) ∧
    (∀ (H : Hp) (a : Addr) (ns : List Int), ns.length ≤ n → (∀ p ∈ cs, H p.2 = some (.tbl #[])) → SqL K H a (ns.map V.int) → sp [.ref a] H (fun v _ => v = .bl true) fun _ _ _ => False) ∧
    ∀ base : Heap, K.In base → base.Ns mainGlobals mg → (∀ p ∈ cs, LamX.TabB base mg p.1 p.2) → FnG l.prog w K mg base k fa fd [x] sp
theorem walk_ofLG {l : PySem.W.OpenLaw} {n k : Nat} {q : Program} {loose : List Str} {XP : (Str → Option Value) → Heap → Prop} {YP : World → Heap → Prop} {d : DefRec} {K : Params → PySem.W.Frag} {x : Str}
    (hn : l.most = some n) (hn2 : n ≤ sizeLine) (hdf : d.params.defaults = []) (hr : Room k callerA) (hY : ∀ (w : World) (h : Heap), YP w h → (K w.params).In h)
    (F : ∀ (w : World) (mg : Str → Option Value) (fa : Addr) (h : Heap), (K w.params).In h → h.Ns mainGlobals mg → mg d.name = some (.ref fa) → TabsIn q (K w.params) h → LawAtG l w (K w.params) k n x mg fa h) :
    PySem.W.WalkO q loose XP YP l.row.toRowW d [] (fun f vs => PySem.call f vs) := by
  refine Att.attach_callB hn hdf
    fun w s₀ s₁ mg mb fa o pm cd doc a vs ns G Y ho hd hcd hmg hobj hints hlen hbits hg => ?_
  have hK := hY w _ Y
  have tabs : TabsIn q (K w.params) s₁.heap := fun y c P hf ht => by
    obtain ⟨dL, hfd⟩ := Option.isSome_iff_exists.mp hf
    exact PySem.W.tab_of G.T hK hfd ht
  obtain ⟨fd, cs, sp, hT, nT, C, hb, hsp, hF⟩ := F w mg fa _ hK G.T.g hmg tabs
  exact law_callGT hK G.T.g G.T.b G.T.builtins G.T.nolimit hg hT nT C G.T.bmain hobj hints
    (Nat.le_trans hlen hn2) hr hF hb fun H hH hS => hsp H a ns hlen hH hS
/-- f(e, ..) where nothing is being shown -/
structure ClG (P : Program) (w : World) (K : PySem.W.Frag) (mg : Str → Option Value) (base : Heap) (k : Nat) (x : Str) (ps : List Str) (sp : Sp) : Prop where
  ex : ∃ (f : Addr) (fd : FuncData), FnG P w K mg base k f fd ps sp ∧ PySem.W.keepIn K (.ref f) = true ∧ Binds K fd ps [] ∧ mg x = some (.ref f)

/-! ### lengths of texts put together -/
theorem js_len {a b : Str} {m n : Nat} (ha : a.length ≤ m) (hb : b.length ≤ n) : (a ++ b).length ≤ m + n := by
  rw [strLen_append]
  omega
theorem js_ok {a : Str} {m : Nat} (ha : a.length ≤ m) (h : m ≤ 1000) : a.length ≤ sizeLine := Nat.le_trans ha (Nat.le_of_lt (small1000 h))
theorem it_len {i : Int} (h : i.natAbs ≤ 1000000000) : (Str.ofString (toString i)).length ≤ 60 ∧ i.natAbs.log2 < 1920 := by
  have hl : i.natAbs.log2 < 41 := by
    rcases Nat.eq_zero_or_pos i.natAbs with e | e
    · rw [e]
      decide
    · exact (Nat.log2_lt (by omega)).mpr (Nat.lt_of_le_of_lt h (by decide))
  have := int_text_length_le (a := i) (k := 41) (by decide) hl
  rw [PySem.ofString_length]
  omega

/-! ### what stands but the state and the tables, in the laws of the first stages -/
def Gv (TS : List (Addr × Str)) (st : Addr) (H H' : Hp) : Prop := (∀ b o, b ≠ st → (∀ ps, o ≠ .tbl ps) → H b = some o → H' b = some o) ∧ (IsSt H st → IsSt H' st) ∧ (LamX.Tabs TS H → LamX.Tabs TS H')
theorem Gv.refl {TS : List (Addr × Str)} {st : Addr} {H : Hp} : Gv TS st H H := ⟨fun _ _ _ _ h => h, id, id⟩
theorem Gv.trans {TS : List (Addr × Str)} {st : Addr} {H H1 H2 : Hp} (a : Gv TS st H H1) (b : Gv TS st H1 H2) : Gv TS st H H2 := ⟨fun c o n z h => b.1 c o n z (a.1 c o n z h), fun h => b.2.1 (a.2.1 h), fun h => b.2.2 (a.2.2 h)⟩
theorem Gr.v {TS : List (Addr × Str)} {st : Addr} {H H' : Hp} (g : Gr st H H') (hs : IsSt H st) : Gv TS st H H' := by
  obtain ⟨x, y, e, _⟩ := id hs
  refine ⟨fun b o n _ h => g.1 b o n h, g.2, fun t p hp => ?_⟩
  obtain ⟨ps, h1, h2, h3⟩ := t p hp
  refine ⟨ps, g.1 _ _ (ne_of h1 e (by intro z; cases z)) h1, h2, fun pos cv hc => ?_⟩
  obtain ⟨c0, e1, e2⟩ := h3 pos cv hc
  exact ⟨c0, e1, g.1 _ _ (ne_of e2 e (by intro z; unfold LamX.CodeO at z; cases z)) e2⟩
theorem gv_same {TS : List (Addr × Str)} {st : Addr} {H H' : Hp} (s : Same H H') : Gv TS st H H' := ⟨fun b o _ _ h => s b o h, fun ⟨a, b, h, r⟩ => ⟨a, b, s _ _ h, r⟩, fun h => h.ext s⟩
theorem gv_ext {TS : List (Addr × Str)} {st : Addr} {H H' : Hp} (e : LamX.ExtN H H') (t : LamX.Tabs TS H') : Gv TS st H H' := ⟨fun b o _ z h => e b o h z, fun ⟨a, b, h, r⟩ => ⟨a, b, e _ _ h lst_tbl, r⟩, fun _ => t⟩
theorem Gv.tk {TS : List (Addr × Str)} {st : Addr} {K : PySem.W.Frag} {H H' : Hp} (g : Gv TS st H H') (s : IsSt H st) : TKeep K H H' := fun a xs h => by
  obtain ⟨u, v, hs, _⟩ := s
  rcases h with (h | ⟨o, h⟩) | h
  · exact .inl (.inl (g.1 _ _ (ne_of h hs (by intro z; cases z)) tup_tbl h))
  · exact .inl (.inr ⟨o, g.1 _ _ (ne_of h hs (by intro z; cases z)) (fun ps z => by cases z) h⟩)
  · exact .inr h
theorem Gv.sqT {TS : List (Addr × Str)} {st : Addr} {K : PySem.W.Frag} {H H' : Hp} {a : Addr} {xs : List V} (g : Gv TS st H H') (s : IsSt H st) (h : SqT K H a xs) : SqT K H' a xs := g.tk s _ _ h
theorem Gv.go {TS : List (Addr × Str)} {st : Addr} {H0 H H1 H2 : Hp} (g : Gv TS st H1 H2) (o : Go TS H0 H) (s : Same H H1) (n : H st = none) : Go TS H0 H2 :=
  ⟨fun b u h z => g.1 b u (ne_of_none (o.e b u h z) n) z (s _ _ (o.e b u h z)), g.2.2 (o.t.ext s)⟩
theorem Gv.lst {TS : List (Addr × Str)} {st D : Addr} {H H' : Hp} {xs : List V} (g : Gv TS st H H') (n : D ≠ st) (h : H D = some (.lst xs)) : H' D = some (.lst xs) := g.1 _ _ n lst_tbl h

/-! ### lists that are not the table of modules; a def held in a variable, one of several -/
def tLstS (t : TA) : TE := fun σ H Q => t σ H fun xs H1 => xs.length ≤ sizeLine ∧ ∀ p, H1 p = none → p ≠ sysModules → Q (.ref p) (upd H1 p (.lst xs))
def rListS (K : PySem.W.Frag) : List V → Hp → VK → Prop := fun xs H Q => ∃ p ys, xs = [.ref p] ∧ (SqL K H p ys ∨ SqT K H p ys) ∧ ∀ l, H l = none → l ≠ sysModules → Q (.ref l) (upd H l (.lst ys))
def tCallN (X : Cx) (i : Nat) (Ex : L2.St → XK) (t : TA) : TE := fun σ H Q => ∃ f, σ[i]? = some (some (.ref f)) ∧ ∃ k x ps sp, ClX X.prog X.w X.K X.mg X.base k x ps sp ∧ Room k X.A ∧ X.mg x = some (.ref f) ∧ t σ H fun vs H1 => sp vs H1 Q (Ex σ)
section
variable {X : Cx}
theorem pe_lstS {es : List Expr} {t : TA} {pos : Pos} (h : PA X es t) : PE X (.List es pos) (tLstS t) := by
  refine ⟨fun pins s σ H Q I hq => wpAny_List_spliced (thn (h.run pos pins s σ H _ I hq) fun us s1 hx => ?_)⟩
  obtain ⟨xs, H1, I1, r, z, q⟩ := hx
  have ne : s1.heap.objs.size ≠ sysModules := Nat.ne_of_gt I1.big
  exact ⟨by rw [← r.length]; exact z, .ref s1.heap.objs.size, upd H1 s1.heap.objs.size (.lst xs), I1.laid (t' := s1.toks) (fun b u e => Heap.get?_push_of_some _ e) (Nat.le_refl _) ⟨z, us, 0, r, Heap.get?_push_size _ rfl⟩, rfl, q _ (I1.hok.fresh (Nat.le_refl _)) ne⟩
theorem pe_callN {y : Str} {W : WX} {e : Expr} {es : List Expr} {t : TA} {p pos : Pos} (i : Nat) (tk : Takes X W) (ha : PA X (e :: es) t) (hN : X.N[i]? = some y := by rfl) (hv : Vis X.env.scope y := by first | exact Or.inl rfl | exact Or.inr (Or.inl rfl) | exact Or.inr (Or.inr rfl))
    (hdb : (y == ("__debug__" : Str)) = false := by decide) (hcd : (y == ("__classdict__" : Str)) = false := by decide)
    (he : starEach (e :: es) X.env = (false, eval e X.env) :: starEach es X.env := by rfl) (hpl : (backTo pos (starEach es X.env)).any (·.1) = false := by rfl) :
    PE X (.Call (.Name y p) (e :: es) [] pos) (tCallN X i (WE W) t) := by
  refine ⟨fun pins s σ H Q I h => ?_⟩
  obtain ⟨f, hs, k, x, ps, sp, C, rm, hm, h⟩ := h
  obtain ⟨f', fd, F, hk, hb, hm'⟩ := C.ex
  have ef : f' = f := by
    rw [hm'] at hm
    injection hm with hm
    injection hm
  subst ef
  refine wpAny_Call_Name_kw (thn ((pe_var (pos := p) hN hv hdb hcd).run pins s σ H (fun v H1 => v = .ref f' ∧ H1 = H) I ⟨.ref f', hs, rfl, rfl⟩) fun u s1 hx => ?_)
  obtain ⟨v, H1, I1, rv, rfl, rfl⟩ := hx
  cases rv
  exact PySem.W.callWith_K (h₀ := X.base) I.ok.mod.kin hk (thn (ha.run pos pins s1 σ _ _ I1 h) fun us s2 hy => by
    obtain ⟨vs, H2, I2, r, q⟩ := hy
    exact ⟨I2.kIn, run_fnS F rm hb (passAt tk σ) I2 r q⟩) he hpl
end
section
variable {X : Cx}
/-- what is handed in to list(..), as it lies: of whichever of the two kinds -/
theorem lies_seq {pins : List (Addr × Obj)} {σ : L2.St} {H : Hp} {s : Shared} {p : Addr} {ys : List V} (I : Inv X pins σ H s) (h : SqL X.K H p ys ∨ SqT X.K H p ys) :
    ∃ T its o n, (T = "list" ∨ T = "tuple") ∧ s.heap.get? p = some o ∧ o.cls = .type T ∧ o.data = .seq (List.toArray its) n ∧ Vals ys its ∧ ys.length ≤ sizeLine := by
  cases h with
  | inl l =>
    obtain ⟨its, same, lies, small⟩ := I.list l
    obtain ⟨o, get, kind, n, data⟩ := lies.isList
    exact ⟨_, its, o, n, .inl rfl, get, kind, data, same, small⟩
  | inr t =>
    obtain ⟨its, same, ⟨o, get, kind, n, data⟩, small⟩ := I.tuple t
    exact ⟨_, its, o, n, .inr rfl, get, kind, data, same, small⟩
theorem call_listS : CallR X (.type "list") (rListS X.K) := by
  rintro pins s σ H _ us Q I r ⟨p, ys, rfl, h, due⟩
  obtain ⟨T, its, o, n, two, get, kind, data, same, small⟩ := lies_seq I h
  obtain ⟨_, rfl, rfl⟩ := vals1 r
  have few : its.toArray.size ≤ sizeLine := by
    rw [List.size_toArray, ← same.length]
    exact small
  refine call_list_seq p two get kind data (fun h' cap stay laid => ?_) few
  have new : ObjOk X.prog X.w (upd H s.heap.objs.size (.lst ys)) h' s.heap.objs.size (.lst ys) := ⟨small, its, cap, same, laid⟩
  exact ⟨.ref s.heap.objs.size, upd H s.heap.objs.size (.lst ys), I.laid (t' := s.toks) stay (Nat.le_refl _) new, rfl, due _ (I.hok.fresh (Nat.le_refl _)) (Nat.ne_of_gt I.big)⟩
end

/-! ### a dict is no tuple -/
open PySem.SeqAt PySem.MeetsSeq in
theorem dict_ne_declines_tuple (l b : Addr) (es : Array DictEntry) (items2 : Array Value) (n n2 : Nat) (dd dd2 : Option Addr) (sl sl2 : Array (Option Value)) :
    Meets (Builtin.«dict.__ne__» ⟨[.ref l, .ref b], []⟩) (fun _ R s => s.heap.get? l = some { cls := .type "dict", dict := dd, data := .dict es n, slots := sl } ∧ s.heap.get? b = some { cls := .type "tuple", dict := dd2, data := .seq items2 n2, slots := sl2 } ∧ R (.ok (.ret .notImplemented)) s) :=
  .of_wp fun prog w A R s h => by
    obtain ⟨hp, g, d, tk, os⟩ := s
    obtain ⟨hl, hb, h⟩ := h
    have f1 := F.sub_tuple_dict
    wp_walk using wpAny_loadPart' hl, wpAny_loadPart' hb
    exact ⟨_, rfl, h⟩
theorem tuple_ne_declines_dict (l b : Addr) (items : Array Value) (es2 : Array DictEntry) (n n2 : Nat) (dd dd2 : Option Addr) (sl sl2 : Array (Option Value)) :
    Meets (Builtin.«tuple.__ne__» ⟨[.ref l, .ref b], []⟩) (fun _ R s => s.heap.get? l = some { cls := .type "tuple", dict := dd, data := .seq items n, slots := sl } ∧ s.heap.get? b = some { cls := .type "dict", dict := dd2, data := .dict es2 n2, slots := sl2 } ∧ R (.ok (.ret .notImplemented)) s) :=
  .of_wp fun prog w A R s h => by
    obtain ⟨hp, g, d, tk, os⟩ := s
    obtain ⟨hl, hb, h⟩ := h
    have f1 := F.sub_dict_tuple
    wp_walk using wpAny_loadPart' hl, wpAny_loadPart' hb
    exact ⟨_, rfl, h⟩
open PySem.SeqAt PySem.MeetsSeq in
theorem ne_dict_tuple {A : Around} {s : Shared} {l b : Addr} {o : Obj} {es : Array DictEntry} {n : Nat} {items2 : Array Value} (ho' : s.heap.get? l = some o) (hcl : o.cls = .type "dict") (hda : o.data = .dict es n) (hb : s.heap.IsTuple b items2) (hu : A.units < cLine) : RcNeAt A s (.ref l) (.ref b) true := fun prog w E Q h => by
  obtain ⟨⟨cls2, dd2, data2, sl2⟩, ho2, hc2, n2, hd2⟩ := id hb
  obtain ⟨cls, dd, data, sl⟩ := o
  simp only at hcl hda hc2 hd2
  subst hcl hda hc2 hd2
  have hne : l ≠ b := fun e => by
    rw [e, ho2] at ho'
    have hh := congrArg Obj.cls (Option.some.inj ho')
    simp at hh
  exact (rc_ne_decline_or (k := false) ⟨_, ho', rfl⟩ ⟨_, ho2, rfl⟩ (by decide) F.sub_tuple_dict F.slot_dict_ne F.slot_tuple_ne_refl
    (fun _ hq => call_meets F.slot_dict_ne ⟨_, ho', rfl⟩ F.entry_dict_ne (F.args_dict_ne_2 _ _) (dict_ne_declines_tuple l b es items2 n n2 dd dd2 sl sl2) ⟨ho', ho2, hq⟩)
    (fun _ hq => call_meets F.slot_tuple_ne_refl ⟨_, ho2, rfl⟩ F.entry_tuple_ne (F.args_tuple_ne_2 _ _) (tuple_ne_declines_dict b l items2 es n2 n dd2 dd sl2 sl) ⟨ho2, ho', hq⟩)
    (fun _ hq => wpAny_isSame_ref_other hne ho' ho2 (by simp) hq) (.inr hu) h)
def rNeG (K : PySem.W.Frag) : R2 := fun x y H Q => rNeD K x y H Q ∨ ∃ (a b : Addr) (kvs : List (Key × V)) (ys : List V), x = .ref a ∧ y = .ref b ∧ H a = some (.dK kvs) ∧ SqT K H b ys ∧ Q (.bl true) H
theorem op_neG {X : Cx} (hu : X.A.units + 64 < cLine) : OpR X (compareOp .NotEq) (rNeG X.K) := by
  intro pins s σ H x y v u Q I rx ry h
  rcases h with h | ⟨a, b, kvs, ys, rfl, rfl, ha, hb, q⟩
  · exact op_neD hu pins s σ H x y v u Q I rx ry h
  cases rx
  cases ry
  obtain ⟨_, _, vs, kv, o, es, ep, h1, h2, h3, _⟩ := (show ObjOk X.prog X.w H s.heap a (.dK kvs) from I.hok a _ ha)
  obtain ⟨its, rv, ⟨o2, ho2, hc2, n2, hd2⟩, _⟩ := I.tuple hb
  exact ne_dict_tuple h1 h2.1 h3 ⟨o2, ho2, hc2, n2, hd2⟩ (by omega) X.prog X.w X.xe _ ⟨.bl true, H, I, rfl, q⟩

/-! ### things of whatever kind, as data -/
mutual
inductive Dg (K : PySem.W.Frag) (fx : Hp) (H : Hp) : Bool → V → PyData → Prop
  | non {b : Bool} : Dg K fx H b .non .none
  | bl {b : Bool} (x : Bool) : Dg K fx H b (.bl x) (.bool x)
  | int {b : Bool} (i : Int) : Dg K fx H b (.int i) (.int i)
  | str {b : Bool} (x : Str) : Dg K fx H b (.str x) (.str x)
  | tup {b : Bool} {a : Addr} {xs : List V} {ds : List PyData} : SqT K H a xs → DgAll K fx H b xs ds → Dg K fx H b (.ref a) (.tuple ds)
  | lst {a : Addr} {xs : List V} {ds : List PyData} : fx a = none → H a = some (.lst xs) → DgAll K fx H true xs ds → Dg K fx H true (.ref a) (.list ds)
  | lstF {a : Addr} {xs : List V} {ds : List PyData} : fx a = none → a ≠ sysModules → H a = some (.lst xs) → DgAll K fx H false xs ds → Dg K fx H false (.ref a) (.list ds)
  | dic0 {a : Addr} : fx a = none → H a = some (.dK []) → Dg K fx H false (.ref a) (.dict [])
  | dic1 {a : Addr} {k : Str} {i : Int} : fx a = none → H a = some (.dK [(Sum.inr k, .int i)]) → Dg K fx H false (.ref a) (.dict [(.str k, .int i)])
inductive DgAll (K : PySem.W.Frag) (fx : Hp) (H : Hp) : Bool → List V → List PyData → Prop
  | nil {b : Bool} : DgAll K fx H b [] []
  | cons {b : Bool} {v : V} {vs : List V} {d : PyData} {ds : List PyData} : Dg K fx H b v d → DgAll K fx H b vs ds → DgAll K fx H b (v :: vs) (d :: ds)
end
mutual
theorem Dg.kp {K : PySem.W.Frag} {fx : Hp} {H H' : Hp} (kt : TKeep K H H') (kb : ∀ b o, fx b = none → H b = some o → H' b = some o) : ∀ {b : Bool} {v : V} {d : PyData}, Dg K fx H b v d → Dg K fx H' b v d
  | _, _, _, .non => .non
  | _, _, _, .bl x => .bl x
  | _, _, _, .int i => .int i
  | _, _, _, .str x => .str x
  | _, _, _, .tup h q => .tup (kt _ _ h) (DgAll.kp kt kb q)
  | _, _, _, .lst n h q => .lst n (kb _ _ n h) (DgAll.kp kt kb q)
  | _, _, _, .lstF n m h q => .lstF n m (kb _ _ n h) (DgAll.kp kt kb q)
  | _, _, _, .dic0 n h => .dic0 n (kb _ _ n h)
  | _, _, _, .dic1 n h => .dic1 n (kb _ _ n h)
theorem DgAll.kp {K : PySem.W.Frag} {fx : Hp} {H H' : Hp} (kt : TKeep K H H') (kb : ∀ b o, fx b = none → H b = some o → H' b = some o) : ∀ {b : Bool} {v : List V} {d : List PyData}, DgAll K fx H b v d → DgAll K fx H' b v d
  | _, _, _, .nil => .nil
  | _, _, _, .cons h q => .cons (Dg.kp kt kb h) (DgAll.kp kt kb q)
end
theorem Dg.sm {K : PySem.W.Frag} {fx : Hp} {H H' : Hp} {b : Bool} {v : V} {d : PyData} (s : Same H H') (h : Dg K fx H b v d) : Dg K fx H' b v d := Dg.kp (Same.tk s) (fun a o _ e => s a o e) h
theorem Dg.gr {K : PySem.W.Frag} {fx : Hp} {st : Addr} {H H' : Hp} {b : Bool} {v : V} {d : PyData} (g : Gr st H H') (hs : IsSt H st) (hf : fx st ≠ none) (h : Dg K fx H b v d) : Dg K fx H' b v d := Dg.kp (g.tk hs) (fun b o hb e => g.1 b o (fun z => hf (by rw [← z]; exact hb)) e) h
theorem DgAll.gr {K : PySem.W.Frag} {fx : Hp} {st : Addr} {H H' : Hp} {b : Bool} {v : List V} {d : List PyData} (g : Gr st H H') (hs : IsSt H st) (hf : fx st ≠ none) (h : DgAll K fx H b v d) : DgAll K fx H' b v d := DgAll.kp (g.tk hs) (fun b o hb e => g.1 b o (fun z => hf (by rw [← z]; exact hb)) e) h
theorem Gr.free {st p : Addr} {H H' : Hp} (g : Gr st H H') (hs : IsSt H st) (np : H' p = none) : H p = none := by
  cases e : H p with
  | none => rfl
  | some o =>
    by_cases z : p = st
    · subst z
      obtain ⟨x, y, hx, _⟩ := g.2 hs
      rw [hx] at np
      cases np
    · rw [g.1 p o z e] at np
      cases np
theorem st_some {st : Addr} {H : Hp} (hs : IsSt H st) : H st ≠ none := by
  obtain ⟨x, y, hx, _⟩ := hs
  rw [hx]
  exact fun z => nomatch z
/-- a wider world knows more old places -/
theorem dg_dummy : True := trivial
theorem DgAll.sm {K : PySem.W.Frag} {fx : Hp} {H H' : Hp} {b : Bool} {v : List V} {d : List PyData} (s : Same H H') (h : DgAll K fx H b v d) : DgAll K fx H' b v d := DgAll.kp (Same.tk s) (fun a o _ e => s a o e) h
mutual
theorem Dg.wk {K : PySem.W.Frag} {fx fy H : Hp} (w : ∀ a, fx a = none → fy a = none) : ∀ {b : Bool} {v : V} {d : PyData}, Dg K fx H b v d → Dg K fy H b v d
  | _, _, _, .non => .non
  | _, _, _, .bl x => .bl x
  | _, _, _, .int i => .int i
  | _, _, _, .str x => .str x
  | _, _, _, .tup h q => .tup h (DgAll.wk w q)
  | _, _, _, .lst n h q => .lst (w _ n) h (DgAll.wk w q)
  | _, _, _, .lstF n m h q => .lstF (w _ n) m h (DgAll.wk w q)
  | _, _, _, .dic0 n h => .dic0 (w _ n) h
  | _, _, _, .dic1 n h => .dic1 (w _ n) h
theorem DgAll.wk {K : PySem.W.Frag} {fx fy H : Hp} (w : ∀ a, fx a = none → fy a = none) : ∀ {b : Bool} {v : List V} {d : List PyData}, DgAll K fx H b v d → DgAll K fy H b v d
  | _, _, _, .nil => .nil
  | _, _, _, .cons h q => .cons (Dg.wk w h) (DgAll.wk w q)
end
theorem DgAll.len {K : PySem.W.Frag} {fx : Hp} {H : Hp} : ∀ {b : Bool} {vs : List V} {ds : List PyData}, DgAll K fx H b vs ds → vs.length = ds.length
  | _, _, _, .nil => rfl
  | _, _, _, .cons _ t => by rw [List.length_cons, List.length_cons, DgAll.len t]
theorem DgAll.at {K : PySem.W.Frag} {fx : Hp} {H : Hp} : ∀ {b : Bool} {vs : List V} {ds : List PyData} {i : Nat} {v : V}, DgAll K fx H b vs ds → vs[i]? = some v → ∃ d, ds[i]? = some d ∧ Dg K fx H b v d
  | _, _, _, i, v, .nil, h => by simp at h
  | _, _, _, 0, v, .cons a t, h => by
    have e : _ = v := Option.some.inj h
    subst e
    exact ⟨_, rfl, a⟩
  | _, _, _, i + 1, v, .cons a t, h => DgAll.at (i := i) t h
theorem DgAll.app {K : PySem.W.Frag} {fx : Hp} {H : Hp} {b : Bool} {ws : List V} {es : List PyData} (q : DgAll K fx H b ws es) : ∀ {vs : List V} {ds : List PyData}, DgAll K fx H b vs ds → DgAll K fx H b (vs ++ ws) (ds ++ es)
  | _, _, .nil => q
  | _, _, .cons a t => .cons a (DgAll.app q t)
theorem DgAll.tk {K : PySem.W.Frag} {fx : Hp} {H : Hp} {b : Bool} : ∀ (n : Nat) {vs : List V} {ds : List PyData}, DgAll K fx H b vs ds → DgAll K fx H b (vs.take n) (ds.take n)
  | 0, _, _, _ => .nil
  | _ + 1, _, _, .nil => .nil
  | n + 1, _, _, .cons a t => .cons a (DgAll.tk n t)
theorem DgAll.dr {K : PySem.W.Frag} {fx : Hp} {H : Hp} {b : Bool} : ∀ (n : Nat) {vs : List V} {ds : List PyData}, DgAll K fx H b vs ds → DgAll K fx H b (vs.drop n) (ds.drop n)
  | 0, _, _, q => q
  | _ + 1, _, _, .nil => .nil
  | n + 1, _, _, .cons _ t => DgAll.dr n t
/-! kinds -/
def tyn : PyData → String
  | .none => "NoneType"
  | .bool _ => "bool"
  | .int _ => "int"
  | .str _ => "str"
  | .list _ => "list"
  | .tuple _ => "tuple"
  | .dict _ => "dict"
def isB : PyData → Bool
  | .bool _ => true
  | _ => false
def isI : PyData → Bool
  | .bool _ => true
  | .int _ => true
  | _ => false
def isT : PyData → Bool
  | .tuple _ => true
  | _ => false
theorem Dg.ty {K : PySem.W.Frag} {fx : Hp} {H : Hp} {b : Bool} {v : V} {d : PyData} (h : Dg K fx H b v d) : TyX K H v (.type (tyn d)) := by
  cases h with
  | non => exact .base .non
  | bl x => exact .base (.bl x)
  | int i => exact .base (.int i)
  | str x => exact .base (.str x)
  | tup h q => exact tyT h
  | lst n h q => exact .base (.lst h)
  | lstF n m h q => exact .base (.lst h)
  | dic0 n h => exact .base (.dK h)
  | dic1 n h => exact .base (.dK h)
theorem kB (d : PyData) : kitB (tyn d) "bool" = some (isB d) := by cases d <;> simp only [tyn, isB] <;> decide +kernel
theorem kI (d : PyData) : kitB (tyn d) "int" = some (isI d) := by cases d <;> simp only [tyn, isI] <;> decide +kernel
theorem kT (d : PyData) : kitB (tyn d) "tuple" = some (isT d) := by cases d <;> simp only [tyn, isT] <;> decide +kernel
def isW (d : PyData) (l m : Int) : Bool := match d with
  | .int n => decide (l ≤ n ∧ n ≤ m)
  | _ => false
def isTup (d : PyData) (l m : Int) : Bool := match d with
  | .tuple ds => decide (l ≤ (ds.length : Int) ∧ (ds.length : Int) ≤ m)
  | _ => false
def isRowD (d : PyData) : Bool := match d with
  | .tuple [a, b] => isW a 0 9 && isW b 1 24
  | _ => false
def bkOk (b : PyData) (n : Int) : Bool := match b with
  | .none => true
  | b => isW b 0 n
def isLayD (d : PyData) : Bool := match d with
  | .tuple [.tuple rs, b] => decide (rs.length ≤ 8) && rs.all isRowD && bkOk b ((rs.length : Int) - 1)
  | _ => false
def isSpotD (x y : PyData) : Bool := isW x (-20) 20 && isW y (-20) 20
def isMoveD (d : PyData) : Bool := match d with
  | .tuple [x, y, n] => isSpotD x y && isW n 0 24
  | _ => false
def isWinD (d : PyData) : Bool := match d with
  | .tuple [x, y, .tuple ms] => isSpotD x y && decide (ms.length ≤ 8) && ms.all isMoveD
  | _ => false
def isShD (d : PyData) : Bool := match d with
  | .tuple [.tuple ls, w] => decide (1 ≤ ls.length ∧ ls.length ≤ 4) && ls.all isLayD && isWinD w
  | _ => false
theorem three_of {α : Type} {xs : List α} (h : xs.length = 3) : ∃ a b c, xs = [a, b, c] := by
  match xs, h with
  | [a, b, c], _ => exact ⟨a, b, c, rfl⟩
theorem mv_no {d : PyData} (h : isTup d 3 3 = false) : isMoveD d = false := by
  unfold isMoveD
  split
  · simp [isTup] at h
  · rfl
theorem win_no {d : PyData} (h : isTup d 3 3 = false) : isWinD d = false := by
  unfold isWinD
  split
  · simp [isTup] at h
  · rfl
theorem win_no2 {x y m : PyData} (h : isTup m 0 8 = false) : isWinD (.tuple [x, y, m]) = false := by
  cases m with
  | tuple ms =>
    have h' : decide ((0 : Int) ≤ (ms.length : Int) ∧ (ms.length : Int) ≤ 8) = false := h
    have : ¬ ms.length ≤ 8 := fun z => by
      rw [decide_eq_true (show (0 : Int) ≤ (ms.length : Int) ∧ (ms.length : Int) ≤ 8 from ⟨by omega, by omega⟩)] at h'
      cases h'
    show (isSpotD x y && decide (ms.length ≤ 8) && ms.all isMoveD) = false
    rw [decide_eq_false this, Bool.and_false]
    rfl
  | _ => rfl
theorem win_eq {x y : PyData} {ms : List PyData} (h : ms.length ≤ 8) : isWinD (.tuple [x, y, .tuple ms]) = (isSpotD x y && ms.all isMoveD) := by
  show (isSpotD x y && decide (ms.length ≤ 8) && ms.all isMoveD) = _
  rw [decide_eq_true h, Bool.and_true]
theorem sh_no {d : PyData} (h : isTup d 2 2 = false) : isShD d = false := by
  unfold isShD
  split
  · simp [isTup] at h
  · rfl
theorem sh_no2 {l w : PyData} (h : isTup l 1 4 = false) : isShD (.tuple [l, w]) = false := by
  cases l with
  | tuple ls =>
    have h' : decide ((1 : Int) ≤ (ls.length : Int) ∧ (ls.length : Int) ≤ 4) = false := h
    have : ¬ (1 ≤ ls.length ∧ ls.length ≤ 4) := fun z => by
      rw [decide_eq_true (show (1 : Int) ≤ (ls.length : Int) ∧ (ls.length : Int) ≤ 4 from ⟨by omega, by omega⟩)] at h'
      cases h'
    show (decide (1 ≤ ls.length ∧ ls.length ≤ 4) && ls.all isLayD && isWinD w) = false
    rw [decide_eq_false this]
    rfl
  | _ => rfl
theorem sh_eq {ls : List PyData} {w : PyData} (h : 1 ≤ ls.length ∧ ls.length ≤ 4) : isShD (.tuple [.tuple ls, w]) = (ls.all isLayD && isWinD w) := by
  show (decide (1 ≤ ls.length ∧ ls.length ≤ 4) && ls.all isLayD && isWinD w) = _
  rw [decide_eq_true h, Bool.true_and]
/-! ### repr of things of whatever kind -/
section
variable {X : Cx} {pins : List (Addr × Obj)} {σ : L2.St} {H : Hp} {s : Shared}
theorem dic_reads (I : Inv X pins σ H s) {a : Addr} {kvs : List (Key × V)} (h : H a = some (.dK kvs)) : a ≠ sysModules ∧ ∃ o es ep vs, s.heap.get? a = some o ∧ o.cls = .type "dict" ∧ o.data = .dict es ep ∧ KV kvs vs ∧ Pairs (mixKind X.prog X.w) es.toList vs := by
  obtain ⟨_, hn, vs, kv, o, es, ep, h1, h2, h3, _, h5, _⟩ := (show ObjOk X.prog X.w H s.heap a (.dK kvs) from I.hok a _ h)
  exact ⟨fun e => by rw [e] at hn; simp at hn, o, es, ep, vs, h1, h2.1, h3, kv, h5⟩
mutual
theorem Dg.reads (I : Inv X pins σ H s) {fx : Hp} : ∀ {b : Bool} {v : V} {d : PyData} {u : Value}, Dg X.K fx H b v d → RelV v u → ∃ as, Reads s.heap u d as ∧ (b = true → d.hasDict = false) ∧ (b = false → sysModules ∉ as)
  | _, _, _, _, .non, r => by
    cases r
    exact ⟨_, Reads.none, fun _ => rfl, fun _ h => nomatch h⟩
  | _, _, _, _, .bl x, r => by
    cases r
    exact ⟨_, Reads.bool x, fun _ => rfl, fun _ h => nomatch h⟩
  | _, _, _, _, .int i, r => by
    obtain ⟨t, rfl⟩ := r
    exact ⟨_, Reads.int i t, fun _ => rfl, fun _ h => nomatch h⟩
  | _, _, _, _, .str x, r => by
    obtain ⟨t, rfl⟩ := r
    exact ⟨_, Reads.str x t, fun _ => rfl, fun _ h => nomatch h⟩
  | _, _, _, _, .tup h q, r => by
    cases r
    obtain ⟨its, rv, ⟨o, ho, hc, n, hd⟩, _⟩ := I.tuple h
    obtain ⟨as, hr, h1, h2⟩ := DgAll.reads I q rv
    exact ⟨_, Reads.tuple ho hc hd hr, h1, h2⟩
  | _, _, _, _, .lst _ h q, r => by
    cases r
    obtain ⟨its, rv, ⟨o, n, ho, hc, _, hd⟩, _⟩ := I.list (.inl (.inl h))
    obtain ⟨as, hr, h1, h2⟩ := DgAll.reads I q rv
    exact ⟨_, Reads.list ho hc hd hr, h1, fun z => nomatch z⟩
  | _, _, _, _, .lstF (a := a) _ m h q, r => by
    cases r
    obtain ⟨its, rv, ⟨o, n, ho, hc, _, hd⟩, _⟩ := I.list (.inl (.inl h))
    obtain ⟨as, hr, h1, h2⟩ := DgAll.reads I q rv
    exact ⟨_, Reads.list ho hc hd hr, h1, fun z hm => by
      rcases List.mem_cons.mp hm with e | e
      · exact m e.symm
      · exact h2 z e⟩
  | _, _, _, _, .dic0 (a := a) _ h, r => by
    cases r
    obtain ⟨hn, o, es, ep, vs, h1, h2, h3, kv, pr⟩ := dic_reads I h
    cases kv
    have e0 : es.toList = [] := by
      cases h' : es.toList with
      | nil => rfl
      | cons x r =>
        rw [h'] at pr
        cases pr
    refine ⟨a :: [] ++ [], Reads.dict h1 h2 h3 ?_ ?_, fun z => (Bool.false_ne_true z).elim, fun _ hm => hn ?_⟩
    · rw [e0]
      exact .nil
    · rw [e0]
      exact .nil
    · exact (List.mem_singleton.mp (by simpa using hm)).symm
  | _, _, _, _, .dic1 (a := a) (k := k) (i := i) _ h, r => by
    cases r
    obtain ⟨hn, o, es, ep, vs, h1, h2, h3, kv, pr⟩ := dic_reads I h
    obtain ⟨u, t, rfl, e1, e2⟩ : ∃ (u : Value) (t : Tok), vs = [(Sum.inr k, u)] ∧ u = .int i t ∧ True := by
      cases kv with
      | cons hh tt =>
        cases tt
        rename_i q
        obtain ⟨q1, q2⟩ := q
        obtain ⟨f1, t, f2⟩ := hh
        dsimp only at f1 f2
        subst f1 f2
        exact ⟨_, t, rfl, rfl, trivial⟩
    subst e1
    obtain ⟨e, hee, hk, hv⟩ : ∃ e : DictEntry, es.toList = [e] ∧ keyIs (Sum.inr k) e.key = true ∧ e.val = .int i t := by
      cases h' : es.toList with
      | nil =>
        rw [h'] at pr
        cases pr
      | cons x r =>
        rw [h'] at pr
        cases pr with
        | cons p1 p2 p3 =>
          cases p3
          exact ⟨x, rfl, p1, p2⟩
    obtain ⟨tk, hkk⟩ := keyIs_rel hk
    refine ⟨a :: ([] ++ []) ++ ([] ++ []), Reads.dict h1 h2 h3 ?_ ?_, fun z => (Bool.false_ne_true z).elim, fun _ hm => hn ?_⟩
    · rw [hee]
      show ReadsAll _ [e.key] [.str k] _
      rw [hkk]
      exact .cons (.str k tk) .nil
    · rw [hee]
      show ReadsAll _ [e.val] [.int i] _
      rw [hv]
      exact .cons (.int i t) .nil
    · exact (List.mem_singleton.mp (by simpa using hm)).symm
theorem DgAll.reads (I : Inv X pins σ H s) {fx : Hp} : ∀ {b : Bool} {vs : List V} {ds : List PyData} {us : List Value}, DgAll X.K fx H b vs ds → Vals vs us → ∃ as, ReadsAll s.heap us ds as ∧ (b = true → PyData.hasDictAll ds = false) ∧ (b = false → sysModules ∉ as)
  | _, _, _, _, .nil, r => by
    cases r
    exact ⟨_, ReadsAll.nil, fun _ => rfl, fun _ h => nomatch h⟩
  | _, _, _, _, .cons h q, r => by
    cases r with
    | cons r1 r2 =>
      obtain ⟨as, a1, a2, a3⟩ := Dg.reads I h r1
      obtain ⟨bs, b1, b2, b3⟩ := DgAll.reads I q r2
      refine ⟨_, ReadsAll.cons a1 b1, fun z => ?_, fun z hm => ?_⟩
      · show (_ || _) = false
        rw [a2 z, b2 z]
        rfl
      · rcases List.mem_append.mp hm with m | m
        · exact a3 z m
        · exact b3 z m
end
end
structure RQ (k w : Nat) (d : PyData) : Prop where
  sh : d.showable = true
  dp : d.depth ≤ k
  lv : d.leavesShort 40 = true
  wt : d.weight ≤ w
theorem RQ.fits {k w : Nat} {d : PyData} (h : RQ k w d) (hw : w ≤ 300000) : d.shown.length ≤ sizeLine := by
  have := PyData.shown_le 40 (by decide) d h.lv
  have := h.wt
  have e : sizeLine = 16777216 := by decide
  omega
theorem RQ.more {k w k' w' : Nat} {d : PyData} (h : RQ k w d) (h1 : k ≤ k') (h2 : w ≤ w') : RQ k' w' d := ⟨h.sh, Nat.le_trans h.dp h1, h.lv, Nat.le_trans h.wt h2⟩
theorem RQ.non : RQ 0 100 .none := ⟨rfl, Nat.le_refl _, rfl, Nat.zero_le _⟩
theorem RQ.bl (b : Bool) : RQ 0 100 (.bool b) := ⟨rfl, Nat.le_refl _, rfl, Nat.zero_le _⟩
theorem RQ.int {i : Int} (h : i.natAbs < 10 ^ 30) : RQ 0 100 (.int i) := by
  have hl : i.natAbs.log2 < 100 := by
    rcases Nat.eq_zero_or_pos i.natAbs with e | e
    · rw [e]
      decide
    · exact (Nat.log2_lt (by omega)).mpr (Nat.lt_trans h (by decide))
  refine ⟨decide_eq_true (by omega), Nat.le_refl _, decide_eq_true ?_, ?_⟩
  · show (Str.ofString (toString i)).length ≤ 40
    have := int_text_length_le10 (a := i) (k := 30) (by decide) h
    rw [show (Str.ofString (toString i)).length = (toString i).length from PyProof.Rows.ofString_len _]
    omega
  · show (if i == 0 then 0 else i.natAbs.log2 + 1) ≤ 100
    split <;> omega
theorem rq_all {k w : Nat} : ∀ {ds : List PyData}, (∀ e ∈ ds, RQ k w e) → PyData.showableAll ds = true ∧ PyData.depthAll ds ≤ k ∧ PyData.leavesShortAll 40 ds = true ∧ PyData.weightAll ds ≤ ds.length * (w + 1)
  | [], _ => ⟨rfl, Nat.zero_le _, rfl, Nat.zero_le _⟩
  | d :: t, h => by
    obtain ⟨a, c, e, f⟩ := rq_all (ds := t) fun x hx => h x (List.mem_cons_of_mem _ hx)
    have h1 := h d (List.mem_cons_self ..)
    refine ⟨?_, ?_, ?_, ?_⟩
    · show (d.showable && PyData.showableAll t) = true
      rw [h1.sh, a]
      rfl
    · show max d.depth (PyData.depthAll t) ≤ k
      exact Nat.max_le.mpr ⟨h1.dp, c⟩
    · show (d.leavesShort 40 && PyData.leavesShortAll 40 t) = true
      rw [h1.lv, e]
      rfl
    · show d.weight + 1 + PyData.weightAll t ≤ (t.length + 1) * (w + 1)
      have := h1.wt
      rw [Nat.add_mul, Nat.one_mul]
      omega
theorem RQ.tup {k w n : Nat} {ds : List PyData} (h : ∀ e ∈ ds, RQ k w e) (hn : ds.length * (w + 1) ≤ n) : RQ (k + 1) n (.tuple ds) := by
  obtain ⟨a, c, e, f⟩ := rq_all h
  exact ⟨a, Nat.succ_le_succ c, e, Nat.le_trans f hn⟩
theorem RQ.lst {k w n : Nat} {ds : List PyData} (h : ∀ e ∈ ds, RQ k w e) (hn : ds.length * (w + 1) ≤ n) : RQ (k + 1) n (.list ds) := by
  obtain ⟨a, c, e, f⟩ := rq_all h
  exact ⟨a, Nat.succ_le_succ c, e, Nat.le_trans f hn⟩
def rReprG (K : PySem.W.Frag) : List V → Hp → VK → Prop := fun xs H Q => ∃ (fx : Hp) (b : Bool) (v : V) (d : PyData) (S : Str), xs = [v] ∧ Dg K fx H b v d ∧ d.showable = true ∧ d.depth ≤ 30 ∧ d.shown.length ≤ sizeLine ∧ d.shown = S ∧ Q (.str S) H
theorem call_reprG {X : Cx} (hg : X.A.guards = some []) (hu : X.A.units + 64 < cLine) : CallR X (.builtin "repr") (rReprG X.K) := by
  intro pins s σ H xs us Q I r h
  obtain ⟨fx, b, v, d, S, rfl, hd, hs, hdep, hsz, hS, q⟩ := h
  subst hS
  obtain ⟨u, rfl, rx⟩ := vals1 r
  have big : ∀ a, v = .ref a → wpAny (model X.prog X.w) X.A (call (.builtin "repr") [u]) (EP X pins σ Q) X.xe s := by
    rintro a rfl
    cases (show u = Value.ref a from rx)
    obtain ⟨as, rd, h1, h2⟩ := Dg.reads I hd rfl
    refine repr_of_reads' rd hs (fun z hm => ?_) hg (by omega) (fun _ _ e => e) (fun h' u tk hk => ?_) hsz
    · cases b with
      | true =>
        rw [h1 rfl] at z
        cases z
      | false => exact h2 rfl hm
    · exact ⟨.str d.shown, H, I.kept hk, ⟨_, rfl⟩, q⟩
  cases hd with
  | non =>
    cases (show u = Value.none from rx)
    exact P.repr_of_none ⟨.str _, H, I.tok _, ⟨_, rfl⟩, q⟩
  | bl x =>
    cases (show u = Value.bool x from rx)
    refine P.repr_of_bool ⟨.str _, H, I.tok _, ⟨_, rfl⟩, ?_⟩
    cases x <;> exact q
  | int i =>
    obtain ⟨t, rfl⟩ := (show ∃ t, u = Value.int i t from rx)
    exact P.repr_of_int (of_decide_eq_true hs) ⟨.str _, H, I.tok _, ⟨_, rfl⟩, q⟩
  | str x =>
    obtain ⟨t, rfl⟩ := (show ∃ t, u = Value.str x t from rx)
    exact P.repr_of_str ⟨.str _, H, I.tok _, ⟨_, rfl⟩, q⟩ hsz
  | tup h q' => exact big _ rfl
  | lst n h q' => exact big _ rfl
  | lstF n m h q' => exact big _ rfl
  | dic0 n h => exact big _ rfl
  | dic1 n h => exact big _ rfl
/-! ### a tuple times nought, times one -/
theorem mul_one_meets (l : Addr) (items : Array Value) (n : Nat) (dd : Option Addr) (sl : Array (Option Value)) (u : Tok) :
    Meets (Builtin.«tuple.__mul__» ⟨[.ref l, .int 1 u], []⟩)
      (fun _ R s => s.heap.get? l = some { cls := .type "tuple", dict := dd, data := .seq items n, slots := sl } ∧ R (.ok (.ret (Value.ref l))) s) :=
  .of_wp fun prog w A R s h => by
    obtain ⟨hp, g, d, tk, os⟩ := s
    obtain ⟨hl, h⟩ := h
    have f1 := AutoSeq1.idx_int
    have c1 : (items.isEmpty || (1 : Int) == 1) = true := by simp
    wp_walk using wpAny_loadPart' hl
    repeat (first
      | (refine wpAny_ite_false (decide_eq_false (by decide)) ?_; wp_walk using wpAny_loadPart' hl)
      | (refine wpAny_ite_true (decide_eq_true c1) ?_; wp_walk using wpAny_loadPart' hl))
    exact ⟨_, rfl, h⟩
theorem mul_none_meets (l : Addr) (items : Array Value) (n : Nat) (dd : Option Addr) (sl : Array (Option Value)) (u : Tok) (hi : items.isEmpty = false) :
    Meets (Builtin.«tuple.__mul__» ⟨[.ref l, .int 0 u], []⟩)
      (fun _ R s => s.heap.get? l = some { cls := .type "tuple", dict := dd, data := .seq items n, slots := sl } ∧
        R (.ok (.ret (Value.ref s.heap.objs.size))) { s with heap := s.heap.push { cls := Value.type "tuple", data := Data.seq #[] }, toks := s.toks }) :=
  .of_wp fun prog w A R s h => by
    obtain ⟨hp, g, d, tk, os⟩ := s
    obtain ⟨hl, h⟩ := h
    have f1 := AutoSeq1.idx_int
    have c1 : ¬ (items.isEmpty || (0 : Int) == 1) = true := by rw [hi]; decide
    have c2 : (decide ((0 : Int) ≤ 0) || items.isEmpty) = true := by simp
    wp_walk using wpAny_loadPart' hl
    repeat (first
      | (refine wpAny_ite_false (decide_eq_false (by decide)) ?_; wp_walk using wpAny_loadPart' hl)
      | (refine wpAny_ite_false (decide_eq_false c1) ?_; wp_walk using wpAny_loadPart' hl)
      | (refine wpAny_ite_true (decide_eq_true c2) ?_; wp_walk using wpAny_loadPart' hl))
    exact ⟨_, rfl, h⟩
def rRepA (K : PySem.W.Frag) : R2 := fun x y H Q => ∃ l k xs, x = .ref l ∧ y = .int k ∧ SqT K H l xs ∧ xs ≠ [] ∧ xs.length ≤ 1000 ∧ 0 ≤ k ∧ k ≤ 1000 ∧ ∀ H' p, Same H H' → SqT K H' p (List.replicate k.toNat xs).flatten → Q (.ref p) H'
theorem op_repA {X : Cx} : OpR X (binaryOp .Mult) (rRepA X.K) := by
  intro pins s σ H x y v u Q I rx ry h
  obtain ⟨l, k, xs, rfl, rfl, hT, hne, hz, h0, h1, q⟩ := h
  by_cases h2 : 2 ≤ k
  · exact op_repT pins s σ H _ _ v u Q I rx ry ⟨l, k, xs, rfl, rfl, hT, hne, h2, h1, hz, fun p np => q _ p (same_upd np) (.inl (.inl upd_same))⟩
  · cases rx
    obtain ⟨t, rfl⟩ := ry
    obtain ⟨its, r, ⟨⟨cls, dd, data, sl⟩, ho, hc, n, hd⟩, hs⟩ := I.tuple hT
    simp only at hc hd
    subst hc hd
    rcases (by omega : k = 0 ∨ k = 1) with rfl | rfl
    · have hi : its.toArray.isEmpty = false := by
        cases its with
        | nil =>
          cases r
          exact absurd rfl hne
        | cons a b => rfl
      refine wpAny_binaryOp_repeat_ref (T := "tuple") (U := "int") (by decide) ⟨_, ho, rfl⟩ (fun s' => typeIs_int s' 0 t) noFill_tuple_mul
        F.fills_int_mul F.slot_int_rmul repeat_tuple F.slot_int_index.lookup (call_meets F.slot_int_rmul (typeIs_int s 0 t) F.entry_int_rmul (F.args_int_rmul_2 _ _)
          (int_rmul_tuple 0 t l its.toArray n dd sl) ⟨ho, rfl, ⟨_, ho, rfl⟩, call_meets F.slot_tuple_mul ⟨_, ho, rfl⟩ F.entry_tuple_mul (F.args_tuple_mul_2 _ _) (mul_none_meets l its.toArray n dd sl t hi) ⟨ho, ?_⟩⟩)
      have np := I.hok.fresh (Nat.le_refl s.heap.objs.size)
      refine ⟨.ref s.heap.objs.size, _, I.laid (t' := s.toks) (o := .tup []) (fun b ob e => Heap.get?_push_of_some _ e) (Nat.le_refl _) ?_, rfl, q _ _ (same_upd np) (.inl (.inl upd_same))⟩
      exact ⟨Nat.zero_le _, [], .nil, IsTup.new _ _⟩
    · refine wpAny_binaryOp_repeat_ref (T := "tuple") (U := "int") (by decide) ⟨_, ho, rfl⟩ (fun s' => typeIs_int s' 1 t) noFill_tuple_mul
        F.fills_int_mul F.slot_int_rmul repeat_tuple F.slot_int_index.lookup (call_meets F.slot_int_rmul (typeIs_int s 1 t) F.entry_int_rmul (F.args_int_rmul_2 _ _)
          (int_rmul_tuple 1 t l its.toArray n dd sl) ⟨ho, rfl, ⟨_, ho, rfl⟩, call_meets F.slot_tuple_mul ⟨_, ho, rfl⟩ F.entry_tuple_mul (F.args_tuple_mul_2 _ _) (mul_one_meets l its.toArray n dd sl t) ⟨ho, ?_⟩⟩)
      refine ⟨.ref l, H, I, rfl, q _ _ (Same.refl _) ?_⟩
      show SqT X.K H l (List.replicate 1 xs).flatten
      rw [show (List.replicate 1 xs).flatten = xs by simp]
      exact hT
theorem mkT {K : PySem.W.Frag} {fx : Hp} {p : Addr} {H : Hp} {b : Bool} {vs : List V} {ds : List PyData} (np : H p = none) (h : DgAll K fx H b vs ds) : Dg K fx (upd H p (.tup vs)) b (.ref p) (.tuple ds) := .tup (.inl (.inl upd_same)) (h.sm (same_upd np))
theorem mkL {K : PySem.W.Frag} {fx : Hp} {p : Addr} {H : Hp} {vs : List V} {ds : List PyData} (hf : fx p = none) (np : H p = none) (h : DgAll K fx H true vs ds) : Dg K fx (upd H p (.lst vs)) true (.ref p) (.list ds) := .lst hf upd_same (h.sm (same_upd np))
theorem RowAt.dg {K : PySem.W.Frag} {fx : Hp} {H : Hp} {b : Bool} {v : V} {r : RW} : RowAt K H v r → Dg K fx H b v (rwD r) := by
  rintro ⟨p, rfl, h⟩
  exact .tup h (.cons (.int _) (.cons (.int _) .nil))
theorem rows_dg {K : PySem.W.Frag} {fx : Hp} {H : Hp} {b : Bool} : ∀ {vs : List V} {rs : List RW}, Paired (RowAt K H) vs rs → DgAll K fx H b vs (rs.map rwD)
  | _, _, .nil => .nil
  | _, _, .cons r t => .cons r.dg (rows_dg t)
theorem bk_dg {K : PySem.W.Frag} {fx : Hp} {H : Hp} {b : Bool} (o : Option Int) : Dg K fx H b (bkV o) (bkD o) := by
  cases o with
  | none => exact .non
  | some i => exact .int i
theorem rq_row {r : RW} (h : VRow r) : RQ 2 1000 (rwD r) := by
  obtain ⟨h1, h2, h3, h4⟩ := h
  refine (RQ.tup (k := 0) (w := 100) (n := 202) (fun e he => ?_) (by show 2 * 101 ≤ 202; decide)).more (by decide) (by decide)
  have : e = .int r.1 ∨ e = .int r.2 := by simpa using he
  rcases this with rfl | rfl <;> exact RQ.int (Nat.lt_of_le_of_lt (show _ ≤ 100 by omega) (by decide))
theorem rq_bk {rs : List RW} {bk : Option Int} (v8 : rs.length ≤ 8) (h : VBack rs bk) : RQ 0 100 (bkD bk) := by
  cases bk with
  | none => exact RQ.non
  | some i =>
    have := h i rfl
    exact RQ.int (Nat.lt_of_le_of_lt (show _ ≤ 100 by omega) (by decide))
theorem rq_small {i : Int} (h : -1000 ≤ i ∧ i ≤ 1000) : RQ 0 100 (.int i) := RQ.int (Nat.lt_of_le_of_lt (show _ ≤ 1000 by omega) (by decide))
/-- what is told of rows and a back -/
theorem rq_top {ds : List PyData} {e : PyData} (h : ∀ x ∈ ds, RQ 2 1000 x) (hl : ds.length ≤ 10) (he : RQ 0 100 e) : RQ 5 40000 (.tuple [.tuple ds, e]) := by
  refine (RQ.tup (k := 3) (w := 10010) (n := 40000) (fun x hx => ?_) (by show 2 * 10011 ≤ 40000; decide)).more (by decide) (by decide)
  have : x = .tuple ds ∨ x = e := by simpa using hx
  rcases this with rfl | rfl
  · exact RQ.tup (k := 2) (w := 1000) h (by omega)
  · exact he.more (by decide) (by decide)
theorem MoveAt.dg {K : PySem.W.Frag} {fx : Hp} {H : Hp} {b : Bool} {v : V} {m : MV} : MoveAt K H v m → Dg K fx H b v (mvD m) := by
  rintro ⟨p, rfl, h⟩
  exact .tup h (.cons (.int _) (.cons (.int _) (.cons (.int _) .nil)))
theorem moves_dg {K : PySem.W.Frag} {fx : Hp} {H : Hp} {b : Bool} : ∀ {vs : List V} {ms : List MV}, Paired (MoveAt K H) vs ms → DgAll K fx H b vs (ms.map mvD)
  | _, _, .nil => .nil
  | _, _, .cons r t => .cons r.dg (moves_dg t)
theorem WinAt.dg {K : PySem.W.Frag} {fx : Hp} {H : Hp} {b : Bool} {v : V} {x y : Int} {ms : List MV} : WinAt K H v x y ms → Dg K fx H b v (winD x y ms) := by
  rintro ⟨p, mv, rfl, h, pm, vs, rfl, hq, pd⟩
  exact .tup h (.cons (.int _) (.cons (.int _) (.cons (.tup hq (moves_dg pd)) .nil)))
theorem LyAt.dg {K : PySem.W.Frag} {fx : Hp} {H : Hp} {b : Bool} {v : V} {l : LY} : LyAt K H v l → Dg K fx H b v (lyD l) := by
  rintro ⟨p, rv, rfl, h, pr, vs, rfl, hq, pd⟩
  exact .tup h (.cons (.tup hq (rows_dg pd)) (.cons (bk_dg _) .nil))
theorem lays_dg {K : PySem.W.Frag} {fx : Hp} {H : Hp} {b : Bool} : ∀ {vs : List V} {ls : List LY}, Paired (LyAt K H) vs ls → DgAll K fx H b vs (ls.map lyD)
  | _, _, .nil => .nil
  | _, _, .cons r t => .cons r.dg (lays_dg t)
theorem rq_mv {m : MV} (h : VMove m) : RQ 2 1000 (mvD m) := by
  obtain ⟨h1, h2, h3, h4⟩ := h
  refine (RQ.tup (k := 0) (w := 100) (n := 303) (fun e he => ?_) (by show 3 * 101 ≤ 303; decide)).more (by decide) (by decide)
  have : e = .int m.1 ∨ e = .int m.2.1 ∨ e = .int m.2.2 := by simpa using he
  rcases this with rfl | rfl | rfl <;> exact rq_small ⟨by omega, by omega⟩
theorem rq_ly {l : LY} (h : VLy l) : RQ 4 19000 (lyD l) := by
  obtain ⟨⟨h8, hr⟩, hb⟩ := h
  refine (RQ.tup (k := 3) (w := 9000) (n := 19000) (fun x hx => ?_) (by show 2 * 9001 ≤ 19000; decide)).more (by decide) (by decide)
  have : x = .tuple (l.1.map rwD) ∨ x = bkD l.2 := by simpa using hx
  rcases this with rfl | rfl
  · refine (RQ.tup (k := 2) (w := 1000) (n := 9000) (fun x hx => ?_) ?_)
    · obtain ⟨r, hm, rfl⟩ := List.mem_map.mp hx
      exact rq_row (hr r hm)
    · rw [List.length_map]
      omega
  · exact (rq_bk h8 hb).more (by decide) (by decide)
/-- three of a window, the last the moves -/
theorem rq_win {ds : List PyData} {e f : PyData} (h : ∀ x ∈ ds, RQ 2 1000 x) (hl : ds.length ≤ 10) (he : RQ 2 1000 e) (hf : RQ 2 1000 f) : RQ 5 40000 (.tuple [e, f, .tuple ds]) := by
  refine (RQ.tup (k := 3) (w := 10010) (n := 40000) (fun x hx => ?_) (by show 3 * 10011 ≤ 40000; decide)).more (by decide) (by decide)
  have : x = e ∨ x = f ∨ x = .tuple ds := by simpa using hx
  rcases this with rfl | rfl | rfl
  · exact he.more (by decide) (by decide)
  · exact hf.more (by decide) (by decide)
  · exact RQ.tup (k := 2) (w := 1000) h (by omega)
theorem lay_true {l : LY} (h : VLy l) : isLayD (lyD l) = true := by
  obtain ⟨⟨h8, hr⟩, hb⟩ := h
  show (decide ((l.1.map rwD).length ≤ 8) && (l.1.map rwD).all isRowD && bkOk (bkD l.2) (((l.1.map rwD).length : Int) - 1)) = true
  rw [List.length_map, decide_eq_true h8, Bool.true_and, Bool.and_eq_true]
  constructor
  · rw [List.all_eq_true]
    intro x hx
    obtain ⟨r, hm, rfl⟩ := List.mem_map.mp hx
    obtain ⟨h1, h2, h3, h4⟩ := hr r hm
    show (decide (0 ≤ r.1 ∧ r.1 ≤ 9) && decide (1 ≤ r.2 ∧ r.2 ≤ 24)) = true
    rw [decide_eq_true ⟨h1, h2⟩, decide_eq_true ⟨h3, h4⟩]
    rfl
  · cases e : l.2 with
    | none => rfl
    | some i =>
      have := hb i e
      show decide (0 ≤ i ∧ i ≤ (l.1.length : Int) - 1) = true
      exact decide_eq_true ⟨by omega, by omega⟩
theorem win_true {x y : Int} {ms : List MV} (h : VWin x y ms) : isWinD (winD x y ms) = true := by
  obtain ⟨hx, hy, h8, hm⟩ := h
  show (isSpotD (.int x) (.int y) && decide ((ms.map mvD).length ≤ 8) && (ms.map mvD).all isMoveD) = true
  rw [List.length_map, decide_eq_true h8]
  have e1 : isSpotD (.int x) (.int y) = true := by
    show (decide (-20 ≤ x ∧ x ≤ 20) && decide (-20 ≤ y ∧ y ≤ 20)) = true
    rw [decide_eq_true hx, decide_eq_true hy]
    rfl
  rw [e1, Bool.true_and, Bool.true_and, List.all_eq_true]
  intro d hd
  obtain ⟨m, hmm, rfl⟩ := List.mem_map.mp hd
  obtain ⟨h1, h2, h3, h4⟩ := hm m hmm
  show ((decide (-20 ≤ m.1 ∧ m.1 ≤ 20) && decide (-20 ≤ m.2.1 ∧ m.2.1 ≤ 20)) && decide (0 ≤ m.2.2 ∧ m.2.2 ≤ 24)) = true
  rw [decide_eq_true h1, decide_eq_true h2, decide_eq_true ⟨h3, h4⟩]
  rfl
theorem lays_true {ls : List LY} (h : ∀ l ∈ ls, VLy l) : (ls.map lyD).all isLayD = true := by
  rw [List.all_eq_true]
  intro d hd
  obtain ⟨l, hl, rfl⟩ := List.mem_map.mp hd
  exact lay_true (h l hl)
theorem mkF {K : PySem.W.Frag} {fx : Hp} {p : Addr} {H : Hp} {vs : List V} {ds : List PyData} (hf : fx p = none) (hm : p ≠ sysModules) (np : H p = none) (h : DgAll K fx H false vs ds) : Dg K fx (upd H p (.lst vs)) false (.ref p) (.list ds) := .lstF hf hm upd_same (h.sm (same_upd np))

/-! ### things made of plain parts, part by part -/
def MkD (K : PySem.W.Frag) (fx : Hp) (t : TE) (σ : L2.St) (H0 : Hp) (d : PyData) : Prop := ∀ H, Same H0 H → ∀ Q : VK, (∀ v H', Same H H' → Dg K fx H' false v d → Q v H') → t σ H Q
def MkA (K : PySem.W.Frag) (fx : Hp) (t : TA) (σ : L2.St) (H0 : Hp) (ds : List PyData) : Prop := ∀ H, Same H0 H → ∀ Q : List V → Hp → Prop, (∀ vs H', Same H H' → DgAll K fx H' false vs ds → Q vs H') → t σ H Q
theorem MkD.run {K : PySem.W.Frag} {fx : Hp} {t : TE} {σ : L2.St} {H : Hp} {d : PyData} {Q : VK} (m : MkD K fx t σ H d) (h : ∀ v H', Same H H' → Dg K fx H' false v d → Q v H') : t σ H Q := m H (Same.refl _) Q h
theorem MkD.non {K : PySem.W.Frag} {fx : Hp} {σ : L2.St} {H0 : Hp} : MkD K fx (tC .non) σ H0 .none := fun H _ _ h => h _ H (Same.refl _) .non
theorem MkD.bl {K : PySem.W.Frag} {fx : Hp} {σ : L2.St} {H0 : Hp} {x : Bool} : MkD K fx (tC (.bl x)) σ H0 (.bool x) := fun H _ _ h => h _ H (Same.refl _) (.bl x)
theorem MkD.int {K : PySem.W.Frag} {fx : Hp} {σ : L2.St} {H0 : Hp} {i : Int} : MkD K fx (tC (.int i)) σ H0 (.int i) := fun H _ _ h => h _ H (Same.refl _) (.int i)
theorem MkD.str {K : PySem.W.Frag} {fx : Hp} {σ : L2.St} {H0 : Hp} {x : Str} : MkD K fx (tC (.str x)) σ H0 (.str x) := fun H _ _ h => h _ H (Same.refl _) (.str x)
theorem MkD.var {K : PySem.W.Frag} {fx : Hp} {σ : L2.St} {H0 : Hp} {i : Nat} {v : V} {d : PyData} (hd : Dg K fx H0 false v d) (h : σ[i]? = some (some v) := by rfl) : MkD K fx (tVar i) σ H0 d := fun H s _ q => ⟨v, h, q v H (Same.refl _) (hd.sm s)⟩
theorem MkA.nil {K : PySem.W.Frag} {fx : Hp} {σ : L2.St} {H0 : Hp} : MkA K fx tNil σ H0 [] := fun H _ _ h => h _ H (Same.refl _) .nil
theorem MkA.cons {K : PySem.W.Frag} {fx : Hp} {σ : L2.St} {H0 : Hp} {te : TE} {t : TA} {d : PyData} {ds : List PyData} (a : MkD K fx te σ H0 d) (b : MkA K fx t σ H0 ds) : MkA K fx (tCons te t) σ H0 (d :: ds) := fun H s _ q =>
  a H s _ fun v H1 s1 h1 => b H1 (s.trans s1) _ fun vs H2 s2 h2 => q _ H2 (s1.trans s2) (.cons (h1.sm s2) h2)
theorem MkD.tup {K : PySem.W.Frag} {fx : Hp} {σ : L2.St} {H0 : Hp} {t : TA} {ds : List PyData} (a : MkA K fx t σ H0 ds) (hl : ds.length ≤ 1000 := by exact Nat.le_of_ble_eq_true rfl) : MkD K fx (tTup t) σ H0 (.tuple ds) := fun H s _ q =>
  a H s _ fun vs H1 s1 h1 => ⟨Nat.le_of_lt (small1000 (by rw [DgAll.len h1]; exact hl)), fun p np => q _ _ (s1.trans (same_upd np)) (mkT np h1)⟩
theorem MkD.lst {K : PySem.W.Frag} {fx : Hp} {σ : L2.St} {H0 : Hp} {t : TA} {ds : List PyData} (hf : ∀ p, H0 p = none → fx p = none) (a : MkA K fx t σ H0 ds) (hl : ds.length ≤ 1000 := by exact Nat.le_of_ble_eq_true rfl) : MkD K fx (tLstS t) σ H0 (.list ds) := fun H s _ q =>
  a H s _ fun vs H1 s1 h1 => ⟨Nat.le_of_lt (small1000 (by rw [DgAll.len h1]; exact hl)), fun p np ne => q _ _ (s1.trans (same_upd np)) (mkF (hf _ ((s.trans s1).free np)) ne np h1)⟩
theorem Dg.tupI {K : PySem.W.Frag} {fx H : Hp} {b : Bool} {v : V} {ds : List PyData} (h : Dg K fx H b v (.tuple ds)) : ∃ a xs, v = .ref a ∧ SqT K H a xs ∧ DgAll K fx H b xs ds := by
  cases h with
  | tup h q => exact ⟨_, _, rfl, h, q⟩
theorem Dg.lstI {K : PySem.W.Frag} {fx H : Hp} {v : V} {ds : List PyData} (h : Dg K fx H false v (.list ds)) : ∃ a xs, v = .ref a ∧ fx a = none ∧ a ≠ sysModules ∧ H a = some (.lst xs) ∧ DgAll K fx H false xs ds := by
  cases h with
  | lstF f m h q => exact ⟨_, _, rfl, f, m, h, q⟩
theorem Dg.intI {K : PySem.W.Frag} {fx H : Hp} {b : Bool} {v : V} {i : Int} (h : Dg K fx H b v (.int i)) : v = .int i := by
  cases h with
  | int => rfl
theorem MkD.cat {K : PySem.W.Frag} {fx : Hp} {σ : L2.St} {H0 : Hp} {ta tb : TE} {ds es : List PyData} (hl : ds.length + es.length ≤ 1000) (a : MkD K fx ta σ H0 (.tuple ds)) (b : MkD K fx tb σ H0 (.tuple es)) : MkD K fx (tOp (rCatA K) ta tb) σ H0 (.tuple (ds ++ es)) := fun H s _ q =>
  a H s _ fun v H1 s1 h1 => b H1 (s.trans s1) _ fun u H2 s2 h2 => by
    obtain ⟨p, xs, rfl, hp, dx⟩ := (h1.sm s2).tupI
    obtain ⟨r, ys, rfl, hr, dy⟩ := h2.tupI
    refine cat_any hp hr (by rw [DgAll.len dx, DgAll.len dy]; exact hl) fun H3 z s3 hz => q _ _ ((s1.trans s2).trans s3) (.tup hz (DgAll.app (dy.sm s3) (dx.sm s3)))
/-- a list of things, itself not among what is shown -/
def MkL (K : PySem.W.Frag) (fx : Hp) (t : TE) (σ : L2.St) (H0 : Hp) (ds : List PyData) : Prop := ∀ H, Same H0 H → ∀ Q : VK, (∀ a us H', Same H H' → fx a = none → H' a = some (.lst us) → DgAll K fx H' false us ds → Q (.ref a) H') → t σ H Q
theorem MkL.lst {K : PySem.W.Frag} {fx : Hp} {σ : L2.St} {H0 : Hp} {t : TA} {ds : List PyData} (hf : ∀ p, H0 p = none → fx p = none) (a : MkA K fx t σ H0 ds) (hl : ds.length ≤ 1000 := by exact Nat.le_of_ble_eq_true rfl) : MkL K fx (tLstS t) σ H0 ds := fun H s _ q =>
  a H s _ fun vs H1 s1 h1 => ⟨Nat.le_of_lt (small1000 (by rw [DgAll.len h1]; exact hl)), fun p np _ => q _ _ _ (s1.trans (same_upd np)) (hf _ ((s.trans s1).free np)) upd_same (h1.sm (same_upd np))⟩
theorem MkL.var {K : PySem.W.Frag} {fx : Hp} {σ : L2.St} {H0 : Hp} {i : Nat} {a : Addr} {us : List V} {ds : List PyData} (hf : fx a = none) (he : H0 a = some (.lst us)) (hd : DgAll K fx H0 false us ds) (h : σ[i]? = some (some (.ref a)) := by rfl) : MkL K fx (tVar i) σ H0 ds := fun H s _ q => ⟨.ref a, h, q a us H (Same.refl _) hf (s _ _ he) (hd.sm s)⟩
theorem MkL.cat {K : PySem.W.Frag} {fx : Hp} {σ : L2.St} {H0 : Hp} {ta tb : TE} {ds es : List PyData} (hf : ∀ p, H0 p = none → fx p = none) (a : MkL K fx ta σ H0 ds) (b : MkL K fx tb σ H0 es) (hl : ds.length + es.length ≤ 1000 := by exact Nat.le_of_ble_eq_true rfl) : MkL K fx (tOp rCat ta tb) σ H0 (ds ++ es) := fun H s _ q =>
  a H s _ fun p xs H1 s1 _ hp dx => b H1 (s.trans s1) _ fun r ys H2 s2 _ hr dy => by
    have dx := dx.sm s2
    refine ⟨p, r, xs, ys, rfl, rfl, s2 _ _ hp, hr, Nat.le_of_lt (small1000 (by rw [DgAll.len dx, DgAll.len dy]; exact hl)), fun z nz => ?_⟩
    exact q _ _ _ ((s1.trans s2).trans (same_upd nz)) (hf _ (((s.trans s1).trans s2).free nz)) upd_same ((DgAll.app dy dx).sm (same_upd nz))
theorem MkL.seq {K : PySem.W.Frag} {fx : Hp} {te : TE} {i : Nat} {u : TS} {D : Ends} {σ : L2.St} {H : Hp} {ds : List PyData} (m : MkL K fx te σ H ds) (h : ∀ a us H', Same H H' → fx a = none → H' a = some (.lst us) → DgAll K fx H' false us ds → u D (σ.set i (some (.ref a))) H') : tSeq (tAsg te (gName i)) u D σ H := m H (Same.refl _) _ h
theorem MkL.op {K : PySem.W.Frag} {fx : Hp} {r : R2} {ta tb : TE} {σ : L2.St} {H : Hp} {ds : List PyData} {Q : VK} (m : MkL K fx ta σ H ds) (h : ∀ a us H', Same H H' → fx a = none → H' a = some (.lst us) → DgAll K fx H' false us ds → tb σ H' fun y H2 => r (.ref a) y H2 Q) : tOp r ta tb σ H Q := m H (Same.refl _) _ h
theorem MkD.dic0 {K : PySem.W.Frag} {fx : Hp} {σ : L2.St} {H0 : Hp} (hf : ∀ p, H0 p = none → fx p = none) : MkD K fx tDNewK σ H0 (.dict []) := fun H s _ q p np => q _ _ (same_upd np) (.dic0 (hf _ (s.free np)) upd_same)
theorem MkD.dic1 {K : PySem.W.Frag} {fx : Hp} {σ : L2.St} {H0 : Hp} {k : Str} {i : Int} (hf : ∀ p, H0 p = none → fx p = none) : MkD K fx (tDisp [(tC (.str k), tC (.int i))]) σ H0 (.dict [(.str k, .int i)]) := fun H s _ q p np => by
  refine ⟨upd_same, [(Sum.inr k, .int i)], rfl, Nat.le_of_ble_eq_true rfl, ?_⟩
  rw [upd_upd]
  exact q _ _ (same_upd np) (.dic1 (hf _ (s.free np)) upd_same)
theorem DgAll.rep {K : PySem.W.Frag} {fx H : Hp} {b : Bool} {xs : List V} {ds : List PyData} (h : DgAll K fx H b xs ds) : ∀ k : Nat, DgAll K fx H b (List.replicate k xs).flatten (List.replicate k ds).flatten
  | 0 => .nil
  | k + 1 => by
    rw [List.replicate_succ, List.replicate_succ, List.flatten_cons, List.flatten_cons]
    exact DgAll.app (DgAll.rep h k) h
theorem MkD.rep {K : PySem.W.Frag} {fx : Hp} {σ : L2.St} {H0 : Hp} {ta : TE} {ds : List PyData} {k : Nat} (h0 : ds ≠ []) (hl : ds.length ≤ 1000) (hk : k ≤ 1000) (a : MkD K fx ta σ H0 (.tuple ds)) : MkD K fx (tOp (rRepA K) ta (tC (.int (k : Int)))) σ H0 (.tuple (List.replicate k ds).flatten) := fun H s _ q =>
  a H s _ fun v H1 s1 h1 => by
    obtain ⟨p, xs, rfl, hp, dx⟩ := h1.tupI
    have lx := DgAll.len dx
    refine ⟨p, (k : Int), xs, rfl, rfl, hp, fun z => ?_, by omega, by omega, by omega, fun H2 r s2 h2 => q _ _ (s1.trans s2) (.tup h2 ?_)⟩
    · rw [z] at lx
      exact h0 (List.length_eq_zero_iff.mp lx.symm)
    · rw [Int.toNat_natCast]
      exact DgAll.rep (dx.sm s2) k
theorem MkD.tail {K : PySem.W.Frag} {fx : Hp} {σ : L2.St} {H0 : Hp} {ta : TE} {ds : List PyData} (a : MkD K fx ta σ H0 (.tuple ds)) : MkD K fx (tSl (rSlA K) ta (tPart (tC (.int 1))) tNoPart) σ H0 (.tuple (ds.drop 1)) := fun H s _ q =>
  a H s _ fun v H1 s1 h1 => by
    obtain ⟨p, xs, rfl, hp, dx⟩ := h1.tupI
    refine ⟨1, rfl, sl_any hp fun H2 r s2 h2 => q _ _ (s1.trans s2) (.tup h2 ?_)⟩
    rw [show cutV xs (some 1) none = xs.drop 1 from cut_from xs 1]
    exact DgAll.dr 1 (dx.sm s2)
theorem MkD.list {K : PySem.W.Frag} {fx : Hp} {σ : L2.St} {H0 : Hp} {ta : TE} {ds : List PyData} (hf : ∀ p, H0 p = none → fx p = none) (a : MkD K fx ta σ H0 (.tuple ds)) : MkD K fx (tCB (rListS K) (tCons ta tNil)) σ H0 (.list ds) := fun H s _ q =>
  a H s _ fun v H1 s1 h1 => by
    obtain ⟨p, xs, rfl, hp, dx⟩ := h1.tupI
    exact ⟨p, xs, rfl, .inr hp, fun l nl ne => q _ _ (s1.trans (same_upd nl)) (mkF (hf _ ((s.trans s1).free nl)) ne nl dx)⟩
theorem MkD.neg {K : PySem.W.Frag} {fx : Hp} {σ : L2.St} {H0 : Hp} {i : Int} : MkD K fx (tUn (rU fun i => .int (-i)) (tC (.int i))) σ H0 (.int (-i)) := fun H _ _ q => ⟨i, rfl, q _ H (Same.refl _) (.int _)⟩
theorem MkD.pow {K : PySem.W.Frag} {fx : Hp} {σ : L2.St} {H0 : Hp} {i j : Int} (h : CPow i j) : MkD K fx (tOp (rI CPow fun i j => .int (i ^ j.toNat)) (tC (.int i)) (tC (.int j))) σ H0 (.int (i ^ j.toNat)) := fun H _ _ q => ⟨i, j, rfl, rfl, h, q _ H (Same.refl _) (.int _)⟩

/-! ### set(x), x a list of ints (the library has it for a tuple) -/
/-- a set as it is made -/
def nset (w : World) : Obj := { cls := .type "set", dict := none, data := .set #[] 0 (.fresh 0 0 (!w.params.followText "set-order")) }
section
variable {P : Program} {w : World} {A : Around} {E : Value → Shared → Prop} {s : Shared}
set_option maxRecDepth 100000 in
set_option maxHeartbeats 3200000 in
/-- set(x) of whatever, by what its filling does -/
theorem set_by (x : Value) {Q : Value → Shared → Prop}
    (fill : ∀ B : Around, B.handled = A.handled → codeAny (model P w) B (.call (.builtin "set.__init__") ⟨[.ref s.heap.objs.size, x], []⟩) (wants (fun r z => r = .none ∧ Q (.ref s.heap.objs.size) z) E) { s with heap := s.heap.push (nset w) }) :
    wpAny (model P w) A (call (.type "set") [x]) Q E s := by
  have M := F.called_set
  have m1 := M.made
  have m2 := M.sub
  have m3 := M.notType
  have m4 := M.canCreate
  have m5 := F.typeCall_set_1 x
  obtain ⟨c, tl, m6⟩ := M.mro
  refine wpAny_call (codeAny_of_tree (wpAny_pure ⟨Code.quiet_builtin _ (by decide +kernel), codeAny_builtin F.entry_type_call ?_⟩))
  rw [Around.under_plain (weight_type_call_type "set" [x] []) rfl]
  repeat (any_goals (first | assumption | wp_step))
  refine codeAny_mono (code_set_led1 x (E := E) (Q₁ := fun o z => o = .ref s.heap.objs.size ∧ z = { s with heap := s.heap.push (nset w) }) ⟨rfl, rfl⟩) fun r z hr => ?_
  match r, hr with
  | .error e, hr => exact hr
  | .ok (.ret o), ⟨e1, e2⟩ =>
    subst e1
    subst e2
    have g : (s.heap.push (nset w)).get? s.heap.objs.size = some (nset w) := Heap.get?_push_size _ rfl
    have ty : Shared.TypeIs { s with heap := s.heap.push (nset w) } (.ref s.heap.objs.size) "set" := ⟨_, g, rfl⟩
    have i1 := M.init.lookup
    have i2 := M.init.bind (.ref s.heap.objs.size)
    repeat (any_goals (first | assumption | wp_step))
    refine codeAny_mono (fill _ (by simp)) fun r2 z2 h2 => ?_
    match r2, h2 with
    | .error e, h2 => exact h2
    | .ok (.ret o), ⟨e3, q⟩ =>
      subst e3
      repeat (any_goals (first | assumption | wp_step))
set_option maxRecDepth 100000 in
set_option maxHeartbeats 3200000 in
/-- the filling of a new set with a list of ints -/
theorem set_fill {l : Addr} {its : Array Value} (ns : List Int) {S : Addr} {Q : Value → Shared → Prop} (hh : A.handled = none) (gS : s.heap.get? S = some (nset w)) (hl : s.heap.IsList l its) (nl : l ≠ S) (hi : IntsAre its.toList ns) (hb : ns.length + 1 < scanBound)
    (q : ∀ (h' : Heap) (tk c : Nat), SetR w h' S (fun j => decide (j ∈ ns)) c → c ≤ ns.length → (∀ b o, b ≠ S → s.heap.get? b = some o → h'.get? b = some o) → Q .none { s with heap := h', toks := tk }) :
    codeAny (model P w) A (.call (.builtin "set.__init__") ⟨[.ref S, .ref l], []⟩) (wants Q E) s := by
  have ty : s.TypeIs (.ref S) "set" := ⟨_, gS, rfl⟩
  refine codeAny_call_builtin F.called_set.init.plain F.entry_set_init (check_set_init_1 ty ?_)
  have len : its.size = ns.length := by rw [← Array.length_toList]; exact IntsAre.length hi
  have zS : S < s.heap.objs.size := Heap.lt_size gS
  obtain ⟨o, go, c1, n, c2⟩ := id hl
  have zl : l < s.heap.objs.size := Heap.lt_size go
  obtain ⟨oc, od, oa, os⟩ := o
  dsimp only at c1 c2
  subst c1 c2
  have f1 := F.sub_list_set
  have f2 := F.sub_list_frozenset
  have f3 : (Value.type "list" == Value.type "dict") = false := by decide
  have gS' := gS
  unfold nset at gS'
  unfold Builtin.«set.__init__» noKeywords Builtin.Frozenset.updateFrom
  generalize hPI : pyIter = PI
  wp_walk
  subst hPI
  refine wpAny_pyIter_list hl (wpAny_bind (wpAny_runValue ?_))
  have at' : ∀ (i : Nat) (v : Value), its[i]? = some v → ∃ k t, ns[i]? = some k ∧ v = .int k t := fun i v hv => by
    have lt : i < ns.length := len ▸ (Array.getElem?_eq_some_iff.mp hv).1
    obtain ⟨t, e⟩ := IntsAre.int_at hi i v (by rw [Array.getElem?_toList]; exact hv)
    exact ⟨ns[i], t, List.getElem?_eq_getElem lt, by rw [e, List.getD_eq_getElem?_getD, List.getElem?_eq_getElem lt]; rfl⟩
  refine set_update_ints ((Walks.list (by simp [hh]) _ l (Nat.ne_of_lt zl) its).toS) S ?_ ns len hb at' _ 0 _ rfl (Nat.zero_le _) ⟨⟨_, Heap.get?_push_size _ rfl, rfl, rfl⟩, hl.push _⟩
    ⟨0, Nat.le_refl _, setR_new_at (Heap.get?_push_of_some _ gS)⟩ fun z c hm hc R => ?_
  · simp only [List.mem_cons, List.not_mem_nil, or_false, not_or]
    exact ⟨Nat.ne_of_lt zS, Ne.symm nl⟩
  · obtain ⟨h', g', d', tk, os'⟩ := z
    cases (show g' = s.gens from hm.gens)
    cases (show d' = s.drawn from hm.drawn)
    cases (show os' = s.os from hm.os)
    refine wpAny_pure (wpAny_pure (q h' tk c R (len ▸ hc) fun b o nb e => hm.heap b o ?_ (Heap.get?_push_of_some _ e)))
    simp only [List.mem_cons, List.not_mem_nil, or_false, not_or]
    exact ⟨nb, Nat.ne_of_lt (Heap.lt_size e)⟩
end
def rSetL (K : PySem.W.Frag) (w : World) : List V → Hp → VK → Prop := fun vs H Q => ∃ (a : Addr) (ns : List Int), vs = [.ref a] ∧ SqL K H a (ns.map V.int) ∧ ns.length ≤ 63 ∧
  ∀ (S : Int → Bool) (n : Nat) (p : Addr), (∀ k, S k = true ↔ k ∈ ns) → n ≤ ns.length → H p = none → Q (.ref p) (upd H p (SetO w p S n))
theorem cr_setL {X : Cx} (hc : X.calm = true) : CallR X (.type "set") (rSetL X.K X.w) := by
  intro pins s σ H vs us Q I r h
  obtain ⟨a, ns, rfl, hs, h63, q⟩ := h
  obtain ⟨its, rv, hl, hz⟩ := I.list hs
  rw [Vals.ref1 r]
  have hs0 := hl.isList
  have la : a < s.heap.objs.size := by
    obtain ⟨o, go, _⟩ := hs0
    exact Heap.lt_size go
  refine set_by (.ref a) fun B hB => ?_
  refine set_fill (s := { s with heap := s.heap.push (nset X.w) }) ns (hB.trans (I.ok.hd hc)) (Heap.get?_push_size _ rfl) (hs0.push _) (Nat.ne_of_lt la) (by simpa using rv.ints) (by unfold scanBound; omega) fun h' tk c R hcn hk => ⟨rfl, ?_⟩
  exact ⟨.ref _, upd H s.heap.objs.size (SetO X.w s.heap.objs.size (fun j => decide (j ∈ ns)) c),
    I.laid (t' := tk) (fun b u e => hk b u (Nat.ne_of_lt (Heap.lt_size e)) (Heap.get?_push_of_some _ e)) (Nat.le_refl _) (setO_new R), rfl,
    q _ _ _ (fun k => by simp) hcn (I.hok.fresh (Nat.le_refl _))⟩

/-! ### the text -/
def topS (i : Nat) : Stmt := PySem.Challenge.pw_lanternrows_k14_refusals_of_the_first_st.main.body.getD i (.Pass ⟨0, 0, 0, 0⟩)
abbrev s_is_whole_from : Stmt := topS 20
theorem sc_is_whole_from : FnScope ["thing", "least"] ["thing", "least"] (defScope s_is_whole_from) := ⟨rfl, rfl, rfl, by decide +kernel, rfl, by decide +kernel, by decide +kernel⟩
abbrev s_is_whole : Stmt := topS 21
theorem sc_is_whole : FnScope ["thing", "least", "most"] ["thing", "least", "most"] (defScope s_is_whole) := ⟨rfl, rfl, rfl, by decide +kernel, rfl, by decide +kernel, by decide +kernel⟩
abbrev s_need_moment : Stmt := topS 22
theorem sc_need_moment : FnScope ["thing"] ["thing"] (defScope s_need_moment) := ⟨rfl, rfl, rfl, by decide +kernel, rfl, by decide +kernel, by decide +kernel⟩
abbrev s_need_number : Stmt := topS 23
theorem sc_need_number : FnScope ["thing", "least", "most"] ["thing", "least", "most"] (defScope s_need_number) := ⟨rfl, rfl, rfl, by decide +kernel, rfl, by decide +kernel, by decide +kernel⟩
abbrev s_is_tuple : Stmt := topS 32
theorem sc_is_tuple : FnScope ["thing", "least", "most"] ["thing", "least", "most"] (defScope s_is_tuple) := ⟨rfl, rfl, rfl, by decide +kernel, rfl, by decide +kernel, by decide +kernel⟩
abbrev s_is_drawing : Stmt := topS 33
theorem sc_is_drawing : FnScope ["thing"] ["thing"] (defScope s_is_drawing) := ⟨rfl, rfl, rfl, by decide +kernel, rfl, by decide +kernel, by decide +kernel⟩
abbrev s_is_hold : Stmt := topS 34
theorem sc_is_hold : FnScope ["thing"] ["thing"] (defScope s_is_hold) := ⟨rfl, rfl, rfl, by decide +kernel, rfl, by decide +kernel, by decide +kernel⟩
abbrev s_is_row : Stmt := topS 35
theorem sc_is_row : FnScope ["thing", "drawing", "hold"] ["thing"] (defScope s_is_row) := ⟨rfl, rfl, rfl, by decide +kernel, rfl, by decide +kernel, by decide +kernel⟩
abbrev s_is_layer : Stmt := topS 36
theorem sc_is_layer : FnScope ["thing", "rows", "back", "row"] ["thing"] (defScope s_is_layer) := ⟨rfl, rfl, rfl, by decide +kernel, rfl, by decide +kernel, by decide +kernel⟩
abbrev s_is_way : Stmt := topS 37
theorem sc_is_way : FnScope ["thing"] ["thing"] (defScope s_is_way) := ⟨rfl, rfl, rfl, by decide +kernel, rfl, by decide +kernel, by decide +kernel⟩
abbrev s_is_many : Stmt := topS 38
theorem sc_is_many : FnScope ["thing"] ["thing"] (defScope s_is_many) := ⟨rfl, rfl, rfl, by decide +kernel, rfl, by decide +kernel, by decide +kernel⟩
abbrev s_is_move : Stmt := topS 39
theorem sc_is_move : FnScope ["thing", "x", "y", "many"] ["thing"] (defScope s_is_move) := ⟨rfl, rfl, rfl, by decide +kernel, rfl, by decide +kernel, by decide +kernel⟩
abbrev s_is_window : Stmt := topS 40
theorem sc_is_window : FnScope ["thing", "x", "y", "moves", "move"] ["thing"] (defScope s_is_window) := ⟨rfl, rfl, rfl, by decide +kernel, rfl, by decide +kernel, by decide +kernel⟩
abbrev s_is_sheet : Stmt := topS 41
theorem sc_is_sheet : FnScope ["thing", "layers", "window", "layer"] ["thing"] (defScope s_is_sheet) := ⟨rfl, rfl, rfl, by decide +kernel, rfl, by decide +kernel, by decide +kernel⟩
abbrev s_need_layer : Stmt := topS 42
theorem sc_need_layer : FnScope ["thing"] ["thing"] (defScope s_need_layer) := ⟨rfl, rfl, rfl, by decide +kernel, rfl, by decide +kernel, by decide +kernel⟩
abbrev s_need_window : Stmt := topS 43
theorem sc_need_window : FnScope ["thing"] ["thing"] (defScope s_need_window) := ⟨rfl, rfl, rfl, by decide +kernel, rfl, by decide +kernel, by decide +kernel⟩
abbrev s_need_sheet : Stmt := topS 44
theorem sc_need_sheet : FnScope ["thing"] ["thing"] (defScope s_need_sheet) := ⟨rfl, rfl, rfl, by decide +kernel, rfl, by decide +kernel, by decide +kernel⟩
abbrev s_need_as_many_layers : Stmt := topS 45
theorem sc_need_as_many_layers : FnScope ["one", "other"] ["one", "other"] (defScope s_need_as_many_layers) := ⟨rfl, rfl, rfl, by decide +kernel, rfl, by decide +kernel, by decide +kernel⟩
abbrev s_held : Stmt := topS 46
theorem sc_held : FnScope ["rows", "drawing", "hold"] ["rows"] (defScope s_held) := ⟨rfl, rfl, rfl, by decide +kernel, rfl, by decide +kernel, by decide +kernel⟩
abbrev s_length_of : Stmt := topS 47
theorem sc_length_of : FnScope ["layer", "rows", "back"] ["layer"] (defScope s_length_of) := ⟨rfl, rfl, rfl, by decide +kernel, rfl, by decide +kernel, by decide +kernel⟩
abbrev s_moved : Stmt := topS 48
theorem sc_moved : FnScope ["window", "x", "y", "moves", "goal_x", "goal_y", "many"] ["window"] (defScope s_moved) := ⟨rfl, rfl, rfl, by decide +kernel, rfl, by decide +kernel, by decide +kernel⟩
abbrev s_full_length : Stmt := topS 49
theorem sc_full_length : FnScope ["sheet", "layers", "window", "lengths", "layer"] ["sheet"] (defScope s_full_length) := ⟨rfl, rfl, rfl, by decide +kernel, rfl, by decide +kernel, by decide +kernel⟩
abbrev s_layer_length : Stmt := topS 50
theorem sc_layer_length : FnScope ["layer"] ["layer"] (defScope s_layer_length) := ⟨rfl, rfl, rfl, by decide +kernel, rfl, by decide +kernel, by decide +kernel⟩
abbrev s_window_length : Stmt := topS 51
theorem sc_window_length : FnScope ["window"] ["window"] (defScope s_window_length) := ⟨rfl, rfl, rfl, by decide +kernel, rfl, by decide +kernel, by decide +kernel⟩
abbrev s_sheet_length : Stmt := topS 52
theorem sc_sheet_length : FnScope ["sheet"] ["sheet"] (defScope s_sheet_length) := ⟨rfl, rfl, rfl, by decide +kernel, rfl, by decide +kernel, by decide +kernel⟩
abbrev s_first_time : Stmt := topS 55
theorem sc_first_time : FnScope ["rows", "back", "moment", "ahead", "around"] ["rows", "back", "moment"] (defScope s_first_time) := ⟨rfl, rfl, rfl, by decide +kernel, rfl, by decide +kernel, by decide +kernel⟩
abbrev s_drawing_of : Stmt := topS 56
theorem sc_drawing_of : FnScope ["layer", "moment", "rows", "back", "left", "drawing", "hold"] ["layer", "moment"] (defScope s_drawing_of) := ⟨rfl, rfl, rfl, by decide +kernel, rfl, by decide +kernel, by decide +kernel⟩
abbrev s_common_divisor : Stmt := topS 57
theorem sc_common_divisor : FnScope ["one", "other"] ["one", "other"] (defScope s_common_divisor) := ⟨rfl, rfl, rfl, by decide +kernel, rfl, by decide +kernel, by decide +kernel⟩
abbrev s_lowest : Stmt := topS 58
theorem sc_lowest : FnScope ["top", "bottom", "divisor"] ["top", "bottom"] (defScope s_lowest) := ⟨rfl, rfl, rfl, by decide +kernel, rfl, by decide +kernel, by decide +kernel⟩
abbrev s_on_the_way : Stmt := topS 59
theorem sc_on_the_way : FnScope ["start", "goal", "step", "many"] ["start", "goal", "step", "many"] (defScope s_on_the_way) := ⟨rfl, rfl, rfl, by decide +kernel, rfl, by decide +kernel, by decide +kernel⟩
abbrev s_place_of : Stmt := topS 60
theorem sc_place_of : FnScope ["window", "moment", "x", "y", "moves", "left", "goal_x", "goal_y", "many", "step"] ["window", "moment"] (defScope s_place_of) := ⟨rfl, rfl, rfl, by decide +kernel, rfl, by decide +kernel, by decide +kernel⟩
abbrev s_picture_of : Stmt := topS 61
theorem sc_picture_of : FnScope ["sheet", "moment", "layers", "window", "drawings", "layer"] ["sheet", "moment"] (defScope s_picture_of) := ⟨rfl, rfl, rfl, by decide +kernel, rfl, by decide +kernel, by decide +kernel⟩
abbrev s_pictures_of : Stmt := topS 62
theorem sc_pictures_of : FnScope ["sheet", "moment", "many", "ahead"] ["sheet", "moment", "many"] (defScope s_pictures_of) := ⟨rfl, rfl, rfl, by decide +kernel, rfl, by decide +kernel, by decide +kernel⟩
abbrev s_drawing_at : Stmt := topS 63
theorem sc_drawing_at : FnScope ["layer", "moment"] ["layer", "moment"] (defScope s_drawing_at) := ⟨rfl, rfl, rfl, by decide +kernel, rfl, by decide +kernel, by decide +kernel⟩
abbrev s_place_at : Stmt := topS 64
theorem sc_place_at : FnScope ["window", "moment"] ["window", "moment"] (defScope s_place_at) := ⟨rfl, rfl, rfl, by decide +kernel, rfl, by decide +kernel, by decide +kernel⟩
abbrev s_picture_at : Stmt := topS 65
theorem sc_picture_at : FnScope ["sheet", "moment"] ["sheet", "moment"] (defScope s_picture_at) := ⟨rfl, rfl, rfl, by decide +kernel, rfl, by decide +kernel, by decide +kernel⟩
abbrev s_pictures_from : Stmt := topS 66
theorem sc_pictures_from : FnScope ["sheet", "moment", "many"] ["sheet", "moment", "many"] (defScope s_pictures_from) := ⟨rfl, rfl, rfl, by decide +kernel, rfl, by decide +kernel, by decide +kernel⟩
abbrev s_drawings_of : Stmt := topS 68
theorem sc_drawings_of : FnScope ["rows", "drawing", "hold", "turn"] ["rows"] (defScope s_drawings_of) := ⟨rfl, rfl, rfl, by decide +kernel, rfl, by decide +kernel, by decide +kernel⟩
abbrev s_ahead_and_around : Stmt := topS 69
theorem sc_ahead_and_around : FnScope ["layer", "rows", "back"] ["layer"] (defScope s_ahead_and_around) := ⟨rfl, rfl, rfl, by decide +kernel, rfl, by decide +kernel, by decide +kernel⟩
abbrev s_first_drawings : Stmt := topS 70
theorem sc_first_drawings : FnScope ["layer", "many", "ahead", "around", "times"] ["layer", "many"] (defScope s_first_drawings) := ⟨rfl, rfl, rfl, by decide +kernel, rfl, by decide +kernel, by decide +kernel⟩
abbrev s_laid : Stmt := topS 71
theorem sc_laid : FnScope ["layer", "many"] ["layer", "many"] (defScope s_laid) := ⟨rfl, rfl, rfl, by decide +kernel, rfl, by decide +kernel, by decide +kernel⟩
abbrev s_least_many : Stmt := topS 73
theorem sc_least_many : FnScope ["around", "many"] ["around"] (defScope s_least_many) := ⟨rfl, rfl, rfl, by decide +kernel, rfl, by decide +kernel, by decide +kernel⟩
abbrev s_least_ahead : Stmt := topS 74
theorem sc_least_ahead : FnScope ["shown", "ahead", "many"] ["shown", "ahead", "many"] (defScope s_least_ahead) := ⟨rfl, rfl, rfl, by decide +kernel, rfl, by decide +kernel, by decide +kernel⟩
abbrev s_round_of : Stmt := topS 75
theorem sc_round_of : FnScope ["layer", "ahead", "around", "many"] ["layer"] (defScope s_round_of) := ⟨rfl, rfl, rfl, by decide +kernel, rfl, by decide +kernel, by decide +kernel⟩
abbrev s_first_places : Stmt := topS 76
theorem sc_first_places : FnScope ["window", "many", "moment"] ["window", "many"] (defScope s_first_places) := ⟨rfl, rfl, rfl, by decide +kernel, rfl, by decide +kernel, by decide +kernel⟩
abbrev s_round_of_window : Stmt := topS 77
theorem sc_round_of_window : FnScope ["window", "length"] ["window"] (defScope s_round_of_window) := ⟨rfl, rfl, rfl, by decide +kernel, rfl, by decide +kernel, by decide +kernel⟩
abbrev s_common_multiple : Stmt := topS 78
theorem sc_common_multiple : FnScope ["one", "other"] ["one", "other"] (defScope s_common_multiple) := ⟨rfl, rfl, rfl, by decide +kernel, rfl, by decide +kernel, by decide +kernel⟩
abbrev s_is_round : Stmt := topS 79
theorem sc_is_round : FnScope ["layer", "thing", "ahead", "many", "first_ahead", "first_many"] ["layer", "thing"] (defScope s_is_round) := ⟨rfl, rfl, rfl, by decide +kernel, rfl, by decide +kernel, by decide +kernel⟩
abbrev s_least_round : Stmt := topS 80
theorem sc_least_round : FnScope ["layer"] ["layer"] (defScope s_least_round) := ⟨rfl, rfl, rfl, by decide +kernel, rfl, by decide +kernel, by decide +kernel⟩
abbrev s_sheet_round : Stmt := topS 81
theorem sc_sheet_round : FnScope ["sheet", "layers", "window", "most_ahead", "all_many", "layer", "ahead", "many"] ["sheet"] (defScope s_sheet_round) := ⟨rfl, rfl, rfl, by decide +kernel, rfl, by decide +kernel, by decide +kernel⟩
abbrev s_first_unlike : Stmt := topS 82
theorem sc_first_unlike : FnScope ["one", "other", "at", "here", "there"] ["one", "other"] (defScope s_first_unlike) := ⟨rfl, rfl, rfl, by decide +kernel, rfl, by decide +kernel, by decide +kernel⟩
abbrev s_layers_parting : Stmt := topS 83
theorem sc_layers_parting : FnScope ["one", "other", "ahead", "many", "other_ahead", "other_many", "enough"] ["one", "other"] (defScope s_layers_parting) := ⟨rfl, rfl, rfl, by decide +kernel, rfl, by decide +kernel, by decide +kernel⟩
abbrev s_windows_parting : Stmt := topS 84
theorem sc_windows_parting : FnScope ["one", "other", "enough"] ["one", "other"] (defScope s_windows_parting) := ⟨rfl, rfl, rfl, by decide +kernel, rfl, by decide +kernel, by decide +kernel⟩
abbrev s_parting : Stmt := topS 85
theorem sc_parting : FnScope ["one", "other", "layers", "window", "other_layers", "other_window", "moments", "first", "second", "moment"] ["one", "other"] (defScope s_parting) := ⟨rfl, rfl, rfl, by decide +kernel, rfl, by decide +kernel, by decide +kernel⟩
abbrev s_are_alike : Stmt := topS 86
theorem sc_are_alike : FnScope ["one", "other"] ["one", "other"] (defScope s_are_alike) := ⟨rfl, rfl, rfl, by decide +kernel, rfl, by decide +kernel, by decide +kernel⟩
abbrev s__law_cell_at : Stmt := topS 88
theorem sc__law_cell_at : FnScope ["_law_script", "_law_k"] ["_law_script", "_law_k"] (defScope s__law_cell_at) := ⟨rfl, rfl, rfl, by decide +kernel, rfl, by decide +kernel, by decide +kernel⟩
abbrev s__law_state : Stmt := topS 89
theorem sc__law_state : FnScope ["_law_script", "_law_k", "_law_cell"] ["_law_script", "_law_k"] (defScope s__law_state) := ⟨rfl, rfl, rfl, by decide +kernel, rfl, by decide +kernel, by decide +kernel⟩
abbrev s__law_take : Stmt := topS 90
theorem sc__law_take : FnScope ["_law_state_here", "_law_many", "_law_found", "_law_stirred"] ["_law_state_here", "_law_many"] (defScope s__law_take) := ⟨rfl, rfl, rfl, by decide +kernel, rfl, by decide +kernel, by decide +kernel⟩
abbrev s__law_marks : Stmt := topS 91
theorem sc__law_marks : FnScope ["_law_error", "_law_marks_here"] ["_law_error"] (defScope s__law_marks) := ⟨rfl, rfl, rfl, by decide +kernel, rfl, by decide +kernel, by decide +kernel⟩
abbrev s__law_refused : Stmt := topS 92
theorem sc__law_refused : FnScope ["_law_call_here", "_law_error", "e", "_law_marks_here", "_law_names"] ["_law_call_here"] (defScope s__law_refused) := ⟨rfl, rfl, rfl, by decide +kernel, rfl, by decide +kernel, by decide +kernel⟩
abbrev s__law_odd : Stmt := topS 93
theorem sc__law_odd : FnScope ["_law_state_here", "_law_some"] ["_law_state_here"] (defScope s__law_odd) := ⟨rfl, rfl, rfl, by decide +kernel, rfl, by decide +kernel, by decide +kernel⟩
abbrev s__law_row : Stmt := topS 94
theorem sc__law_row : FnScope ["_law_state_here", "_law_way", "_law_drawing"] ["_law_state_here", "_law_way"] (defScope s__law_row) := ⟨rfl, rfl, rfl, by decide +kernel, rfl, by decide +kernel, by decide +kernel⟩
abbrev s__law_layer : Stmt := topS 95
theorem sc__law_layer : FnScope ["_law_state_here", "_law_way", "_law_many", "_law_rows", "_law_back", "_law_turn"] ["_law_state_here"] (defScope s__law_layer) := ⟨rfl, rfl, rfl, by decide +kernel, rfl, by decide +kernel, by decide +kernel⟩
abbrev s__law_window : Stmt := topS 96
theorem sc__law_window : FnScope ["_law_state_here", "_law_moves", "_law_many", "_law_x", "_law_y", "_law_place", "_law_turn"] ["_law_state_here"] (defScope s__law_window) := ⟨rfl, rfl, rfl, by decide +kernel, rfl, by decide +kernel, by decide +kernel⟩
abbrev s__law_sheet : Stmt := topS 97
theorem sc__law_sheet : FnScope ["_law_state_here", "_law_turn"] ["_law_state_here"] (defScope s__law_sheet) := ⟨rfl, rfl, rfl, by decide +kernel, rfl, by decide +kernel, by decide +kernel⟩
abbrev s__law_bad : Stmt := topS 98
theorem sc__law_bad : FnScope ["_law_state_here", "_law_kind", "_law_good", "_law_odd_here", "_law_way", "_law_bad_here"] ["_law_state_here", "_law_kind", "_law_good"] (defScope s__law_bad) := ⟨rfl, rfl, rfl, by decide +kernel, rfl, by decide +kernel, by decide +kernel⟩
abbrev s__law_call : Stmt := topS 99
theorem sc__law_call : FnScope ["_law_name", "_law_some", "_law_alone", "_law_call_here", "_law_pairs"] ["_law_name", "_law_some"] (defScope s__law_call) := ⟨rfl, rfl, rfl, by decide +kernel, rfl, by decide +kernel, by decide +kernel⟩
abbrev s__law_right : Stmt := topS 100
theorem sc__law_right : FnScope ["_law_state_here", "_law_name", "_law_kinds", "_law_good", "_law_at", "_law_other", "_law_some", "_law_spot", "_law_kept", "_law_due"] ["_law_state_here", "_law_name", "_law_kinds", "_law_good"] (defScope s__law_right) := ⟨rfl, rfl, rfl, by decide +kernel, rfl, by decide +kernel, by decide +kernel⟩
abbrev s_law : Stmt := topS 101
theorem sc_law : FnScope ["_law_script", "_law_k", "_law_state_here", "_law_layer_here", "_law_window_here", "_law_sheet_here", "_law_more", "_law_moment", "_law_many", "_law_rows", "_law_name", "_law_kinds", "_law_good"] ["_law_script"] (defScope s_law) := ⟨rfl, rfl, rfl, by decide +kernel, rfl, by decide +kernel, by decide +kernel⟩
abbrev s_TooMany_init : Stmt := clsB (topS 16) 0
theorem sc_TooMany_init : FnScope ["self", "many", "most"] ["self", "many", "most"] (defScope s_TooMany_init) := ⟨rfl, rfl, rfl, by decide +kernel, rfl, by decide +kernel, by decide +kernel⟩
abbrev s_Leaned_init : Stmt := clsB (topS 17) 0
theorem sc_Leaned_init : FnScope ["self", "numbers"] ["self", "numbers"] (defScope s_Leaned_init) := ⟨rfl, rfl, rfl, by decide +kernel, rfl, by decide +kernel, by decide +kernel⟩
structure Txt (K : PySem.W.Frag) (mg : Str → Option Value) : Prop where
  b_ValueError : mg "ValueError" = none
  b_len : mg "len" = none
  b_isinstance : mg "isinstance" = none
  b_max : mg "max" = none
  b_min : mg "min" = none
  b_sum : mg "sum" = none
  b_all : mg "all" = none
  b_tuple : mg "tuple" = none
  b_list : mg "list" = none
  b_abs : mg "abs" = none
  b_range : mg "range" = none
  b_zip : mg "zip" = none
  b_enumerate : mg "enumerate" = none
  b_bool : mg "bool" = none
  b_int : mg "int" = none
  b_repr : mg "repr" = none
  b_sorted : mg "sorted" = none
  b_set : mg "set" = none
  c_LAST_MOMENT : ∃ t, mg "LAST_MOMENT" = some (Value.int 1000000000 t)
  c_MOST_DRAWING : ∃ t, mg "MOST_DRAWING" = some (Value.int 9 t)
  c_MOST_HOLD : ∃ t, mg "MOST_HOLD" = some (Value.int 24 t)
  c_MOST_ROWS : ∃ t, mg "MOST_ROWS" = some (Value.int 8 t)
  c_MOST_WAY : ∃ t, mg "MOST_WAY" = some (Value.int 20 t)
  c_MOST_MANY : ∃ t, mg "MOST_MANY" = some (Value.int 24 t)
  c_MOST_MOVES : ∃ t, mg "MOST_MOVES" = some (Value.int 8 t)
  c_MOST_LAYERS : ∃ t, mg "MOST_LAYERS" = some (Value.int 4 t)
  c_MOST_PICTURES : ∃ t, mg "MOST_PICTURES" = some (Value.int 200 t)

/-! ### the marks of a refusal, its name -/
def ordM : List Nat := [0, 1, 2, 3, 4, 5, 6, 7, 8, 9, 14, 10, 11, 15, 12, 13]
def bitsM (i : Nat) : List Bool := ordM.map fun j => decide (i = j)
def nmsM : List Str := ["layer", "window", "sheet", "moment", "row", "number", "drawings", "unlike", "endless", "squeezed", "many", "paper", "deed", "leaned", "text", "words"]
def posM (i : Nat) : Nat := [0, 1, 2, 3, 4, 5, 6, 7, 8, 9, 11, 12, 14, 15, 10, 13].getD i 0
def rfN (i : Nat) : Str := nmsM.getD (posM i) ""
theorem bitsM_facts : ∀ i, i < 16 → (bitsM i).count true = 1 ∧ (bitsM i)[posM i]? = some true ∧ (∀ m, m < posM i → (bitsM i)[m]? = some false) ∧ posM i < 16 := by decide
theorem nmsM_at (i : Nat) (h : i < 16) : atI (nmsM.map V.str) (posM i : Nat) = some (.str (rfN i)) := by
  have hp := (bitsM_facts i h).2.2.2
  refine atI_nat ?_
  have hl : posM i < nmsM.length := hp
  rw [List.getElem?_map, List.getElem?_eq_getElem hl]
  unfold rfN
  rw [List.getD_eq_getElem?_getD, List.getElem?_eq_getElem hl]
  rfl
def spMrk (c : Nat → Addr) : Addr → Value → Option Addr → Sp := fun a cls d vs H Q _ => ∃ i, i < 16 ∧ vs = [.ref a] ∧ cls = .ref (c i) ∧ HasXd d H ∧ ∀ H' p, Same H H' → H p = none → H' p = some (.lst ((bitsM i).map V.bl)) → Q (.ref p) H'
section
variable {P : Program} {w : World} {K : PySem.W.Frag} {mg : Str → Option Value} {base : Heap}
theorem ok__law_marks {f : Addr} {fd : FuncData} {c : Nat → Addr} {LE : Addr} (F : Fun K "_law_marks" "_law_marks" s__law_marks f fd) (T : Txt K mg) (TX : ExcN K mg c LE) : FnE P w K mg base 1 f fd ["_law_error"] (spMrk c) := by
  refine fun_okE F sc__law_marks (fun a cls d vs H Q E h => ?_) (fun cdv A outer s H vs Q E a oe cls d hz hfs hr h => ?_)
  · obtain ⟨i, _, rfl, _⟩ := h
    rfl
  · obtain ⟨i, hi, rfl, rfl, hx, q⟩ := h
    refine ⟨_, (pss_cons (ps_set (i := 1) sc__law_marks.nd rfl (Or.inl rfl) (pe_lst (pa_cons (pe_callB (call_isQ TX.toExcT List.mem_cons_self hz hfs) (by rfl) T.b_isinstance (by decide +kernel) (pa_cons (pv 0) (pa_cons (pe_gref (by rfl) (TX.g 0 "NoLayer" rfl)) pa_nil))) (pa_cons (pe_callB (call_isQ TX.toExcT List.mem_cons_self hz hfs) (by rfl) T.b_isinstance (by decide +kernel) (pa_cons (pv 0) (pa_cons (pe_gref (by rfl) (TX.g 1 "NoWindow" rfl)) pa_nil))) (pa_cons (pe_callB (call_isQ TX.toExcT List.mem_cons_self hz hfs) (by rfl) T.b_isinstance (by decide +kernel) (pa_cons (pv 0) (pa_cons (pe_gref (by rfl) (TX.g 2 "NoSheet" rfl)) pa_nil))) pa_nil)))))
      (pss_cons (ps_set (i := 1) sc__law_marks.nd rfl (Or.inl rfl) (pe_op op_cat (pv 1) (pe_lst (pa_cons (pe_callB (call_isQ TX.toExcT List.mem_cons_self hz hfs) (by rfl) T.b_isinstance (by decide +kernel) (pa_cons (pv 0) (pa_cons (pe_gref (by rfl) (TX.g 3 "NoMoment" rfl)) pa_nil))) (pa_cons (pe_callB (call_isQ TX.toExcT List.mem_cons_self hz hfs) (by rfl) T.b_isinstance (by decide +kernel) (pa_cons (pv 0) (pa_cons (pe_gref (by rfl) (TX.g 4 "NoRow" rfl)) pa_nil))) (pa_cons (pe_callB (call_isQ TX.toExcT List.mem_cons_self hz hfs) (by rfl) T.b_isinstance (by decide +kernel) (pa_cons (pv 0) (pa_cons (pe_gref (by rfl) (TX.g 5 "NoNumber" rfl)) pa_nil))) pa_nil))))))
      (pss_cons (ps_set (i := 1) sc__law_marks.nd rfl (Or.inl rfl) (pe_op op_cat (pv 1) (pe_lst (pa_cons (pe_callB (call_isQ TX.toExcT List.mem_cons_self hz hfs) (by rfl) T.b_isinstance (by decide +kernel) (pa_cons (pv 0) (pa_cons (pe_gref (by rfl) (TX.g 6 "NoDrawings" rfl)) pa_nil))) (pa_cons (pe_callB (call_isQ TX.toExcT List.mem_cons_self hz hfs) (by rfl) T.b_isinstance (by decide +kernel) (pa_cons (pv 0) (pa_cons (pe_gref (by rfl) (TX.g 7 "Unlike" rfl)) pa_nil))) (pa_cons (pe_callB (call_isQ TX.toExcT List.mem_cons_self hz hfs) (by rfl) T.b_isinstance (by decide +kernel) (pa_cons (pv 0) (pa_cons (pe_gref (by rfl) (TX.g 8 "Endless" rfl)) pa_nil))) pa_nil))))))
      (pss_cons (ps_set (i := 1) sc__law_marks.nd rfl (Or.inl rfl) (pe_op op_cat (pv 1) (pe_lst (pa_cons (pe_callB (call_isQ TX.toExcT List.mem_cons_self hz hfs) (by rfl) T.b_isinstance (by decide +kernel) (pa_cons (pv 0) (pa_cons (pe_gref (by rfl) (TX.g 9 "Squeezed" rfl)) pa_nil))) (pa_cons (pe_callB (call_isQ TX.toExcT List.mem_cons_self hz hfs) (by rfl) T.b_isinstance (by decide +kernel) (pa_cons (pv 0) (pa_cons (pe_gref (by rfl) (TX.g 14 "TooMany" rfl)) pa_nil))) (pa_cons (pe_callB (call_isQ TX.toExcT List.mem_cons_self hz hfs) (by rfl) T.b_isinstance (by decide +kernel) (pa_cons (pv 0) (pa_cons (pe_gref (by rfl) (TX.g 10 "NoPaper" rfl)) pa_nil))) pa_nil))))))
      (pss_cons (ps_set (i := 1) sc__law_marks.nd rfl (Or.inl rfl) (pe_op op_cat (pv 1) (pe_lst (pa_cons (pe_callB (call_isQ TX.toExcT List.mem_cons_self hz hfs) (by rfl) T.b_isinstance (by decide +kernel) (pa_cons (pv 0) (pa_cons (pe_gref (by rfl) (TX.g 11 "NoDeed" rfl)) pa_nil))) (pa_cons (pe_callB (call_isQ TX.toExcT List.mem_cons_self hz hfs) (by rfl) T.b_isinstance (by decide +kernel) (pa_cons (pv 0) (pa_cons (pe_gref (by rfl) (TX.g 15 "Leaned" rfl)) pa_nil))) (pa_cons (pe_callB (call_isQ TX.toExcT List.mem_cons_self hz hfs) (by rfl) T.b_isinstance (by decide +kernel) (pa_cons (pv 0) (pa_cons (pe_gref (by rfl) (TX.g 12 "NoText" rfl)) pa_nil))) pa_nil))))))
      (pss_one (ps_ret (pe_op op_cat (pv 1) (pe_lst (pa_cons (pe_callB (call_isQ TX.toExcT List.mem_cons_self hz hfs) (by rfl) T.b_isinstance (by decide +kernel) (pa_cons (pv 0) (pa_cons (pe_gref (by rfl) (TX.g 13 "NoWords" rfl)) pa_nil))) pa_nil)))))))))), ?_⟩
    have k := TX.ko i hi
    refine ⟨_, rfl, i, hi, rfl, _, _, _, rfl, fun u z => z, k 0 (by decide), hx, _, rfl, i, hi, rfl, _, _, _, rfl, fun u z => z, k 1 (by decide), hx, _, rfl, i, hi, rfl, _, _, _, rfl, fun u z => z, k 2 (by decide), hx, (by show 3 ≤ sizeLine; decide), fun q0 n0 => ?_⟩
    obtain ⟨s0, e0⟩ := new_at (.lst [.bl (decide (i = 0)), .bl (decide (i = 1)), .bl (decide (i = 2))]) n0
    generalize upd H q0 (.lst [.bl (decide (i = 0)), .bl (decide (i = 1)), .bl (decide (i = 2))]) = H0 at s0 e0 ⊢
    have hx0 := hx.sm s0
    refine ⟨_, rfl, _, rfl, i, hi, rfl, _, _, _, rfl, fun u z => z, k 3 (by decide), hx0, _, rfl, i, hi, rfl, _, _, _, rfl, fun u z => z, k 4 (by decide), hx0, _, rfl, i, hi, rfl, _, _, _, rfl, fun u z => z, k 5 (by decide), hx0, (by show 3 ≤ sizeLine; decide), fun r1 m1 => ?_⟩
    obtain ⟨t1, f1⟩ := new_at (.lst [.bl (decide (i = 3)), .bl (decide (i = 4)), .bl (decide (i = 5))]) m1
    generalize upd H0 r1 (.lst [.bl (decide (i = 3)), .bl (decide (i = 4)), .bl (decide (i = 5))]) = G1 at t1 f1 ⊢
    refine ⟨q0, r1, _, _, rfl, rfl, t1 _ _ e0, f1, (by show 6 ≤ sizeLine; decide), fun q1 n1 => ?_⟩
    obtain ⟨u1, e1⟩ := new_at (.lst ([.bl (decide (i = 0)), .bl (decide (i = 1)), .bl (decide (i = 2))] ++ [.bl (decide (i = 3)), .bl (decide (i = 4)), .bl (decide (i = 5))])) n1
    generalize upd G1 q1 (.lst ([.bl (decide (i = 0)), .bl (decide (i = 1)), .bl (decide (i = 2))] ++ [.bl (decide (i = 3)), .bl (decide (i = 4)), .bl (decide (i = 5))])) = H1 at u1 e1 ⊢
    have s1 := s0.trans (t1.trans u1)
    have hx1 := hx.sm s1
    refine ⟨_, rfl, _, rfl, i, hi, rfl, _, _, _, rfl, fun u z => z, k 6 (by decide), hx1, _, rfl, i, hi, rfl, _, _, _, rfl, fun u z => z, k 7 (by decide), hx1, _, rfl, i, hi, rfl, _, _, _, rfl, fun u z => z, k 8 (by decide), hx1, (by show 3 ≤ sizeLine; decide), fun r2 m2 => ?_⟩
    obtain ⟨t2, f2⟩ := new_at (.lst [.bl (decide (i = 6)), .bl (decide (i = 7)), .bl (decide (i = 8))]) m2
    generalize upd H1 r2 (.lst [.bl (decide (i = 6)), .bl (decide (i = 7)), .bl (decide (i = 8))]) = G2 at t2 f2 ⊢
    refine ⟨q1, r2, _, _, rfl, rfl, t2 _ _ e1, f2, (by show 9 ≤ sizeLine; decide), fun q2 n2 => ?_⟩
    obtain ⟨u2, e2⟩ := new_at (.lst (([.bl (decide (i = 0)), .bl (decide (i = 1)), .bl (decide (i = 2))] ++ [.bl (decide (i = 3)), .bl (decide (i = 4)), .bl (decide (i = 5))]) ++ [.bl (decide (i = 6)), .bl (decide (i = 7)), .bl (decide (i = 8))])) n2
    generalize upd G2 q2 (.lst (([.bl (decide (i = 0)), .bl (decide (i = 1)), .bl (decide (i = 2))] ++ [.bl (decide (i = 3)), .bl (decide (i = 4)), .bl (decide (i = 5))]) ++ [.bl (decide (i = 6)), .bl (decide (i = 7)), .bl (decide (i = 8))])) = H2 at u2 e2 ⊢
    have s2 := s1.trans (t2.trans u2)
    have hx2 := hx.sm s2
    refine ⟨_, rfl, _, rfl, i, hi, rfl, _, _, _, rfl, fun u z => z, k 9 (by decide), hx2, _, rfl, i, hi, rfl, _, _, _, rfl, fun u z => z, k 14 (by decide), hx2, _, rfl, i, hi, rfl, _, _, _, rfl, fun u z => z, k 10 (by decide), hx2, (by show 3 ≤ sizeLine; decide), fun r3 m3 => ?_⟩
    obtain ⟨t3, f3⟩ := new_at (.lst [.bl (decide (i = 9)), .bl (decide (i = 14)), .bl (decide (i = 10))]) m3
    generalize upd H2 r3 (.lst [.bl (decide (i = 9)), .bl (decide (i = 14)), .bl (decide (i = 10))]) = G3 at t3 f3 ⊢
    refine ⟨q2, r3, _, _, rfl, rfl, t3 _ _ e2, f3, (by show 12 ≤ sizeLine; decide), fun q3 n3 => ?_⟩
    obtain ⟨u3, e3⟩ := new_at (.lst ((([.bl (decide (i = 0)), .bl (decide (i = 1)), .bl (decide (i = 2))] ++ [.bl (decide (i = 3)), .bl (decide (i = 4)), .bl (decide (i = 5))]) ++ [.bl (decide (i = 6)), .bl (decide (i = 7)), .bl (decide (i = 8))]) ++ [.bl (decide (i = 9)), .bl (decide (i = 14)), .bl (decide (i = 10))])) n3
    generalize upd G3 q3 (.lst ((([.bl (decide (i = 0)), .bl (decide (i = 1)), .bl (decide (i = 2))] ++ [.bl (decide (i = 3)), .bl (decide (i = 4)), .bl (decide (i = 5))]) ++ [.bl (decide (i = 6)), .bl (decide (i = 7)), .bl (decide (i = 8))]) ++ [.bl (decide (i = 9)), .bl (decide (i = 14)), .bl (decide (i = 10))])) = H3 at u3 e3 ⊢
    have s3 := s2.trans (t3.trans u3)
    have hx3 := hx.sm s3
    refine ⟨_, rfl, _, rfl, i, hi, rfl, _, _, _, rfl, fun u z => z, k 11 (by decide), hx3, _, rfl, i, hi, rfl, _, _, _, rfl, fun u z => z, k 15 (by decide), hx3, _, rfl, i, hi, rfl, _, _, _, rfl, fun u z => z, k 12 (by decide), hx3, (by show 3 ≤ sizeLine; decide), fun r4 m4 => ?_⟩
    obtain ⟨t4, f4⟩ := new_at (.lst [.bl (decide (i = 11)), .bl (decide (i = 15)), .bl (decide (i = 12))]) m4
    generalize upd H3 r4 (.lst [.bl (decide (i = 11)), .bl (decide (i = 15)), .bl (decide (i = 12))]) = G4 at t4 f4 ⊢
    refine ⟨q3, r4, _, _, rfl, rfl, t4 _ _ e3, f4, (by show 15 ≤ sizeLine; decide), fun q4 n4 => ?_⟩
    obtain ⟨u4, e4⟩ := new_at (.lst (((([.bl (decide (i = 0)), .bl (decide (i = 1)), .bl (decide (i = 2))] ++ [.bl (decide (i = 3)), .bl (decide (i = 4)), .bl (decide (i = 5))]) ++ [.bl (decide (i = 6)), .bl (decide (i = 7)), .bl (decide (i = 8))]) ++ [.bl (decide (i = 9)), .bl (decide (i = 14)), .bl (decide (i = 10))]) ++ [.bl (decide (i = 11)), .bl (decide (i = 15)), .bl (decide (i = 12))])) n4
    generalize upd G4 q4 (.lst (((([.bl (decide (i = 0)), .bl (decide (i = 1)), .bl (decide (i = 2))] ++ [.bl (decide (i = 3)), .bl (decide (i = 4)), .bl (decide (i = 5))]) ++ [.bl (decide (i = 6)), .bl (decide (i = 7)), .bl (decide (i = 8))]) ++ [.bl (decide (i = 9)), .bl (decide (i = 14)), .bl (decide (i = 10))]) ++ [.bl (decide (i = 11)), .bl (decide (i = 15)), .bl (decide (i = 12))])) = H4 at u4 e4 ⊢
    have s4 := s3.trans (t4.trans u4)
    have hx4 := hx.sm s4
    refine ⟨_, rfl, _, rfl, i, hi, rfl, _, _, _, rfl, fun u z => z, k 13 (by decide), hx4, (by show 1 ≤ sizeLine; decide), fun r5 m5 => ?_⟩
    obtain ⟨t5, f5⟩ := new_at (.lst [.bl (decide (i = 13))]) m5
    generalize upd H4 r5 (.lst [.bl (decide (i = 13))]) = G5 at t5 f5 ⊢
    refine ⟨q4, r5, _, _, rfl, rfl, t5 _ _ e4, f5, (by show 16 ≤ sizeLine; decide), fun q5 n5 => ?_⟩
    have s5 := s4.trans t5
    exact q _ q5 (s5.trans (same_upd n5)) (s5.free n5) upd_same
end
/-- what is wished of a refusal: its name is told -/
def ERef (c : Nat → Addr) (Q : VK) : XK := fun cls d H => ∃ i, i < 16 ∧ cls = .ref (c i) ∧ HasXd d H ∧ ∀ H', Same H H' → Q (.str (rfN i)) H'
/-- the call has to refuse -/
def TRef (c : Nat → Addr) : (XK → Hp → VK → Prop) → Hp → VK → Prop := fun tl H Q => tl (ERef c Q) H fun _ _ => False
section
variable {X : Cx}
theorem refused_mk {c : Nat → Addr} {LE g : Addr} {fd : FuncData} (Fm : Fun X.K "_law_refused" "_law_refused" s__law_refused g fd) (mm : X.mg "_law_refused" = some (.ref g)) (bm : Binds X.K fd ["_law_call_here"] []) (T : Txt X.K X.mg) (TX : ExcN X.K X.mg c LE)
    (DM : ClE X.prog X.w X.K X.mg X.base 1 "_law_marks" ["_law_error"] (spMrk c)) (hr : Room 3 X.A) : MetF X "_law_refused" "_law_call_here" (TRef c) := by
  obtain ⟨oc, od, kV, doc, pm, an, cdv, ct, osl, rfl, lk, hcd⟩ := Fm.ex
  refine ⟨g, _, _, _, kV, doc, pm, cdv, ct, oc, an, od, osl, _, mm, Fm.kp, lk, hcd, bm, sc__law_refused, rfl, .inl rfl, ?_⟩
  intro f c' s H Q tl act hc h
  have hrE : L2H.RoomH 1 ((X.A.deeper (envOfC "_law_refused" (defScope s__law_refused) s.heap.objs.size g cdv))) := L2H.roomH_of ((hr.mono (show 2 ≤ 3 by omega)).deeper _)
  refine ⟨_, pss_cons (ps_set (i := 1) sc__law_refused.nd rfl (Or.inl rfl) pe_non) (pss_keep (X := (cxOf C8.CX0 X.prog X.w X.K X.mg X.base _ "_law_refused" (defScope s__law_refused) g cdv X.A X.stack s H C8.E0).nox) (c := .ref LE) (i := 2)
      (tb := fun W D σ H => ∃ Ech : XK, (∀ cls d (σ' : L2.St) H', σ'.length = 5 → Ech cls d H' → W cls d σ' H') ∧ σ[0]? = some (some (.ref f)) ∧ H c' = some (LamX.CodeO c' (X.env.qual ++ "<lambda>")) ∧ tl Ech H fun v H1 => D.nx σ H1)
      rfl rfl sc__law_refused.nd rfl rfl ⟨rfl, by decide, .inl TX.gL⟩ (fun W pn xe tk => ?_) (fun a oe cls d pn hz hfs => (pss_one (ps_set (i := 1) sc__law_refused.nd rfl (Or.inl rfl) (pv 2)))) (fun a oe cls d hz hfs =>
        (pss_cons (ps_set (i := 3) sc__law_refused.nd rfl (Or.inl rfl) (pe_ownE DM ⟨hrE.dp, hrE.un⟩ List.mem_cons_self hz hfs (by rfl) (pa_cons (pv 1) pa_nil)))
      (pss_cons (ps_if (PW.pt (pw_or (pt_not (pt_val (pe_callB (call_isQ TX.toExcT List.mem_cons_self hz hfs) (by rfl) T.b_isinstance (by decide +kernel) (pa_cons (pv 1) (pa_cons (pe_bltn (v := .ty "ValueError") (by rfl) T.b_ValueError (by decide +kernel) rfl) pa_nil))))) (pw_or1 (pt_cmpR op_ne (pe_bmK (K := X.K) (r := rCntB X.K) PySem.F.plainAttrs_list PySem.F.slot_list_count PySem.F.type_list_count mt_bcount (pv 3) (pa_cons pe_bl pa_nil)) pe_int (nomark _))))) (pss_one (ps_ret pe_str)) pss_nil)
      (pss_cons (ps_set (i := 4) sc__law_refused.nd rfl (Or.inl rfl) (pe_lst (pa_cons pe_str (pa_cons pe_str (pa_cons pe_str (pa_cons pe_str (pa_cons pe_str (pa_cons pe_str (pa_cons pe_str (pa_cons pe_str (pa_cons pe_str (pa_cons pe_str pa_nil))))))))))))
      (pss_one (ps_ret (pe_ix (r := rIxL X.K) ix_list (pe_op op_cat (pv 4) (pe_lst (pa_cons pe_str (pa_cons pe_str (pa_cons pe_str (pa_cons pe_str (pa_cons pe_str (pa_cons pe_str pa_nil)))))))) (pe_bmK (K := X.K) (r := rIndex X.K) PySem.F.plainAttrs_list PySem.F.slot_list_index PySem.F.type_list_index mt_index (pv 3) (pa_cons pe_bl pa_nil)) (fun _ _ => rfl))))))))), ?_⟩
  · refine ⟨fun pins s' σ H' D I h' => ?_⟩
    obtain ⟨Ech, hW, h1, h2, h3⟩ := h'
    refine run_ex (X := (cxOf C8.CX0 X.prog X.w X.K X.mg X.base ["_law_call_here", "_law_error", "e", "_law_marks_here", "_law_names"] "_law_refused" (defScope s__law_refused) g cdv X.A X.stack s H C8.E0).tr pn xe) ⟨_, pss_one (ps_expr (act _ pn xe Ech _ _ (takes_len tk) (fun cls d σ' H' he hl => hW cls d σ' H' hl he))), ?_⟩ I
    exact ⟨h1, h2, h3⟩
  · refine ⟨ERef c Q, fun cls d σ' H' hl hE => ?_, rfl, hc, h⟩
    obtain ⟨i, hi, rfl, hx, hq⟩ := hE
    obtain ⟨x0, x1, x2, x3, x4, rfl⟩ : ∃ x0 x1 x2 x3 x4, σ' = [x0, x1, x2, x3, x4] := by
      match σ', hl with
      | [a, b, c, d, e], _ => exact ⟨a, b, c, d, e, rfl⟩
    obtain ⟨b1, b2, b3, b4⟩ := bitsM_facts i hi
    refine ⟨TX.ex i hi, fun a na => ?_⟩
    refine ⟨_, rfl, ?_⟩
    refine ⟨_, rfl, i, hi, rfl, rfl, hx, fun H1 p1 s1 n1 e1 => ?_⟩
    have hx1 := hx.sm s1
    refine ⟨_, rfl, i, hi, rfl, _, _, _, rfl, fun u z => z, TX.kv i hi, hx1, true, rfl, iteF ?_⟩
    refine ⟨_, rfl, .inl ⟨rfl, _, .inl (.inl e1)⟩, p1, bitsM i, rfl, rfl, .inl (.inl e1), ?_⟩
    rw [b1]
    refine ⟨rfl, _, rfl, iteF ?_⟩
    refine ⟨(by show 10 ≤ sizeLine; decide), fun p2 n2 => ?_⟩
    obtain ⟨s2, e2⟩ := new_at (.lst [.str "layer", .str "window", .str "sheet", .str "moment", .str "row", .str "number", .str "drawings", .str "unlike", .str "endless", .str "squeezed"]) n2
    generalize upd H1 p2 (.lst [.str "layer", .str "window", .str "sheet", .str "moment", .str "row", .str "number", .str "drawings", .str "unlike", .str "endless", .str "squeezed"]) = H2 at s2 e2 ⊢
    refine ⟨_, rfl, (by show 6 ≤ sizeLine; decide), fun p3 n3 => ?_⟩
    obtain ⟨s3, e3⟩ := new_at (.lst [.str "many", .str "paper", .str "deed", .str "leaned", .str "text", .str "words"]) n3
    generalize upd H2 p3 (.lst [.str "many", .str "paper", .str "deed", .str "leaned", .str "text", .str "words"]) = H3 at s3 e3 ⊢
    refine ⟨p2, p3, _, _, rfl, rfl, s3 _ _ e2, e3, (by show 16 ≤ sizeLine; decide), fun p4 n4 => ?_⟩
    obtain ⟨s4, e4⟩ := new_at (.lst (nmsM.map V.str)) n4
    have s14 := (s1.trans s2).trans (s3.trans s4)
    have e14 := s4 _ _ (s3 _ _ (s2 _ _ e1))
    refine ⟨_, rfl, .inl ⟨rfl, _, .inl (.inl e14)⟩, p1, _, .bl true, posM i, .bl true, rfl, rfl, .inl (.inl e14), rfl, bl_flat _, ?_, rfl, fun m z hm hz => ?_, ?_⟩
    · rw [List.getElem?_map, b2]
      rfl
    · rw [List.getElem?_map, b3 m hm] at hz
      cases hz
      rfl
    · exact ⟨p4, _, _, _, rfl, rfl, .inl (.inl e4), nmsM_at i hi, hq _ s14⟩
end

section
variable {P : Program} {w : World} {K : PySem.W.Frag} {mg : Str → Option Value} {base : Heap}
theorem isW_of {d : PyData} {l m : Int} (h : isB d = true ∨ isI d = false) : isW d l m = false := by
  cases d <;> first | rfl | (rcases h with h | h <;> cases h)
def isWf (d : PyData) (l : Int) : Bool := match d with
  | .int n => decide (l ≤ n)
  | _ => false
theorem isWf_of {d : PyData} {l : Int} (h : isB d = true ∨ isI d = false) : isWf d l = false := by
  cases d <;> first | rfl | (rcases h with h | h <;> cases h)
theorem isWf_int {d : PyData} {l : Int} (h : isWf d l = true) : ∃ n, d = .int n ∧ l ≤ n := by
  cases d with
  | int n => exact ⟨n, rfl, of_decide_eq_true h⟩
  | _ => cases h
theorem isWf_no {d : PyData} {l m : Int} (h : isWf d l = false) : isW d l m = false := by
  cases d with
  | int n =>
    have e : ¬ l ≤ n := of_decide_eq_false h
    simp [isW, e]
  | _ => rfl
def sp_is_whole_from (K : PySem.W.Frag) : Sp := fun vs H Q _ => ∃ (fx : Hp) (b : Bool) (v : V) (d : PyData) (l : Int), vs = [v, .int l] ∧ Dg K fx H b v d ∧ Q (.bl (isWf d l)) H
theorem ok_is_whole_from {f : Addr} {fd : FuncData} (F : Fun K "is_whole_from" "is_whole_from" s_is_whole_from f fd) (T : Txt K mg) : FnOk P w K mg base CX0 1 f fd ["thing", "least"] (sp_is_whole_from K) := by
  refine F.ok sc_is_whole_from (fun vs H Q E h => ?_) (fun cdv A outer s H vs Q E hr h => ?_)
  · obtain ⟨fx, b, v, d, l, rfl, q⟩ := h
    rfl
  · obtain ⟨fx, b, v, d, l, rfl, hd, q⟩ := h
    refine ⟨_, (pss_cons (ps_if (PW.pt (pw_or (pt_val (pe_callB call_isi (by rfl) T.b_isinstance (by decide +kernel) (pa_cons (pv 0) (pa_cons (pe_bltn (v := .ty "bool") (by rfl) T.b_bool (by decide +kernel) rfl) pa_nil)))) (pw_or1 (pt_not (pt_val (pe_callB call_isi (by rfl) T.b_isinstance (by decide +kernel) (pa_cons (pv 0) (pa_cons (pe_bltn (v := .ty "int") (by rfl) T.b_int (by decide +kernel) rfl) pa_nil)))))))) (pss_one (ps_ret pe_bl)) pss_nil)
      (pss_one (ps_ret (pe_cmpR op_le (pv 1) (pv 0) (nomark _))))), ?_⟩
    refine ⟨_, rfl, _, _, _, _, _, rfl, .ty _, hd.ty, kit_ty (kB d), _, rfl, ite2 (fun e => ?_) (fun e => ?_)⟩
    · rw [isWf_of (.inl e)] at q
      exact iteT q
    · refine ⟨_, rfl, _, _, _, _, _, rfl, .ty _, hd.ty, kit_ty (kI d), _, rfl, ?_⟩
      cases hi : isI d with
      | false =>
        rw [isWf_of (.inr hi)] at q
        exact iteT q
      | true =>
        refine iteF ?_
        cases hd with
        | bl x => exact absurd rfl e
        | int n => exact ⟨_, rfl, _, rfl, l, n, rfl, rfl, q⟩
        | non => cases hi
        | str x => cases hi
        | tup h q => cases hi
        | lst n h q => cases hi
        | lstF n m h q => cases hi
        | dic0 n h => cases hi
        | dic1 n h => cases hi
theorem dg_int {K : PySem.W.Frag} {fx H : Hp} {b : Bool} {v : V} {n : Int} (h : Dg K fx H b v (.int n)) : v = .int n := by
  cases h
  rfl
def sp_is_whole (K : PySem.W.Frag) : Sp := fun vs H Q _ => ∃ (fx : Hp) (b : Bool) (v : V) (d : PyData) (l m : Int), vs = [v, .int l, .int m] ∧ Dg K fx H b v d ∧ Q (.bl (isW d l m)) H
theorem ok_is_whole {f : Addr} {fd : FuncData} (F : Fun K "is_whole" "is_whole" s_is_whole f fd) (T : Txt K mg) (D_is_whole_from : Cl P w K mg base 1 "is_whole_from" ["thing", "least"] (sp_is_whole_from K)) : FnOk P w K mg base CX0 2 f fd ["thing", "least", "most"] (sp_is_whole K) := by
  refine F.ok sc_is_whole (fun vs H Q E h => ?_) (fun cdv A outer s H vs Q E hr h => ?_)
  · obtain ⟨fx, b, v, d, l, m, rfl, q⟩ := h
    rfl
  · obtain ⟨fx, b, v, d, l, m, rfl, hd, q⟩ := h
    refine ⟨_, (pss_one (ps_ret (pe_and (pe_own D_is_whole_from (hr.mono (by omega)) (by rfl) (pa_cons (pv 0) (pa_cons (pv 1) pa_nil))) (pe_one (pe_cmpR op_le (pv 0) (pv 2) (nomark _)))))), ?_⟩
    refine ⟨_, rfl, _, rfl, fx, b, v, d, l, rfl, hd, _, rfl, ?_⟩
    cases e : isWf d l with
    | false =>
      rw [isWf_no e] at q
      exact iteF q
    | true =>
      obtain ⟨n, rfl, e1⟩ := isWf_int e
      have ev := dg_int hd
      subst ev
      refine iteT ⟨_, rfl, _, rfl, n, m, rfl, rfl, ?_⟩
      rw [show isW (.int n) l m = decide (n ≤ m) by simp [isW, e1]] at q
      exact q
def sp_is_tuple (K : PySem.W.Frag) : Sp := fun vs H Q _ => ∃ (fx : Hp) (b : Bool) (v : V) (d : PyData) (l m : Int), vs = [v, .int l, .int m] ∧ Dg K fx H b v d ∧ Q (.bl (isTup d l m)) H
theorem ok_is_tuple {f : Addr} {fd : FuncData} (F : Fun K "is_tuple" "is_tuple" s_is_tuple f fd) (T : Txt K mg) : FnOk P w K mg base CX0 1 f fd ["thing", "least", "most"] (sp_is_tuple K) := by
  refine F.ok sc_is_tuple (fun vs H Q E h => ?_) (fun cdv A outer s H vs Q E hr h => ?_)
  · obtain ⟨fx, b, v, d, l, m, rfl, q⟩ := h
    rfl
  · obtain ⟨fx, b, v, d, l, m, rfl, hd, q⟩ := h
    refine ⟨_, (pss_one (ps_ret (pe_and (pe_callB call_isi (by rfl) T.b_isinstance (by decide +kernel) (pa_cons (pv 0) (pa_cons (pe_bltn (v := .ty "tuple") (by rfl) T.b_tuple (by decide +kernel) rfl) pa_nil))) (pe_one (pe_chain op_le op_le (pv 1) (pe_callB call_len_seq (by rfl) T.b_len (by decide +kernel) (pa_cons (pv 0) pa_nil)) (pv 2)))))), ?_⟩
    refine ⟨_, rfl, _, _, _, _, _, rfl, .ty _, hd.ty, kit_ty (kT d), _, rfl, ?_⟩
    cases hd with
    | @tup b a xs ds ha hall =>
      have hl := DgAll.len hall
      refine iteT ⟨_, rfl, _, rfl, a, xs, rfl, .inr ha, l, _, rfl, rfl, _, rfl, ite2 (fun e => ?_) (fun e => ?_)⟩
      · refine ⟨_, rfl, _, m, rfl, rfl, ?_⟩
        have e1 : l ≤ (xs.length : Int) := of_decide_eq_true e
        rw [show isTup (.tuple ds) l m = decide ((xs.length : Int) ≤ m) by simp [isTup, ← hl, e1]] at q
        exact q
      · have e1 : ¬ l ≤ (xs.length : Int) := fun z => e (decide_eq_true z)
        rw [show isTup (.tuple ds) l m = false by simp [isTup, ← hl, e1]] at q
        exact q
    | non => exact iteF q
    | bl x => exact iteF q
    | int i => exact iteF q
    | str x => exact iteF q
    | lst n h q' => exact iteF q
    | lstF n m h q' => exact iteF q
    | dic0 n h => exact iteF q
    | dic1 n h => exact iteF q
theorem tup_of {K : PySem.W.Frag} {fx : Hp} {H : Hp} {b : Bool} {v : V} {d : PyData} {l m : Int} (h : Dg K fx H b v d) (e : isTup d l m = true) : ∃ a xs ds, v = .ref a ∧ d = .tuple ds ∧ SqT K H a xs ∧ DgAll K fx H b xs ds ∧ l ≤ (ds.length : Int) ∧ (ds.length : Int) ≤ m := by
  cases h with
  | @tup b a xs ds ha hall =>
    have := of_decide_eq_true (show decide (l ≤ (ds.length : Int) ∧ (ds.length : Int) ≤ m) = true from e)
    exact ⟨a, xs, ds, rfl, rfl, ha, hall, this.1, this.2⟩
  | non => cases e
  | bl x => cases e
  | int i => cases e
  | str x => cases e
  | lst n h q' => cases e
  | lstF n m h q' => cases e
  | dic0 n h => cases e
  | dic1 n h => cases e
theorem two_of {α : Type} {xs : List α} (h : xs.length = 2) : ∃ a b, xs = [a, b] := by
  match xs, h with
  | [a, b], _ => exact ⟨a, b, rfl⟩
theorem isRow_no {d : PyData} (h : isTup d 2 2 = false) : isRowD d = false := by
  unfold isRowD
  split
  · simp [isTup] at h
  · rfl
def sp_is_drawing (K : PySem.W.Frag) : Sp := fun vs H Q _ => ∃ (fx : Hp) (b : Bool) (v : V) (d : PyData), vs = [v] ∧ Dg K fx H b v d ∧ Q (.bl (isW d 0 9)) H
theorem ok_is_drawing {f : Addr} {fd : FuncData} (F : Fun K "is_drawing" "is_drawing" s_is_drawing f fd) (T : Txt K mg) (D_is_whole : Cl P w K mg base 2 "is_whole" ["thing", "least", "most"] (sp_is_whole K)) : FnOk P w K mg base CX0 3 f fd ["thing"] (sp_is_drawing K) := by
  refine F.ok sc_is_drawing (fun vs H Q E h => ?_) (fun cdv A outer s H vs Q E hr h => ?_)
  · obtain ⟨fx, b, v, d, rfl, q⟩ := h
    rfl
  · obtain ⟨fx, b, v, d, rfl, hd, q⟩ := h
    refine ⟨_, (pss_one (ps_ret (pe_own D_is_whole (hr.mono (by omega)) (by rfl) (pa_cons (pv 0) (pa_cons pe_int (pa_cons (pe_gint (by rfl) T.c_MOST_DRAWING) pa_nil)))))), ?_⟩
    exact ⟨_, rfl, fx, b, v, d, 0, 9, rfl, hd, q⟩
def sp_is_hold (K : PySem.W.Frag) : Sp := fun vs H Q _ => ∃ (fx : Hp) (b : Bool) (v : V) (d : PyData), vs = [v] ∧ Dg K fx H b v d ∧ Q (.bl (isW d 1 24)) H
theorem ok_is_hold {f : Addr} {fd : FuncData} (F : Fun K "is_hold" "is_hold" s_is_hold f fd) (T : Txt K mg) (D_is_whole : Cl P w K mg base 2 "is_whole" ["thing", "least", "most"] (sp_is_whole K)) : FnOk P w K mg base CX0 3 f fd ["thing"] (sp_is_hold K) := by
  refine F.ok sc_is_hold (fun vs H Q E h => ?_) (fun cdv A outer s H vs Q E hr h => ?_)
  · obtain ⟨fx, b, v, d, rfl, q⟩ := h
    rfl
  · obtain ⟨fx, b, v, d, rfl, hd, q⟩ := h
    refine ⟨_, (pss_one (ps_ret (pe_own D_is_whole (hr.mono (by omega)) (by rfl) (pa_cons (pv 0) (pa_cons pe_int (pa_cons (pe_gint (by rfl) T.c_MOST_HOLD) pa_nil)))))), ?_⟩
    exact ⟨_, rfl, fx, b, v, d, 1, 24, rfl, hd, q⟩
def sp_is_row (K : PySem.W.Frag) : Sp := fun vs H Q _ => ∃ (fx : Hp) (b : Bool) (v : V) (d : PyData), vs = [v] ∧ Dg K fx H b v d ∧ Q (.bl (isRowD d)) H
theorem ok_is_row {f : Addr} {fd : FuncData} (F : Fun K "is_row" "is_row" s_is_row f fd) (T : Txt K mg) (D_is_tuple : Cl P w K mg base 1 "is_tuple" ["thing", "least", "most"] (sp_is_tuple K)) (D_is_drawing : Cl P w K mg base 3 "is_drawing" ["thing"] (sp_is_drawing K)) (D_is_hold : Cl P w K mg base 3 "is_hold" ["thing"] (sp_is_hold K)) : FnOk P w K mg base CX0 4 f fd ["thing"] (sp_is_row K) := by
  refine F.ok sc_is_row (fun vs H Q E h => ?_) (fun cdv A outer s H vs Q E hr h => ?_)
  · obtain ⟨fx, b, v, d, rfl, q⟩ := h
    rfl
  · obtain ⟨fx, b, v, d, rfl, hd, q⟩ := h
    refine ⟨_, (pss_cons (ps_if (pt_not (pt_val (pe_own D_is_tuple (hr.mono (by omega)) (by rfl) (pa_cons (pv 0) (pa_cons pe_int (pa_cons pe_int pa_nil)))))) (pss_one (ps_ret pe_bl)) pss_nil)
      (pss_cons (ps_asg (pv 0) (pg_tup (by rfl) (pgs_cons (pg_name (i := 1) sc_is_row.nd rfl (Or.inl rfl)) (pgs_cons (pg_name (i := 2) sc_is_row.nd rfl (Or.inl rfl)) pgs_nil))))
      (pss_one (ps_ret (pe_and (pe_own D_is_drawing (hr.mono (by omega)) (by rfl) (pa_cons (pv 1) pa_nil)) (pe_one (pe_own D_is_hold (hr.mono (by omega)) (by rfl) (pa_cons (pv 2) pa_nil)))))))), ?_⟩
    refine ⟨_, rfl, fx, b, v, d, 2, 2, rfl, hd, _, rfl, ?_⟩
    cases et : isTup d 2 2 with
    | false =>
      rw [isRow_no et] at q
      exact iteT q
    | true =>
      obtain ⟨a, xs, ds, rfl, rfl, ha, hall, l1, l2⟩ := tup_of hd et
      obtain ⟨d1, d2, rfl⟩ := two_of (show ds.length = 2 by omega)
      cases hall with | @cons _ v1 _ _ _ h1 hr =>
      cases hr with | @cons _ v2 _ _ _ h2 hn =>
      cases hn
      refine iteF ?_
      refine ⟨_, rfl, a, _, rfl, ha, rfl, _, _, rfl, _, _, rfl, rfl, ?_⟩
      refine ⟨_, rfl, fx, b, v1, d1, rfl, h1, _, rfl, ?_⟩
      cases e1 : isW d1 0 9 with
      | false =>
        rw [show isRowD (.tuple [d1, d2]) = false by simp [isRowD, e1]] at q
        exact iteF q
      | true =>
        refine iteT ⟨_, rfl, fx, b, v2, d2, rfl, h2, ?_⟩
        rw [show isRowD (.tuple [d1, d2]) = isW d2 1 24 by simp [isRowD, e1]] at q
        exact q
def sp_is_layer (K : PySem.W.Frag) : Sp := fun vs H Q _ => ∃ (fx : Hp) (b : Bool) (v : V) (d : PyData), vs = [v] ∧ Dg K fx H b v d ∧ ∀ H', Same H H' → Q (.bl (isLayD d)) H'
theorem isLay_no {d : PyData} (h : isTup d 2 2 = false) : isLayD d = false := by
  unfold isLayD
  split
  · simp [isTup] at h
  · rfl
theorem isLay_no2 {r b : PyData} (h : isTup r 0 8 = false) : isLayD (.tuple [r, b]) = false := by
  unfold isLayD
  split
  · rename_i rs b' e
    cases e
    have : ¬ rs.length ≤ 8 := by
      intro z
      have : isTup (.tuple rs) 0 8 = true := decide_eq_true ⟨by omega, by omega⟩
      rw [this] at h
      cases h
    simp [this]
  · rfl
theorem ok_is_layer {f : Addr} {fd : FuncData} (F : Fun K "is_layer" "is_layer" s_is_layer f fd) (T : Txt K mg) (D_is_tuple : Cl P w K mg base 1 "is_tuple" ["thing", "least", "most"] (sp_is_tuple K)) (D_is_row : Cl P w K mg base 4 "is_row" ["thing"] (sp_is_row K)) (D_is_whole : Cl P w K mg base 2 "is_whole" ["thing", "least", "most"] (sp_is_whole K)) : FnOk P w K mg base CX0 5 f fd ["thing"] (sp_is_layer K) := by
  refine F.ok sc_is_layer (fun vs H Q E h => ?_) (fun cdv A outer s H vs Q E hr h => ?_)
  · obtain ⟨fx, b, v, d, rfl, q⟩ := h
    rfl
  · obtain ⟨fx, b, v, d, rfl, hd, q⟩ := h
    refine ⟨_, (pss_cons (ps_if (pt_not (pt_val (pe_own D_is_tuple (hr.mono (by omega)) (by rfl) (pa_cons (pv 0) (pa_cons pe_int (pa_cons pe_int pa_nil)))))) (pss_one (ps_ret pe_bl)) pss_nil)
      (pss_cons (ps_asg (pv 0) (pg_tup (by rfl) (pgs_cons (pg_name (i := 1) sc_is_layer.nd rfl (Or.inl rfl)) (pgs_cons (pg_name (i := 2) sc_is_layer.nd rfl (Or.inl rfl)) pgs_nil))))
      (pss_cons (ps_if (PW.pt (pw_or (pt_not (pt_val (pe_own D_is_tuple (hr.mono (by omega)) (by rfl) (pa_cons (pv 1) (pa_cons pe_int (pa_cons (pe_gint (by rfl) T.c_MOST_ROWS) pa_nil)))))) (pw_or1 (pt_not (pt_val (pe_callB (cr_all rfl) (by rfl) T.b_all (by decide +kernel) (pa_cons (pe_lc (own := [("row", 3)]) (g := (gName 3)) (tt := tYes) (by rfl) sc_is_layer.nd (pi_tup (pv 1)) (blkOk_by (own := [("row", 3)]) (N := ["thing", "rows", "back", "row"]) (sc := defScope s_is_layer) (by decide +kernel)) (fun _ _ _ _ _ => (pg_name (i := 3) sc_is_layer.nd rfl (Or.inl rfl))) (fun _ _ _ _ _ => pts_nil) (fun _ _ _ _ _ => (pe_own D_is_row (hr.mono (by omega)) (by rfl) (pa_cons (pv 3) pa_nil)))) pa_nil))))))) (pss_one (ps_ret pe_bl)) pss_nil)
      (pss_one (ps_ret (pe_or (pe_cmpR op_isN (pv 2) pe_non (nomark _)) (pe_one (pe_own D_is_whole (hr.mono (by omega)) (by rfl) (pa_cons (pv 2) (pa_cons pe_int (pa_cons (pe_op op_sub (pe_callB call_len_seq (by rfl) T.b_len (by decide +kernel) (pa_cons (pv 1) pa_nil)) pe_int) pa_nil))))))))))), ?_⟩
    refine ⟨_, rfl, fx, b, v, d, 2, 2, rfl, hd, _, rfl, ?_⟩
    cases et : isTup d 2 2 with
    | false =>
      rw [isLay_no et] at q
      exact iteT (q _ (Same.refl _))
    | true =>
      obtain ⟨a, xs, ds, rfl, rfl, ha, hall, l1, l2⟩ := tup_of hd et
      obtain ⟨d1, d2, rfl⟩ := two_of (show ds.length = 2 by omega)
      cases hall with | @cons _ v1 _ _ _ h1 hr =>
      cases hr with | @cons _ v2 _ _ _ h2 hn =>
      cases hn
      refine iteF ?_
      refine ⟨_, rfl, a, _, rfl, ha, rfl, _, _, rfl, _, _, rfl, rfl, ?_⟩
      refine ⟨_, rfl, fx, b, v1, d1, 0, 8, rfl, h1, _, rfl, ?_⟩
      cases e8 : isTup d1 0 8 with
      | false =>
        rw [isLay_no2 e8] at q
        exact iteT (iteT (q _ (Same.refl _)))
      | true =>
        obtain ⟨pr, vs, rs, rfl, rfl, hq, pd, _, l8⟩ := tup_of h1 e8
        have hl := DgAll.len pd
        refine iteF ?_
        refine ⟨_, rfl, pr, rfl, ⟨_, hq⟩, fun D hD => ?_⟩
        refine lcmap_tup ((rs.map isRowD).map V.bl) (by simp [hl]) (by omega) hq hD (fun i x y H2 R Z hx hy s2 hR => ?_) (fun H2 s2 hL => ?_)
        · obtain ⟨r, hr1, hrow⟩ := DgAll.at pd hx
          have ey : y = .bl (isRowD r) := by
            rw [List.map_map, List.getElem?_map, hr1] at hy
            exact (Option.some.inj hy).symm
          subst ey
          exact ⟨rfl, yes_ok ⟨_, rfl, fx, b, x, r, rfl, hrow.sm s2, hR _ (Same.refl _)⟩⟩
        · refine ⟨D, _, rfl, .inl (.inl hL), _, rfl, ?_⟩
          have hdef : isLayD (.tuple [.tuple rs, d2]) = ((rs.map isRowD).all id && bkOk d2 ((rs.length : Int) - 1)) := by
            have z : decide (rs.length ≤ 8) = true := decide_eq_true (by omega)
            show (decide (rs.length ≤ 8) && rs.all isRowD && bkOk d2 ((rs.length : Int) - 1)) = _
            rw [z, List.all_map]
            rfl
          cases ea : (rs.map isRowD).all id with
          | false =>
            rw [ea] at hdef
            rw [show isLayD (.tuple [.tuple rs, d2]) = false from hdef] at q
            exact iteT (q _ s2)
          | true =>
            rw [ea, Bool.true_and] at hdef
            refine iteF ?_
            refine ⟨_, rfl, rfl, _, rfl, ?_⟩
            cases h2 with
            | non =>
              rw [hdef] at q
              exact ite2 (fun _ => q _ s2) (fun e => absurd (decide_eq_true rfl) e)
            | bl x =>
              rw [hdef] at q
              exact ite2 (fun e => nomatch (of_decide_eq_true e)) (fun _ => ⟨_, rfl, _, rfl, pr, vs, rfl, .inr (Same.sqT s2 hq), _, _, rfl, rfl, fx, b, _, _, 0, _, rfl, .bl x, q _ s2⟩)
            | int n =>
              rw [hdef, ← hl] at q
              exact ite2 (fun e => nomatch (of_decide_eq_true e)) (fun _ => ⟨_, rfl, _, rfl, pr, vs, rfl, .inr (Same.sqT s2 hq), _, _, rfl, rfl, fx, b, _, _, 0, _, rfl, .int n, q _ s2⟩)
            | str x =>
              rw [hdef] at q
              exact ite2 (fun e => nomatch (of_decide_eq_true e)) (fun _ => ⟨_, rfl, _, rfl, pr, vs, rfl, .inr (Same.sqT s2 hq), _, _, rfl, rfl, fx, b, _, _, 0, _, rfl, .str x, q _ s2⟩)
            | @tup _ a' xs' ds' h' q' =>
              rw [hdef] at q
              exact ite2 (fun e => nomatch (of_decide_eq_true e)) (fun _ => ⟨_, rfl, _, rfl, pr, vs, rfl, .inr (Same.sqT s2 hq), _, _, rfl, rfl, fx, b, _, _, 0, _, rfl, (Dg.tup h' q').sm s2, q _ s2⟩)
            | @lst a' xs' ds' n' h' q' =>
              rw [hdef] at q
              exact ite2 (fun e => nomatch (of_decide_eq_true e)) (fun _ => ⟨_, rfl, _, rfl, pr, vs, rfl, .inr (Same.sqT s2 hq), _, _, rfl, rfl, fx, true, _, _, 0, _, rfl, (Dg.lst n' h' q').sm s2, q _ s2⟩)
            | @lstF a' xs' ds' n' m' h' q' =>
              rw [hdef] at q
              exact ite2 (fun e => nomatch (of_decide_eq_true e)) (fun _ => ⟨_, rfl, _, rfl, pr, vs, rfl, .inr (Same.sqT s2 hq), _, _, rfl, rfl, fx, false, _, _, 0, _, rfl, (Dg.lstF n' m' h' q').sm s2, q _ s2⟩)
            | @dic0 a' n' h' =>
              rw [hdef] at q
              exact ite2 (fun e => nomatch (of_decide_eq_true e)) (fun _ => ⟨_, rfl, _, rfl, pr, vs, rfl, .inr (Same.sqT s2 hq), _, _, rfl, rfl, fx, false, _, _, 0, _, rfl, (Dg.dic0 n' h').sm s2, q _ s2⟩)
            | @dic1 a' k' i' n' h' =>
              rw [hdef] at q
              exact ite2 (fun e => nomatch (of_decide_eq_true e)) (fun _ => ⟨_, rfl, _, rfl, pr, vs, rfl, .inr (Same.sqT s2 hq), _, _, rfl, rfl, fx, false, _, _, 0, _, rfl, (Dg.dic1 n' h').sm s2, q _ s2⟩)
end

section
variable {P : Program} {w : World} {K : PySem.W.Frag} {mg : Str → Option Value} {base : Heap}
def sp_is_way (K : PySem.W.Frag) : Sp := fun vs H Q _ => ∃ (fx : Hp) (b : Bool) (v : V) (d : PyData), vs = [v] ∧ Dg K fx H b v d ∧ Q (.bl (isW d (-20) 20)) H
theorem ok_is_way {f : Addr} {fd : FuncData} (F : Fun K "is_way" "is_way" s_is_way f fd) (T : Txt K mg) (D_is_whole : Cl P w K mg base 2 "is_whole" ["thing", "least", "most"] (sp_is_whole K)) : FnOk P w K mg base CX0 3 f fd ["thing"] (sp_is_way K) := by
  refine F.ok sc_is_way (fun vs H Q E h => ?_) (fun cdv A outer s H vs Q E hr h => ?_)
  · obtain ⟨fx, b, v, d, rfl, q⟩ := h
    rfl
  · obtain ⟨fx, b, v, d, rfl, hd, q⟩ := h
    refine ⟨_, (pss_one (ps_ret (pe_own D_is_whole (hr.mono (by omega)) (by rfl) (pa_cons (pv 0) (pa_cons (pe_un un_neg (pe_gint (by rfl) T.c_MOST_WAY)) (pa_cons (pe_gint (by rfl) T.c_MOST_WAY) pa_nil)))))), ?_⟩
    exact ⟨_, rfl, 20, rfl, fx, b, v, d, -20, 20, rfl, hd, q⟩
def sp_is_many (K : PySem.W.Frag) : Sp := fun vs H Q _ => ∃ (fx : Hp) (b : Bool) (v : V) (d : PyData), vs = [v] ∧ Dg K fx H b v d ∧ Q (.bl (isW d 0 24)) H
theorem ok_is_many {f : Addr} {fd : FuncData} (F : Fun K "is_many" "is_many" s_is_many f fd) (T : Txt K mg) (D_is_whole : Cl P w K mg base 2 "is_whole" ["thing", "least", "most"] (sp_is_whole K)) : FnOk P w K mg base CX0 3 f fd ["thing"] (sp_is_many K) := by
  refine F.ok sc_is_many (fun vs H Q E h => ?_) (fun cdv A outer s H vs Q E hr h => ?_)
  · obtain ⟨fx, b, v, d, rfl, q⟩ := h
    rfl
  · obtain ⟨fx, b, v, d, rfl, hd, q⟩ := h
    refine ⟨_, (pss_one (ps_ret (pe_own D_is_whole (hr.mono (by omega)) (by rfl) (pa_cons (pv 0) (pa_cons pe_int (pa_cons (pe_gint (by rfl) T.c_MOST_MANY) pa_nil)))))), ?_⟩
    exact ⟨_, rfl, fx, b, v, d, 0, 24, rfl, hd, q⟩
def sp_is_move (K : PySem.W.Frag) : Sp := fun vs H Q _ => ∃ (fx : Hp) (b : Bool) (v : V) (d : PyData), vs = [v] ∧ Dg K fx H b v d ∧ Q (.bl (isMoveD d)) H
theorem ok_is_move {f : Addr} {fd : FuncData} (F : Fun K "is_move" "is_move" s_is_move f fd) (T : Txt K mg) (D_is_tuple : Cl P w K mg base 1 "is_tuple" ["thing", "least", "most"] (sp_is_tuple K)) (D_is_way : Cl P w K mg base 3 "is_way" ["thing"] (sp_is_way K)) (D_is_many : Cl P w K mg base 3 "is_many" ["thing"] (sp_is_many K)) : FnOk P w K mg base CX0 4 f fd ["thing"] (sp_is_move K) := by
  refine F.ok sc_is_move (fun vs H Q E h => ?_) (fun cdv A outer s H vs Q E hr h => ?_)
  · obtain ⟨fx, b, v, d, rfl, _⟩ := h
    rfl
  · obtain ⟨fx, b, v, d, rfl, hd, q⟩ := h
    refine ⟨_, (pss_cons (ps_if (pt_not (pt_val (pe_own D_is_tuple (hr.mono (by omega)) (by rfl) (pa_cons (pv 0) (pa_cons pe_int (pa_cons pe_int pa_nil)))))) (pss_one (ps_ret pe_bl)) pss_nil)
      (pss_cons (ps_asg (pv 0) (pg_tup (by rfl) (pgs_cons (pg_name (i := 1) sc_is_move.nd rfl (Or.inl rfl)) (pgs_cons (pg_name (i := 2) sc_is_move.nd rfl (Or.inl rfl)) (pgs_cons (pg_name (i := 3) sc_is_move.nd rfl (Or.inl rfl)) pgs_nil)))))
      (pss_one (ps_ret (pe_and (pe_own D_is_way (hr.mono (by omega)) (by rfl) (pa_cons (pv 1) pa_nil)) (pe_and (pe_own D_is_way (hr.mono (by omega)) (by rfl) (pa_cons (pv 2) pa_nil)) (pe_one (pe_own D_is_many (hr.mono (by omega)) (by rfl) (pa_cons (pv 3) pa_nil))))))))), ?_⟩
    refine ⟨_, rfl, fx, b, v, d, 3, 3, rfl, hd, _, rfl, ?_⟩
    cases et : isTup d 3 3 with
    | false =>
      rw [mv_no et] at q
      exact iteT q
    | true =>
      obtain ⟨a, xs, ds, rfl, rfl, ha, hall, l1, l2⟩ := tup_of hd et
      obtain ⟨d1, d2, d3, rfl⟩ := three_of (show ds.length = 3 by omega)
      cases hall with | @cons _ v1 _ _ _ h1 hr =>
      cases hr with | @cons _ v2 _ _ _ h2 hr =>
      cases hr with | @cons _ v3 _ _ _ h3 hn =>
      cases hn
      have q' : Q (.bl ((isW d1 (-20) 20 && isW d2 (-20) 20) && isW d3 0 24)) H := q
      refine iteF ?_
      refine ⟨_, rfl, a, _, rfl, ha, rfl, _, _, rfl, _, _, rfl, _, _, rfl, rfl, ?_⟩
      refine ⟨_, rfl, fx, b, v1, d1, rfl, h1, _, rfl, ?_⟩
      cases e1 : isW d1 (-20) 20 with
      | false =>
        rw [e1] at q'
        exact iteF q'
      | true =>
        rw [e1, Bool.true_and] at q'
        refine iteT ⟨_, rfl, fx, b, v2, d2, rfl, h2, _, rfl, ?_⟩
        cases e2 : isW d2 (-20) 20 with
        | false =>
          rw [e2] at q'
          exact iteF q'
        | true =>
          rw [e2, Bool.true_and] at q'
          exact iteT ⟨_, rfl, fx, b, v3, d3, rfl, h3, q'⟩
def sp_is_window (K : PySem.W.Frag) : Sp := fun vs H Q _ => ∃ (fx : Hp) (b : Bool) (v : V) (d : PyData), vs = [v] ∧ Dg K fx H b v d ∧ ∀ H', Same H H' → Q (.bl (isWinD d)) H'
theorem ok_is_window {f : Addr} {fd : FuncData} (F : Fun K "is_window" "is_window" s_is_window f fd) (T : Txt K mg) (D_is_tuple : Cl P w K mg base 1 "is_tuple" ["thing", "least", "most"] (sp_is_tuple K)) (D_is_way : Cl P w K mg base 3 "is_way" ["thing"] (sp_is_way K)) (D_is_move : Cl P w K mg base 4 "is_move" ["thing"] (sp_is_move K)) : FnOk P w K mg base CX0 5 f fd ["thing"] (sp_is_window K) := by
  refine F.ok sc_is_window (fun vs H Q E h => ?_) (fun cdv A outer s H vs Q E hr h => ?_)
  · obtain ⟨fx, b, v, d, rfl, _⟩ := h
    rfl
  · obtain ⟨fx, b, v, d, rfl, hd, q⟩ := h
    refine ⟨_, (pss_cons (ps_if (pt_not (pt_val (pe_own D_is_tuple (hr.mono (by omega)) (by rfl) (pa_cons (pv 0) (pa_cons pe_int (pa_cons pe_int pa_nil)))))) (pss_one (ps_ret pe_bl)) pss_nil)
      (pss_cons (ps_asg (pv 0) (pg_tup (by rfl) (pgs_cons (pg_name (i := 1) sc_is_window.nd rfl (Or.inl rfl)) (pgs_cons (pg_name (i := 2) sc_is_window.nd rfl (Or.inl rfl)) (pgs_cons (pg_name (i := 3) sc_is_window.nd rfl (Or.inl rfl)) pgs_nil)))))
      (pss_cons (ps_if (PW.pt (pw_or (pt_not (pt_val (pe_own D_is_way (hr.mono (by omega)) (by rfl) (pa_cons (pv 1) pa_nil)))) (pw_or (pt_not (pt_val (pe_own D_is_way (hr.mono (by omega)) (by rfl) (pa_cons (pv 2) pa_nil)))) (pw_or1 (pt_not (pt_val (pe_own D_is_tuple (hr.mono (by omega)) (by rfl) (pa_cons (pv 3) (pa_cons pe_int (pa_cons (pe_gint (by rfl) T.c_MOST_MOVES) pa_nil)))))))))) (pss_one (ps_ret pe_bl)) pss_nil)
      (pss_one (ps_ret (pe_callB (cr_all rfl) (by rfl) T.b_all (by decide +kernel) (pa_cons (pe_lc (own := [("move", 4)]) (g := (gName 4)) (tt := tYes) (by rfl) sc_is_window.nd (pi_tup (pv 3)) (blkOk_by (own := [("move", 4)]) (N := ["thing", "x", "y", "moves", "move"]) (sc := defScope s_is_window) (by decide +kernel)) (fun _ _ _ _ _ => (pg_name (i := 4) sc_is_window.nd rfl (Or.inl rfl))) (fun _ _ _ _ _ => pts_nil) (fun _ _ _ _ _ => (pe_own D_is_move (hr.mono (by omega)) (by rfl) (pa_cons (pv 4) pa_nil)))) pa_nil))))))), ?_⟩
    refine ⟨_, rfl, fx, b, v, d, 3, 3, rfl, hd, _, rfl, ?_⟩
    cases et : isTup d 3 3 with
    | false =>
      rw [win_no et] at q
      exact iteT (q _ (Same.refl _))
    | true =>
      obtain ⟨a, xs, ds, rfl, rfl, ha, hall, l1, l2⟩ := tup_of hd et
      obtain ⟨d1, d2, d3, rfl⟩ := three_of (show ds.length = 3 by omega)
      cases hall with | @cons _ v1 _ _ _ h1 hr =>
      cases hr with | @cons _ v2 _ _ _ h2 hr =>
      cases hr with | @cons _ v3 _ _ _ h3 hn =>
      cases hn
      refine iteF ?_
      refine ⟨_, rfl, a, _, rfl, ha, rfl, _, _, rfl, _, _, rfl, _, _, rfl, rfl, ?_⟩
      have nsp : isSpotD d1 d2 = false → isWinD (.tuple [d1, d2, d3]) = false := fun e1 => by
        cases d3 with
        | tuple ms =>
          show (isSpotD d1 d2 && decide (ms.length ≤ 8) && ms.all isMoveD) = false
          rw [e1]
          rfl
        | _ => rfl
      refine ⟨_, rfl, fx, b, v1, d1, rfl, h1, _, rfl, ?_⟩
      cases x1 : isW d1 (-20) 20 with
      | false =>
        rw [nsp (by simp [isSpotD, x1])] at q
        exact iteT (iteT (q _ (Same.refl _)))
      | true =>
       refine iteF ?_
       refine ⟨_, rfl, fx, b, v2, d2, rfl, h2, _, rfl, ?_⟩
       cases x2 : isW d2 (-20) 20 with
       | false =>
        rw [nsp (by simp [isSpotD, x2])] at q
        exact iteT (iteT (q _ (Same.refl _)))
       | true =>
        have e1 : isSpotD d1 d2 = true := by simp [isSpotD, x1, x2]
        refine iteF ?_
        refine ⟨_, rfl, fx, b, v3, d3, 0, 8, rfl, h3, _, rfl, ?_⟩
        cases e8 : isTup d3 0 8 with
        | false =>
          rw [win_no2 e8] at q
          exact iteT (q _ (Same.refl _))
        | true =>
          obtain ⟨pm, vs, ms, rfl, rfl, hq, pd, _, l8⟩ := tup_of h3 e8
          have hl := DgAll.len pd
          rw [win_eq (by omega), e1, Bool.true_and] at q
          refine iteF ?_
          refine ⟨_, rfl, pm, rfl, ⟨_, hq⟩, fun D hD => ?_⟩
          refine lcmap_tup ((ms.map isMoveD).map V.bl) (by simp [hl]) (by omega) hq hD (fun i x y H2 R Z hx hy s2 hR => ?_) (fun H2 s2 hL => ?_)
          · obtain ⟨r, hr1, hrow⟩ := DgAll.at pd hx
            have ey : y = .bl (isMoveD r) := by
              rw [List.map_map, List.getElem?_map, hr1] at hy
              exact (Option.some.inj hy).symm
            subst ey
            exact ⟨rfl, yes_ok ⟨_, rfl, fx, b, x, r, rfl, hrow.sm s2, hR _ (Same.refl _)⟩⟩
          · refine ⟨D, _, rfl, .inl (.inl hL), ?_⟩
            rw [List.all_map]
            exact q _ s2
def sp_is_sheet (K : PySem.W.Frag) : Sp := fun vs H Q _ => ∃ (fx : Hp) (b : Bool) (v : V) (d : PyData), vs = [v] ∧ Dg K fx H b v d ∧ ∀ H', Same H H' → Q (.bl (isShD d)) H'
theorem ok_is_sheet {f : Addr} {fd : FuncData} (F : Fun K "is_sheet" "is_sheet" s_is_sheet f fd) (T : Txt K mg) (D_is_tuple : Cl P w K mg base 1 "is_tuple" ["thing", "least", "most"] (sp_is_tuple K)) (D_is_window : Cl P w K mg base 5 "is_window" ["thing"] (sp_is_window K)) (D_is_layer : Cl P w K mg base 5 "is_layer" ["thing"] (sp_is_layer K)) : FnOk P w K mg base CX0 6 f fd ["thing"] (sp_is_sheet K) := by
  refine F.ok sc_is_sheet (fun vs H Q E h => ?_) (fun cdv A outer s H vs Q E hr h => ?_)
  · obtain ⟨fx, b, v, d, rfl, _⟩ := h
    rfl
  · obtain ⟨fx, b, v, d, rfl, hd, q⟩ := h
    refine ⟨_, (pss_cons (ps_if (pt_not (pt_val (pe_own D_is_tuple (hr.mono (by omega)) (by rfl) (pa_cons (pv 0) (pa_cons pe_int (pa_cons pe_int pa_nil)))))) (pss_one (ps_ret pe_bl)) pss_nil)
      (pss_cons (ps_asg (pv 0) (pg_tup (by rfl) (pgs_cons (pg_name (i := 1) sc_is_sheet.nd rfl (Or.inl rfl)) (pgs_cons (pg_name (i := 2) sc_is_sheet.nd rfl (Or.inl rfl)) pgs_nil))))
      (pss_cons (ps_if (pt_not (pt_val (pe_own D_is_tuple (hr.mono (by omega)) (by rfl) (pa_cons (pv 1) (pa_cons pe_int (pa_cons (pe_gint (by rfl) T.c_MOST_LAYERS) pa_nil)))))) (pss_one (ps_ret pe_bl)) pss_nil)
      (pss_one (ps_ret (pe_and (pe_callB (cr_all rfl) (by rfl) T.b_all (by decide +kernel) (pa_cons (pe_lc (own := [("layer", 3)]) (g := (gName 3)) (tt := tYes) (by rfl) sc_is_sheet.nd (pi_tup (pv 1)) (blkOk_by (own := [("layer", 3)]) (N := ["thing", "layers", "window", "layer"]) (sc := defScope s_is_sheet) (by decide +kernel)) (fun _ _ _ _ _ => (pg_name (i := 3) sc_is_sheet.nd rfl (Or.inl rfl))) (fun _ _ _ _ _ => pts_nil) (fun _ _ _ _ _ => (pe_own D_is_layer (hr.mono (by omega)) (by rfl) (pa_cons (pv 3) pa_nil)))) pa_nil)) (pe_one (pe_own D_is_window (hr.mono (by omega)) (by rfl) (pa_cons (pv 2) pa_nil))))))))), ?_⟩
    refine ⟨_, rfl, fx, b, v, d, 2, 2, rfl, hd, _, rfl, ?_⟩
    cases et : isTup d 2 2 with
    | false =>
      rw [sh_no et] at q
      exact iteT (q _ (Same.refl _))
    | true =>
      obtain ⟨a, xs, ds, rfl, rfl, ha, hall, l1, l2⟩ := tup_of hd et
      obtain ⟨d1, d2, rfl⟩ := two_of (show ds.length = 2 by omega)
      cases hall with | @cons _ v1 _ _ _ h1 hr =>
      cases hr with | @cons _ v2 _ _ _ h2 hn =>
      cases hn
      refine iteF ?_
      refine ⟨_, rfl, a, _, rfl, ha, rfl, _, _, rfl, _, _, rfl, rfl, ?_⟩
      refine ⟨_, rfl, fx, b, v1, d1, 1, 4, rfl, h1, _, rfl, ?_⟩
      cases e4 : isTup d1 1 4 with
      | false =>
        rw [sh_no2 e4] at q
        exact iteT (q _ (Same.refl _))
      | true =>
        obtain ⟨pl, vs, ls, rfl, rfl, hq, pd, l1', l4⟩ := tup_of h1 e4
        have hl := DgAll.len pd
        rw [sh_eq ⟨by omega, by omega⟩] at q
        refine iteF ?_
        refine ⟨_, rfl, pl, rfl, ⟨_, hq⟩, fun D hD => ?_⟩
        refine lcmap_tup ((ls.map isLayD).map V.bl) (by simp [hl]) (by omega) hq hD (fun i x y H2 R Z hx hy s2 hR => ?_) (fun H2 s2 hL => ?_)
        · obtain ⟨r, hr1, hrow⟩ := DgAll.at pd hx
          have ey : y = .bl (isLayD r) := by
            rw [List.map_map, List.getElem?_map, hr1] at hy
            exact (Option.some.inj hy).symm
          subst ey
          exact ⟨rfl, yes_ok ⟨_, rfl, fx, b, x, r, rfl, hrow.sm s2, hR⟩⟩
        · refine ⟨D, _, rfl, .inl (.inl hL), _, rfl, ?_⟩
          rw [List.all_map]
          show if (ls.all isLayD) = true then _ else _
          cases ea : ls.all isLayD with
          | false =>
            rw [ea] at q
            exact iteF (q _ s2)
          | true =>
            rw [ea, Bool.true_and] at q
            exact iteT ⟨_, rfl, fx, b, v2, d2, rfl, h2.sm s2, fun H3 s3 => q _ (s2.trans s3)⟩
end

theorem ShAt.dg {K : PySem.W.Frag} {fx : Hp} {H : Hp} {b : Bool} {v : V} {ls : List LY} {x y : Int} {ms : List MV} : ShAt K H v ls x y ms → Dg K fx H b v (shD ls x y ms) := by
  rintro ⟨p, lv, wv, rfl, hp, ⟨pl, us, rfl, hq, pd⟩, hw⟩
  exact .tup hp (.cons (.tup hq (lays_dg pd)) (.cons hw.dg .nil))
theorem sh_true {ls : List LY} {x y : Int} {ms : List MV} (h : VLays ls) (hw : VWin x y ms) : isShD (shD ls x y ms) = true := by
  show isShD (.tuple [.tuple (ls.map lyD), winD x y ms]) = true
  rw [sh_eq ⟨by rw [List.length_map]; exact h.1, by rw [List.length_map]; exact h.2.1⟩, lays_true h.2.2, win_true hw]
  rfl
section
variable {P : Program} {w : World} {K : PySem.W.Frag} {mg : Str → Option Value} {base : Heap}
def sp_need_sheet (K : PySem.W.Frag) (c : Nat → Addr) : Sp := fun vs H Q E => ∃ (fx : Hp) (b : Bool) (v : V) (d : PyData), vs = [v] ∧ Dg K fx H b v d ∧ (isShD d = true → ∀ H', Same H H' → Q .non H') ∧ (isShD d = false → ∀ H', Same H H' → E (.ref (c 2)) none H')
theorem ok_need_sheet {f : Addr} {fd : FuncData} {c : Nat → Addr} {LE : Addr} (F : Fun K "need_sheet" "need_sheet" s_need_sheet f fd) (T : Txt K mg) (TX : ExcN K mg c LE) (D_is_sheet : Cl P w K mg base 6 "is_sheet" ["thing"] (sp_is_sheet K)) : FnOk P w K mg base (L2.CX P w) 7 f fd ["thing"] (sp_need_sheet K c) := by
  refine F.okX sc_need_sheet (fun vs H Q E h => ?_) (fun cdv A outer s H vs Q E hr h => ?_)
  · obtain ⟨fx, b, v, d, rfl, _⟩ := h
    rfl
  · obtain ⟨fx, b, v, d, rfl, hd, q1, q2⟩ := h
    refine ⟨_, (pss_one (ps_if (pt_not (pt_val (pe_own D_is_sheet (hr.mono (by omega)) (by rfl) (pa_cons (pv 0) pa_nil)))) (pss_one (ps_raise rfl (takes_of rfl rfl rfl rfl) (pmk_own PySem.F.excBase_ValueError (TX.nw 2 (by decide)) (TX.g 2 "NoSheet" rfl) (TX.kp 2 (by decide)) (TX.rs (i := 2) (by decide)) rfl))) pss_nil)), ?_⟩
    refine ⟨_, rfl, fx, b, v, d, rfl, hd, fun H1 s1 => ⟨_, rfl, ?_⟩⟩
    cases e : isShD d with
    | true => exact iteF (q1 e _ s1)
    | false => exact iteT (q2 e _ s1)
def sp_need_layer (K : PySem.W.Frag) (c : Nat → Addr) : Sp := fun vs H Q E => ∃ (fx : Hp) (b : Bool) (v : V) (d : PyData), vs = [v] ∧ Dg K fx H b v d ∧ (isLayD d = true → ∀ H', Same H H' → Q .non H') ∧ (isLayD d = false → ∀ H', Same H H' → E (.ref (c 0)) none H')
theorem ok_need_layer {f : Addr} {fd : FuncData} {c : Nat → Addr} {LE : Addr} (F : Fun K "need_layer" "need_layer" s_need_layer f fd) (T : Txt K mg) (TX : ExcN K mg c LE) (D_is_layer : Cl P w K mg base 5 "is_layer" ["thing"] (sp_is_layer K)) : FnOk P w K mg base (L2.CX P w) 6 f fd ["thing"] (sp_need_layer K c) := by
  refine F.okX sc_need_layer (fun vs H Q E h => ?_) (fun cdv A outer s H vs Q E hr h => ?_)
  · obtain ⟨fx, b, v, d, rfl, _⟩ := h
    rfl
  · obtain ⟨fx, b, v, d, rfl, hd, q1, q2⟩ := h
    refine ⟨_, (pss_one (ps_if (pt_not (pt_val (pe_own D_is_layer (hr.mono (by omega)) (by rfl) (pa_cons (pv 0) pa_nil)))) (pss_one (ps_raise rfl (takes_of rfl rfl rfl rfl) (pmk_own PySem.F.excBase_ValueError (TX.nw 0 (by decide)) (TX.g 0 "NoLayer" rfl) (TX.kp 0 (by decide)) (TX.rs (i := 0) (by decide)) rfl))) pss_nil)), ?_⟩
    refine ⟨_, rfl, fx, b, v, d, rfl, hd, fun H1 s1 => ⟨_, rfl, ?_⟩⟩
    cases e : isLayD d with
    | true => exact iteF (q1 e _ s1)
    | false => exact iteT (q2 e _ s1)
def sp_need_window (K : PySem.W.Frag) (c : Nat → Addr) : Sp := fun vs H Q E => ∃ (fx : Hp) (b : Bool) (v : V) (d : PyData), vs = [v] ∧ Dg K fx H b v d ∧ (isWinD d = true → ∀ H', Same H H' → Q .non H') ∧ (isWinD d = false → ∀ H', Same H H' → E (.ref (c 1)) none H')
theorem ok_need_window {f : Addr} {fd : FuncData} {c : Nat → Addr} {LE : Addr} (F : Fun K "need_window" "need_window" s_need_window f fd) (T : Txt K mg) (TX : ExcN K mg c LE) (D_is_window : Cl P w K mg base 5 "is_window" ["thing"] (sp_is_window K)) : FnOk P w K mg base (L2.CX P w) 6 f fd ["thing"] (sp_need_window K c) := by
  refine F.okX sc_need_window (fun vs H Q E h => ?_) (fun cdv A outer s H vs Q E hr h => ?_)
  · obtain ⟨fx, b, v, d, rfl, _⟩ := h
    rfl
  · obtain ⟨fx, b, v, d, rfl, hd, q1, q2⟩ := h
    refine ⟨_, (pss_one (ps_if (pt_not (pt_val (pe_own D_is_window (hr.mono (by omega)) (by rfl) (pa_cons (pv 0) pa_nil)))) (pss_one (ps_raise rfl (takes_of rfl rfl rfl rfl) (pmk_own PySem.F.excBase_ValueError (TX.nw 1 (by decide)) (TX.g 1 "NoWindow" rfl) (TX.kp 1 (by decide)) (TX.rs (i := 1) (by decide)) rfl))) pss_nil)), ?_⟩
    refine ⟨_, rfl, fx, b, v, d, rfl, hd, fun H1 s1 => ⟨_, rfl, ?_⟩⟩
    cases e : isWinD d with
    | true => exact iteF (q1 e _ s1)
    | false => exact iteT (q2 e _ s1)
def sp_need_moment (K : PySem.W.Frag) (c : Nat → Addr) : Sp := fun vs H Q E => ∃ (fx : Hp) (b : Bool) (v : V) (d : PyData), vs = [v] ∧ Dg K fx H b v d ∧ (isW d 0 1000000000 = true → Q .non H) ∧ (isW d 0 1000000000 = false → E (.ref (c 3)) none H)
theorem ok_need_moment {f : Addr} {fd : FuncData} {c : Nat → Addr} {LE : Addr} (F : Fun K "need_moment" "need_moment" s_need_moment f fd) (T : Txt K mg) (TX : ExcN K mg c LE) (D_is_whole : Cl P w K mg base 2 "is_whole" ["thing", "least", "most"] (sp_is_whole K)) : FnOk P w K mg base (L2.CX P w) 3 f fd ["thing"] (sp_need_moment K c) := by
  refine F.okX sc_need_moment (fun vs H Q E h => ?_) (fun cdv A outer s H vs Q E hr h => ?_)
  · obtain ⟨fx, b, v, d, rfl, _⟩ := h
    rfl
  · obtain ⟨fx, b, v, d, rfl, hd, q1, q2⟩ := h
    refine ⟨_, (pss_one (ps_if (pt_not (pt_val (pe_own D_is_whole (hr.mono (by omega)) (by rfl) (pa_cons (pv 0) (pa_cons pe_int (pa_cons (pe_gint (by rfl) T.c_LAST_MOMENT) pa_nil)))))) (pss_one (ps_raise rfl (takes_of rfl rfl rfl rfl) (pmk_own PySem.F.excBase_ValueError (TX.nw 3 (by decide)) (TX.g 3 "NoMoment" rfl) (TX.kp 3 (by decide)) (TX.rs (i := 3) (by decide)) rfl))) pss_nil)), ?_⟩
    refine ⟨_, rfl, fx, b, v, d, 0, 1000000000, rfl, hd, _, rfl, ?_⟩
    cases e : isW d 0 1000000000 with
    | true => exact iteF (q1 e)
    | false => exact iteT (q2 e)
def sp_need_number (K : PySem.W.Frag) (c : Nat → Addr) : Sp := fun vs H Q E => ∃ (fx : Hp) (b : Bool) (v : V) (d : PyData) (l m : Int), vs = [v, .int l, .int m] ∧ l.natAbs ≤ 1000000000 ∧ m.natAbs ≤ 1000000000 ∧ Dg K fx H b v d ∧ (isW d l m = true → Q .non H) ∧ (isW d l m = false → E (.ref (c 5)) none H)
theorem ok_need_number {f : Addr} {fd : FuncData} {c : Nat → Addr} {LE : Addr} (F : Fun K "need_number" "need_number" s_need_number f fd) (T : Txt K mg) (TX : ExcN K mg c LE) (D_is_whole : Cl P w K mg base 2 "is_whole" ["thing", "least", "most"] (sp_is_whole K)) : FnOk P w K mg base (L2.CX P w) 3 f fd ["thing", "least", "most"] (sp_need_number K c) := by
  refine F.okX sc_need_number (fun vs H Q E h => ?_) (fun cdv A outer s H vs Q E hr h => ?_)
  · obtain ⟨fx, b, v, d, l, m, rfl, _⟩ := h
    rfl
  · obtain ⟨fx, b, v, d, l, m, rfl, hl, hm, hd, q1, q2⟩ := h
    refine ⟨_, (pss_one (ps_if (pt_not (pt_val (pe_own D_is_whole (hr.mono (by omega)) (by rfl) (pa_cons (pv 0) (pa_cons (pv 1) (pa_cons (pv 2) pa_nil)))))) (pss_one (ps_raise rfl (takes_of rfl rfl rfl rfl) (SkE.pmk_own1 PySem.F.excBase_ValueError (TX.nw 5 (by decide)) (TX.g 5 "NoNumber" rfl) (TX.kp 5 (by decide)) (TX.rs (i := 5) (by decide)) (by rfl) (pe_joined (.cons pe_str (.cons (pe_fmt (pv 1)) (.cons pe_str (.cons (pe_fmt (pv 2)) (.cons pe_str .nil))))))))) pss_nil)), ?_⟩
    refine ⟨_, rfl, _, rfl, _, rfl, fx, b, v, d, l, m, rfl, hd, _, rfl, ?_⟩
    cases e : isW d l m with
    | true => exact iteF (q1 e)
    | false =>
      refine iteT ?_
      have A1 := js_len (a := Str.empty) (b := "a whole number from ") (m := 0) (n := 60) (by decide) (by decide +kernel)
      have A2 := js_len A1 (it_len hl).1
      have A3 := js_len A2 (b := " to ") (n := 60) (by decide +kernel)
      have A4 := js_len A3 (it_len hm).1
      have A5 := js_len A4 (b := " is needed") (n := 60) (by decide +kernel)
      exact ⟨_, rfl, js_ok A1 (by decide), _, rfl, .inr ⟨_, rfl, (it_len hl).2, _, rfl, js_ok A2 (by decide), _, rfl, js_ok A3 (by decide), _, rfl, .inr ⟨_, rfl, (it_len hm).2, _, rfl, js_ok A4 (by decide), _, rfl, js_ok A5 (by decide), q2 e⟩⟩⟩
end

/-! ### the first bad thing, by the looks at it -/
def okK (k : Nat) (d : PyData) : Bool := if k = 0 then isLayD d else if k = 1 then isWinD d else if k = 2 then isShD d else if k = 3 then isW d 0 1000000000 else isW d 0 200
def refC : List Nat → List PyData → Option Nat
  | k :: ks, d :: ds => if okK k d = true then refC ks ds else some k
  | _, _ => none
theorem refC_no {k : Nat} {ks : List Nat} {d : PyData} {ds : List PyData} {n : Nat} (h : refC (k :: ks) (d :: ds) = some n) (e : okK k d = false) : n = k := by
  unfold refC at h
  rw [if_neg (by rw [e]; decide)] at h
  exact (Option.some.inj h).symm
theorem refC_yes {k : Nat} {ks : List Nat} {d : PyData} {ds : List PyData} {n : Nat} (h : refC (k :: ks) (d :: ds) = some n) (e : okK k d = true) : refC ks ds = some n := by
  unfold refC at h
  rw [if_pos e] at h
  exact h
section
variable {P : Program} {w : World} {K : PySem.W.Frag} {mg : Str → Option Value} {base : Heap}
/-- refuses the first bad thing -/
def spRef (ks : List Nat) (K : PySem.W.Frag) (c : Nat → Addr) : Sp := fun vs H _ E => ∃ (fx : Hp) (b : Bool) (ds : List PyData) (n : Nat), DgAll K fx H b vs ds ∧ vs.length = ks.length ∧ refC ks ds = some n ∧ ∀ H', Same H H' → E (.ref (c n)) none H'
def sp_layer_length (K : PySem.W.Frag) (c : Nat → Addr) : Sp := spRef [0] K c
theorem ok_layer_length {f : Addr} {fd : FuncData} {c : Nat → Addr} {LE : Addr} (F : Fun K "layer_length" "layer_length" s_layer_length f fd) (T : Txt K mg) (TX : ExcN K mg c LE) (D_need_layer : ClX P w K mg base 6 "need_layer" ["thing"] (sp_need_layer K c)) : FnOk P w K mg base (L2.CX P w) 7 f fd ["layer"] (sp_layer_length K c) := by
  refine F.okX sc_layer_length (fun vs H Q E h => ?_) (fun cdv A outer s H vs Q E hr h => ?_)
  · obtain ⟨fx, b, ds, n, _, hl, _⟩ := h
    match vs, hl with
    | [_], _ => rfl
  · obtain ⟨fx, b, ds, n, hd, hl, hrc, q⟩ := h
    obtain ⟨u, rfl⟩ : ∃ u, vs = [u] := by
      match vs, hl with
      | [a0], _ => exact ⟨_, rfl⟩
    obtain ⟨d, rfl, h0⟩ : ∃ d, ds = [d] ∧ Dg K fx H b u d := by
      cases hd with
      | cons k0 t =>
        cases t
        exact ⟨_, rfl, k0⟩
    refine ⟨_, (pss_cons (ps_expr (pe_ownX D_need_layer (hr.mono (by omega)) (takes_of rfl rfl rfl rfl) (by rfl) (pa_cons (pv 0) pa_nil)))
      (pss_one ps_never)), ?_⟩
    have ok0 : okK 0 d = isLayD d := rfl
    refine ⟨_, rfl, fx, b, u, d, rfl, h0, fun z H1 s1 => ?_, fun z H1 s1 => ?_⟩
    rotate_left 1
    · rw [refC_no hrc (ok0.trans z)] at q
      exact q _ s1
    have hrc := refC_yes hrc (ok0.trans z)
    have sT1 := s1
    cases hrc
def sp_window_length (K : PySem.W.Frag) (c : Nat → Addr) : Sp := spRef [1] K c
theorem ok_window_length {f : Addr} {fd : FuncData} {c : Nat → Addr} {LE : Addr} (F : Fun K "window_length" "window_length" s_window_length f fd) (T : Txt K mg) (TX : ExcN K mg c LE) (D_need_window : ClX P w K mg base 6 "need_window" ["thing"] (sp_need_window K c)) : FnOk P w K mg base (L2.CX P w) 7 f fd ["window"] (sp_window_length K c) := by
  refine F.okX sc_window_length (fun vs H Q E h => ?_) (fun cdv A outer s H vs Q E hr h => ?_)
  · obtain ⟨fx, b, ds, n, _, hl, _⟩ := h
    match vs, hl with
    | [_], _ => rfl
  · obtain ⟨fx, b, ds, n, hd, hl, hrc, q⟩ := h
    obtain ⟨u, rfl⟩ : ∃ u, vs = [u] := by
      match vs, hl with
      | [a0], _ => exact ⟨_, rfl⟩
    obtain ⟨d, rfl, h0⟩ : ∃ d, ds = [d] ∧ Dg K fx H b u d := by
      cases hd with
      | cons k0 t =>
        cases t
        exact ⟨_, rfl, k0⟩
    refine ⟨_, (pss_cons (ps_expr (pe_ownX D_need_window (hr.mono (by omega)) (takes_of rfl rfl rfl rfl) (by rfl) (pa_cons (pv 0) pa_nil)))
      (pss_one ps_never)), ?_⟩
    have ok0 : okK 1 d = isWinD d := rfl
    refine ⟨_, rfl, fx, b, u, d, rfl, h0, fun z H1 s1 => ?_, fun z H1 s1 => ?_⟩
    rotate_left 1
    · rw [refC_no hrc (ok0.trans z)] at q
      exact q _ s1
    have hrc := refC_yes hrc (ok0.trans z)
    have sT1 := s1
    cases hrc
def sp_sheet_length (K : PySem.W.Frag) (c : Nat → Addr) : Sp := spRef [2] K c
theorem ok_sheet_length {f : Addr} {fd : FuncData} {c : Nat → Addr} {LE : Addr} (F : Fun K "sheet_length" "sheet_length" s_sheet_length f fd) (T : Txt K mg) (TX : ExcN K mg c LE) (D_need_sheet : ClX P w K mg base 7 "need_sheet" ["thing"] (sp_need_sheet K c)) : FnOk P w K mg base (L2.CX P w) 8 f fd ["sheet"] (sp_sheet_length K c) := by
  refine F.okX sc_sheet_length (fun vs H Q E h => ?_) (fun cdv A outer s H vs Q E hr h => ?_)
  · obtain ⟨fx, b, ds, n, _, hl, _⟩ := h
    match vs, hl with
    | [_], _ => rfl
  · obtain ⟨fx, b, ds, n, hd, hl, hrc, q⟩ := h
    obtain ⟨u, rfl⟩ : ∃ u, vs = [u] := by
      match vs, hl with
      | [a0], _ => exact ⟨_, rfl⟩
    obtain ⟨d, rfl, h0⟩ : ∃ d, ds = [d] ∧ Dg K fx H b u d := by
      cases hd with
      | cons k0 t =>
        cases t
        exact ⟨_, rfl, k0⟩
    refine ⟨_, (pss_cons (ps_expr (pe_ownX D_need_sheet (hr.mono (by omega)) (takes_of rfl rfl rfl rfl) (by rfl) (pa_cons (pv 0) pa_nil)))
      (pss_one ps_never)), ?_⟩
    have ok0 : okK 2 d = isShD d := rfl
    refine ⟨_, rfl, fx, b, u, d, rfl, h0, fun z H1 s1 => ?_, fun z H1 s1 => ?_⟩
    rotate_left 1
    · rw [refC_no hrc (ok0.trans z)] at q
      exact q _ s1
    have hrc := refC_yes hrc (ok0.trans z)
    have sT1 := s1
    cases hrc
def sp_least_round (K : PySem.W.Frag) (c : Nat → Addr) : Sp := spRef [0] K c
theorem ok_least_round {f : Addr} {fd : FuncData} {c : Nat → Addr} {LE : Addr} (F : Fun K "least_round" "least_round" s_least_round f fd) (T : Txt K mg) (TX : ExcN K mg c LE) (D_need_layer : ClX P w K mg base 6 "need_layer" ["thing"] (sp_need_layer K c)) : FnOk P w K mg base (L2.CX P w) 7 f fd ["layer"] (sp_least_round K c) := by
  refine F.okX sc_least_round (fun vs H Q E h => ?_) (fun cdv A outer s H vs Q E hr h => ?_)
  · obtain ⟨fx, b, ds, n, _, hl, _⟩ := h
    match vs, hl with
    | [_], _ => rfl
  · obtain ⟨fx, b, ds, n, hd, hl, hrc, q⟩ := h
    obtain ⟨u, rfl⟩ : ∃ u, vs = [u] := by
      match vs, hl with
      | [a0], _ => exact ⟨_, rfl⟩
    obtain ⟨d, rfl, h0⟩ : ∃ d, ds = [d] ∧ Dg K fx H b u d := by
      cases hd with
      | cons k0 t =>
        cases t
        exact ⟨_, rfl, k0⟩
    refine ⟨_, (pss_cons (ps_expr (pe_ownX D_need_layer (hr.mono (by omega)) (takes_of rfl rfl rfl rfl) (by rfl) (pa_cons (pv 0) pa_nil)))
      (pss_one ps_never)), ?_⟩
    have ok0 : okK 0 d = isLayD d := rfl
    refine ⟨_, rfl, fx, b, u, d, rfl, h0, fun z H1 s1 => ?_, fun z H1 s1 => ?_⟩
    rotate_left 1
    · rw [refC_no hrc (ok0.trans z)] at q
      exact q _ s1
    have hrc := refC_yes hrc (ok0.trans z)
    have sT1 := s1
    cases hrc
def sp_sheet_round (K : PySem.W.Frag) (c : Nat → Addr) : Sp := spRef [2] K c
theorem ok_sheet_round {f : Addr} {fd : FuncData} {c : Nat → Addr} {LE : Addr} (F : Fun K "sheet_round" "sheet_round" s_sheet_round f fd) (T : Txt K mg) (TX : ExcN K mg c LE) (D_need_sheet : ClX P w K mg base 7 "need_sheet" ["thing"] (sp_need_sheet K c)) : FnOk P w K mg base (L2.CX P w) 8 f fd ["sheet"] (sp_sheet_round K c) := by
  refine F.okX sc_sheet_round (fun vs H Q E h => ?_) (fun cdv A outer s H vs Q E hr h => ?_)
  · obtain ⟨fx, b, ds, n, _, hl, _⟩ := h
    match vs, hl with
    | [_], _ => rfl
  · obtain ⟨fx, b, ds, n, hd, hl, hrc, q⟩ := h
    obtain ⟨u, rfl⟩ : ∃ u, vs = [u] := by
      match vs, hl with
      | [a0], _ => exact ⟨_, rfl⟩
    obtain ⟨d, rfl, h0⟩ : ∃ d, ds = [d] ∧ Dg K fx H b u d := by
      cases hd with
      | cons k0 t =>
        cases t
        exact ⟨_, rfl, k0⟩
    refine ⟨_, (pss_cons (ps_expr (pe_ownX D_need_sheet (hr.mono (by omega)) (takes_of rfl rfl rfl rfl) (by rfl) (pa_cons (pv 0) pa_nil)))
      (pss_cons ps_never
      (pss_cons ps_never
      (pss_cons ps_never
      (pss_one ps_never))))), ?_⟩
    have ok0 : okK 2 d = isShD d := rfl
    refine ⟨_, rfl, fx, b, u, d, rfl, h0, fun z H1 s1 => ?_, fun z H1 s1 => ?_⟩
    rotate_left 1
    · rw [refC_no hrc (ok0.trans z)] at q
      exact q _ s1
    have hrc := refC_yes hrc (ok0.trans z)
    have sT1 := s1
    cases hrc
def sp_drawing_at (K : PySem.W.Frag) (c : Nat → Addr) : Sp := spRef [0, 3] K c
theorem ok_drawing_at {f : Addr} {fd : FuncData} {c : Nat → Addr} {LE : Addr} (F : Fun K "drawing_at" "drawing_at" s_drawing_at f fd) (T : Txt K mg) (TX : ExcN K mg c LE) (D_need_layer : ClX P w K mg base 6 "need_layer" ["thing"] (sp_need_layer K c)) (D_need_moment : ClX P w K mg base 3 "need_moment" ["thing"] (sp_need_moment K c)) : FnOk P w K mg base (L2.CX P w) 7 f fd ["layer", "moment"] (sp_drawing_at K c) := by
  refine F.okX sc_drawing_at (fun vs H Q E h => ?_) (fun cdv A outer s H vs Q E hr h => ?_)
  · obtain ⟨fx, b, ds, n, _, hl, _⟩ := h
    match vs, hl with
    | [_, _], _ => rfl
  · obtain ⟨fx, b, ds, n, hd, hl, hrc, q⟩ := h
    obtain ⟨u, v, rfl⟩ : ∃ u v, vs = [u, v] := by
      match vs, hl with
      | [a0, a1], _ => exact ⟨_, _, rfl⟩
    obtain ⟨d, e, rfl, h0, h1⟩ : ∃ d e, ds = [d, e] ∧ Dg K fx H b u d ∧ Dg K fx H b v e := by
      cases hd with
      | cons k0 t =>
        cases t with
        | cons k1 t =>
          cases t
          exact ⟨_, _, rfl, k0, k1⟩
    refine ⟨_, (pss_cons (ps_expr (pe_ownX D_need_layer (hr.mono (by omega)) (takes_of rfl rfl rfl rfl) (by rfl) (pa_cons (pv 0) pa_nil)))
      (pss_cons (ps_expr (pe_ownX D_need_moment (hr.mono (by omega)) (takes_of rfl rfl rfl rfl) (by rfl) (pa_cons (pv 1) pa_nil)))
      (pss_one ps_never))), ?_⟩
    have ok0 : okK 0 d = isLayD d := rfl
    refine ⟨_, rfl, fx, b, u, d, rfl, h0, fun z H1 s1 => ?_, fun z H1 s1 => ?_⟩
    rotate_left 1
    · rw [refC_no hrc (ok0.trans z)] at q
      exact q _ s1
    have hrc := refC_yes hrc (ok0.trans z)
    have sT1 := s1
    have ok1 : okK 3 e = isW e 0 1000000000 := rfl
    refine ⟨_, rfl, fx, b, v, e, rfl, (h1.sm sT1), fun z => ?_, fun z => ?_⟩
    rotate_left 1
    · rw [refC_no hrc (ok1.trans z)] at q
      exact q _ sT1
    have hrc := refC_yes hrc (ok1.trans z)
    cases hrc
def sp_place_at (K : PySem.W.Frag) (c : Nat → Addr) : Sp := spRef [1, 3] K c
theorem ok_place_at {f : Addr} {fd : FuncData} {c : Nat → Addr} {LE : Addr} (F : Fun K "place_at" "place_at" s_place_at f fd) (T : Txt K mg) (TX : ExcN K mg c LE) (D_need_window : ClX P w K mg base 6 "need_window" ["thing"] (sp_need_window K c)) (D_need_moment : ClX P w K mg base 3 "need_moment" ["thing"] (sp_need_moment K c)) : FnOk P w K mg base (L2.CX P w) 7 f fd ["window", "moment"] (sp_place_at K c) := by
  refine F.okX sc_place_at (fun vs H Q E h => ?_) (fun cdv A outer s H vs Q E hr h => ?_)
  · obtain ⟨fx, b, ds, n, _, hl, _⟩ := h
    match vs, hl with
    | [_, _], _ => rfl
  · obtain ⟨fx, b, ds, n, hd, hl, hrc, q⟩ := h
    obtain ⟨u, v, rfl⟩ : ∃ u v, vs = [u, v] := by
      match vs, hl with
      | [a0, a1], _ => exact ⟨_, _, rfl⟩
    obtain ⟨d, e, rfl, h0, h1⟩ : ∃ d e, ds = [d, e] ∧ Dg K fx H b u d ∧ Dg K fx H b v e := by
      cases hd with
      | cons k0 t =>
        cases t with
        | cons k1 t =>
          cases t
          exact ⟨_, _, rfl, k0, k1⟩
    refine ⟨_, (pss_cons (ps_expr (pe_ownX D_need_window (hr.mono (by omega)) (takes_of rfl rfl rfl rfl) (by rfl) (pa_cons (pv 0) pa_nil)))
      (pss_cons (ps_expr (pe_ownX D_need_moment (hr.mono (by omega)) (takes_of rfl rfl rfl rfl) (by rfl) (pa_cons (pv 1) pa_nil)))
      (pss_one ps_never))), ?_⟩
    have ok0 : okK 1 d = isWinD d := rfl
    refine ⟨_, rfl, fx, b, u, d, rfl, h0, fun z H1 s1 => ?_, fun z H1 s1 => ?_⟩
    rotate_left 1
    · rw [refC_no hrc (ok0.trans z)] at q
      exact q _ s1
    have hrc := refC_yes hrc (ok0.trans z)
    have sT1 := s1
    have ok1 : okK 3 e = isW e 0 1000000000 := rfl
    refine ⟨_, rfl, fx, b, v, e, rfl, (h1.sm sT1), fun z => ?_, fun z => ?_⟩
    rotate_left 1
    · rw [refC_no hrc (ok1.trans z)] at q
      exact q _ sT1
    have hrc := refC_yes hrc (ok1.trans z)
    cases hrc
def sp_picture_at (K : PySem.W.Frag) (c : Nat → Addr) : Sp := spRef [2, 3] K c
theorem ok_picture_at {f : Addr} {fd : FuncData} {c : Nat → Addr} {LE : Addr} (F : Fun K "picture_at" "picture_at" s_picture_at f fd) (T : Txt K mg) (TX : ExcN K mg c LE) (D_need_sheet : ClX P w K mg base 7 "need_sheet" ["thing"] (sp_need_sheet K c)) (D_need_moment : ClX P w K mg base 3 "need_moment" ["thing"] (sp_need_moment K c)) : FnOk P w K mg base (L2.CX P w) 8 f fd ["sheet", "moment"] (sp_picture_at K c) := by
  refine F.okX sc_picture_at (fun vs H Q E h => ?_) (fun cdv A outer s H vs Q E hr h => ?_)
  · obtain ⟨fx, b, ds, n, _, hl, _⟩ := h
    match vs, hl with
    | [_, _], _ => rfl
  · obtain ⟨fx, b, ds, n, hd, hl, hrc, q⟩ := h
    obtain ⟨u, v, rfl⟩ : ∃ u v, vs = [u, v] := by
      match vs, hl with
      | [a0, a1], _ => exact ⟨_, _, rfl⟩
    obtain ⟨d, e, rfl, h0, h1⟩ : ∃ d e, ds = [d, e] ∧ Dg K fx H b u d ∧ Dg K fx H b v e := by
      cases hd with
      | cons k0 t =>
        cases t with
        | cons k1 t =>
          cases t
          exact ⟨_, _, rfl, k0, k1⟩
    refine ⟨_, (pss_cons (ps_expr (pe_ownX D_need_sheet (hr.mono (by omega)) (takes_of rfl rfl rfl rfl) (by rfl) (pa_cons (pv 0) pa_nil)))
      (pss_cons (ps_expr (pe_ownX D_need_moment (hr.mono (by omega)) (takes_of rfl rfl rfl rfl) (by rfl) (pa_cons (pv 1) pa_nil)))
      (pss_one ps_never))), ?_⟩
    have ok0 : okK 2 d = isShD d := rfl
    refine ⟨_, rfl, fx, b, u, d, rfl, h0, fun z H1 s1 => ?_, fun z H1 s1 => ?_⟩
    rotate_left 1
    · rw [refC_no hrc (ok0.trans z)] at q
      exact q _ s1
    have hrc := refC_yes hrc (ok0.trans z)
    have sT1 := s1
    have ok1 : okK 3 e = isW e 0 1000000000 := rfl
    refine ⟨_, rfl, fx, b, v, e, rfl, (h1.sm sT1), fun z => ?_, fun z => ?_⟩
    rotate_left 1
    · rw [refC_no hrc (ok1.trans z)] at q
      exact q _ sT1
    have hrc := refC_yes hrc (ok1.trans z)
    cases hrc
def sp_pictures_from (K : PySem.W.Frag) (c : Nat → Addr) : Sp := spRef [2, 3, 5] K c
theorem ok_pictures_from {f : Addr} {fd : FuncData} {c : Nat → Addr} {LE : Addr} (F : Fun K "pictures_from" "pictures_from" s_pictures_from f fd) (T : Txt K mg) (TX : ExcN K mg c LE) (D_need_sheet : ClX P w K mg base 7 "need_sheet" ["thing"] (sp_need_sheet K c)) (D_need_moment : ClX P w K mg base 3 "need_moment" ["thing"] (sp_need_moment K c)) (D_need_number : ClX P w K mg base 3 "need_number" ["thing", "least", "most"] (sp_need_number K c)) : FnOk P w K mg base (L2.CX P w) 8 f fd ["sheet", "moment", "many"] (sp_pictures_from K c) := by
  refine F.okX sc_pictures_from (fun vs H Q E h => ?_) (fun cdv A outer s H vs Q E hr h => ?_)
  · obtain ⟨fx, b, ds, n, _, hl, _⟩ := h
    match vs, hl with
    | [_, _, _], _ => rfl
  · obtain ⟨fx, b, ds, n, hd, hl, hrc, q⟩ := h
    obtain ⟨u, v, x, rfl⟩ : ∃ u v x, vs = [u, v, x] := by
      match vs, hl with
      | [a0, a1, a2], _ => exact ⟨_, _, _, rfl⟩
    obtain ⟨d, e, g, rfl, h0, h1, h2⟩ : ∃ d e g, ds = [d, e, g] ∧ Dg K fx H b u d ∧ Dg K fx H b v e ∧ Dg K fx H b x g := by
      cases hd with
      | cons k0 t =>
        cases t with
        | cons k1 t =>
          cases t with
          | cons k2 t =>
            cases t
            exact ⟨_, _, _, rfl, k0, k1, k2⟩
    refine ⟨_, (pss_cons (ps_expr (pe_ownX D_need_sheet (hr.mono (by omega)) (takes_of rfl rfl rfl rfl) (by rfl) (pa_cons (pv 0) pa_nil)))
      (pss_cons (ps_expr (pe_ownX D_need_moment (hr.mono (by omega)) (takes_of rfl rfl rfl rfl) (by rfl) (pa_cons (pv 1) pa_nil)))
      (pss_cons (ps_expr (pe_ownX D_need_number (hr.mono (by omega)) (takes_of rfl rfl rfl rfl) (by rfl) (pa_cons (pv 2) (pa_cons pe_int (pa_cons (pe_gint (by rfl) T.c_MOST_PICTURES) pa_nil)))))
      (pss_one ps_never)))), ?_⟩
    have ok0 : okK 2 d = isShD d := rfl
    refine ⟨_, rfl, fx, b, u, d, rfl, h0, fun z H1 s1 => ?_, fun z H1 s1 => ?_⟩
    rotate_left 1
    · rw [refC_no hrc (ok0.trans z)] at q
      exact q _ s1
    have hrc := refC_yes hrc (ok0.trans z)
    have sT1 := s1
    have ok1 : okK 3 e = isW e 0 1000000000 := rfl
    refine ⟨_, rfl, fx, b, v, e, rfl, (h1.sm sT1), fun z => ?_, fun z => ?_⟩
    rotate_left 1
    · rw [refC_no hrc (ok1.trans z)] at q
      exact q _ sT1
    have hrc := refC_yes hrc (ok1.trans z)
    have ok2 : okK 5 g = isW g 0 200 := rfl
    refine ⟨_, rfl, fx, b, x, g, 0, 200, rfl, by decide, by decide, (h2.sm sT1), fun z => ?_, fun z => ?_⟩
    rotate_left 1
    · rw [refC_no hrc (ok2.trans z)] at q
      exact q _ sT1
    have hrc := refC_yes hrc (ok2.trans z)
    cases hrc
def sp_laid (K : PySem.W.Frag) (c : Nat → Addr) : Sp := spRef [0, 5] K c
theorem ok_laid {f : Addr} {fd : FuncData} {c : Nat → Addr} {LE : Addr} (F : Fun K "laid" "laid" s_laid f fd) (T : Txt K mg) (TX : ExcN K mg c LE) (D_need_layer : ClX P w K mg base 6 "need_layer" ["thing"] (sp_need_layer K c)) (D_need_number : ClX P w K mg base 3 "need_number" ["thing", "least", "most"] (sp_need_number K c)) : FnOk P w K mg base (L2.CX P w) 7 f fd ["layer", "many"] (sp_laid K c) := by
  refine F.okX sc_laid (fun vs H Q E h => ?_) (fun cdv A outer s H vs Q E hr h => ?_)
  · obtain ⟨fx, b, ds, n, _, hl, _⟩ := h
    match vs, hl with
    | [_, _], _ => rfl
  · obtain ⟨fx, b, ds, n, hd, hl, hrc, q⟩ := h
    obtain ⟨u, v, rfl⟩ : ∃ u v, vs = [u, v] := by
      match vs, hl with
      | [a0, a1], _ => exact ⟨_, _, rfl⟩
    obtain ⟨d, e, rfl, h0, h1⟩ : ∃ d e, ds = [d, e] ∧ Dg K fx H b u d ∧ Dg K fx H b v e := by
      cases hd with
      | cons k0 t =>
        cases t with
        | cons k1 t =>
          cases t
          exact ⟨_, _, rfl, k0, k1⟩
    refine ⟨_, (pss_cons (ps_expr (pe_ownX D_need_layer (hr.mono (by omega)) (takes_of rfl rfl rfl rfl) (by rfl) (pa_cons (pv 0) pa_nil)))
      (pss_cons (ps_expr (pe_ownX D_need_number (hr.mono (by omega)) (takes_of rfl rfl rfl rfl) (by rfl) (pa_cons (pv 1) (pa_cons pe_int (pa_cons (pe_gint (by rfl) T.c_MOST_PICTURES) pa_nil)))))
      (pss_one ps_never))), ?_⟩
    have ok0 : okK 0 d = isLayD d := rfl
    refine ⟨_, rfl, fx, b, u, d, rfl, h0, fun z H1 s1 => ?_, fun z H1 s1 => ?_⟩
    rotate_left 1
    · rw [refC_no hrc (ok0.trans z)] at q
      exact q _ s1
    have hrc := refC_yes hrc (ok0.trans z)
    have sT1 := s1
    have ok1 : okK 5 e = isW e 0 200 := rfl
    refine ⟨_, rfl, fx, b, v, e, 0, 200, rfl, by decide, by decide, (h1.sm sT1), fun z => ?_, fun z => ?_⟩
    rotate_left 1
    · rw [refC_no hrc (ok1.trans z)] at q
      exact q _ sT1
    have hrc := refC_yes hrc (ok1.trans z)
    cases hrc
def sp_parting (K : PySem.W.Frag) (c : Nat → Addr) : Sp := spRef [2, 2] K c
theorem ok_parting {f : Addr} {fd : FuncData} {c : Nat → Addr} {LE : Addr} (F : Fun K "parting" "parting" s_parting f fd) (T : Txt K mg) (TX : ExcN K mg c LE) (D_need_sheet : ClX P w K mg base 7 "need_sheet" ["thing"] (sp_need_sheet K c)) : FnOk P w K mg base (L2.CX P w) 8 f fd ["one", "other"] (sp_parting K c) := by
  refine F.okX sc_parting (fun vs H Q E h => ?_) (fun cdv A outer s H vs Q E hr h => ?_)
  · obtain ⟨fx, b, ds, n, _, hl, _⟩ := h
    match vs, hl with
    | [_, _], _ => rfl
  · obtain ⟨fx, b, ds, n, hd, hl, hrc, q⟩ := h
    obtain ⟨u, v, rfl⟩ : ∃ u v, vs = [u, v] := by
      match vs, hl with
      | [a0, a1], _ => exact ⟨_, _, rfl⟩
    obtain ⟨d, e, rfl, h0, h1⟩ : ∃ d e, ds = [d, e] ∧ Dg K fx H b u d ∧ Dg K fx H b v e := by
      cases hd with
      | cons k0 t =>
        cases t with
        | cons k1 t =>
          cases t
          exact ⟨_, _, rfl, k0, k1⟩
    refine ⟨_, (pss_cons (ps_expr (pe_ownX D_need_sheet (hr.mono (by omega)) (takes_of rfl rfl rfl rfl) (by rfl) (pa_cons (pv 0) pa_nil)))
      (pss_cons (ps_expr (pe_ownX D_need_sheet (hr.mono (by omega)) (takes_of rfl rfl rfl rfl) (by rfl) (pa_cons (pv 1) pa_nil)))
      (pss_cons ps_never
      (pss_cons ps_never
      (pss_cons ps_never
      (pss_cons ps_never
      (pss_cons ps_never
      (pss_one ps_never)))))))), ?_⟩
    have ok0 : okK 2 d = isShD d := rfl
    refine ⟨_, rfl, fx, b, u, d, rfl, h0, fun z H1 s1 => ?_, fun z H1 s1 => ?_⟩
    rotate_left 1
    · rw [refC_no hrc (ok0.trans z)] at q
      exact q _ s1
    have hrc := refC_yes hrc (ok0.trans z)
    have sT1 := s1
    have ok1 : okK 2 e = isShD e := rfl
    refine ⟨_, rfl, fx, b, v, e, rfl, (h1.sm sT1), fun z H2 s2 => ?_, fun z H2 s2 => ?_⟩
    rotate_left 1
    · rw [refC_no hrc (ok1.trans z)] at q
      exact q _ (sT1.trans s2)
    have hrc := refC_yes hrc (ok1.trans z)
    have sT2 := sT1.trans s2
    cases hrc
def sp_are_alike (K : PySem.W.Frag) (c : Nat → Addr) : Sp := spRef [2, 2] K c
theorem ok_are_alike {f : Addr} {fd : FuncData} {c : Nat → Addr} {LE : Addr} (F : Fun K "are_alike" "are_alike" s_are_alike f fd) (T : Txt K mg) (TX : ExcN K mg c LE) (D_parting : ClX P w K mg base 8 "parting" ["one", "other"] (sp_parting K c)) : FnOk P w K mg base (L2.CX P w) 9 f fd ["one", "other"] (sp_are_alike K c) := by
  refine F.okX sc_are_alike (fun vs H Q E h => ?_) (fun cdv A outer s H vs Q E hr h => ?_)
  · obtain ⟨fx, b, ds, n, _, hl, _⟩ := h
    match vs, hl with
    | [_, _], _ => rfl
  · obtain ⟨fx, b, ds, n, hd, hl, hrc, q⟩ := h
    obtain ⟨u, v, rfl⟩ : ∃ u v, vs = [u, v] := by
      match vs, hl with
      | [a0, a1], _ => exact ⟨_, _, rfl⟩
    refine ⟨_, (pss_one (ps_ret (pe_cmpR op_isN (pe_ownX D_parting (hr.mono (by omega)) (takes_of rfl rfl rfl rfl) (by rfl) (pa_cons (pv 0) (pa_cons (pv 1) pa_nil))) pe_non (nomark _)))), ?_⟩
    exact ⟨_, rfl, _, rfl, fx, b, ds, n, hd, rfl, hrc, q⟩
def sp_is_round (K : PySem.W.Frag) (c : Nat → Addr) : Sp := fun vs H Q E => ∃ u t : V, vs = [u, t] ∧ spRef [0] K c [u] H Q E
theorem ok_is_round {f : Addr} {fd : FuncData} {c : Nat → Addr} {LE : Addr} (F : Fun K "is_round" "is_round" s_is_round f fd) (T : Txt K mg) (TX : ExcN K mg c LE) (D_need_layer : ClX P w K mg base 6 "need_layer" ["thing"] (sp_need_layer K c)) : FnOk P w K mg base (L2.CX P w) 7 f fd ["layer", "thing"] (sp_is_round K c) := by
  refine F.okX sc_is_round (fun vs H Q E h => ?_) (fun cdv A outer s H vs Q E hr h => ?_)
  · obtain ⟨u, t, rfl, _⟩ := h
    rfl
  · obtain ⟨u, t, rfl, fx, b, ds, n, hd, hl, hrc, q⟩ := h
    obtain ⟨d, rfl, h0⟩ : ∃ d, ds = [d] ∧ Dg K fx H b u d := by
      cases hd with
      | cons k0 t =>
        cases t
        exact ⟨_, rfl, k0⟩
    refine ⟨_, (pss_cons (ps_expr (pe_ownX D_need_layer (hr.mono (by omega)) (takes_of rfl rfl rfl rfl) (by rfl) (pa_cons (pv 0) pa_nil)))
      (pss_cons ps_never
      (pss_cons ps_never
      (pss_cons ps_never
      (pss_cons ps_never
      (pss_one ps_never)))))), ?_⟩
    have ok0 : okK 0 d = isLayD d := rfl
    refine ⟨_, rfl, fx, b, u, d, rfl, h0, fun z => ?_, fun z H1 s1 => ?_⟩
    · have hrc := refC_yes hrc (ok0.trans z)
      cases hrc
    · rw [refC_no hrc (ok0.trans z)] at q
      exact q _ s1
end

/-! ### a def held in a variable, one of two -/
def tGf (mg : Str → Option Value) (x : Str) : TE := fun _ H Q => ∀ f, mg x = some (.ref f) → Q (.ref f) H
def tCall2 (i : Nat) (mg : Str → Option Value) (x1 x2 : Str) (sp1 sp2 : Sp) (Ex : L2.St → XK) (t : TA) : TE := fun σ H Q => ∃ f, σ[i]? = some (some (.ref f)) ∧
  ((mg x1 = some (.ref f) ∧ t σ H fun vs H1 => sp1 vs H1 Q (Ex σ)) ∨ (mg x2 = some (.ref f) ∧ t σ H fun vs H1 => sp2 vs H1 Q (Ex σ)))
section
variable {X : Cx}
theorem pe_gfun {k : Nat} {x : Str} {ps : List Str} {sp : Sp} {pos : Pos} (C : ClX X.prog X.w X.K X.mg X.base k x ps sp) (hg : Gl X x) (hd : (x == ("__debug__" : Str)) = false := by decide) : PE X (.Name x pos) (tGf X.mg x) := by
  obtain ⟨f, fd, F, hk, hb, hm⟩ := C.ex
  exact ⟨fun pins s σ H Q I h => (pe_gref (pos := pos) hg hm hd).run pins s σ H Q I (h f hm)⟩
theorem pe_call2 {mg : Str → Option Value} {k1 k2 : Nat} {x1 x2 y : Str} {q1 q2 : List Str} {sp1 sp2 : Sp} {W : WX} {e : Expr} {es : List Expr} {t : TA} {p pos : Pos} (i : Nat) (C1 : ClX X.prog X.w X.K X.mg X.base k1 x1 q1 sp1) (C2 : ClX X.prog X.w X.K X.mg X.base k2 x2 q2 sp2) (r1 : Room k1 X.A) (r2 : Room k2 X.A)
    (tk : Takes X W) (ha : PA X (e :: es) t) (hmg : X.mg = mg := by rfl) (hN : X.N[i]? = some y := by rfl) (hv : Vis X.env.scope y := by first | exact Or.inl rfl | exact Or.inr (Or.inl rfl) | exact Or.inr (Or.inr rfl))
    (hdb : (y == ("__debug__" : Str)) = false := by decide) (hcd : (y == ("__classdict__" : Str)) = false := by decide)
    (he : starEach (e :: es) X.env = (false, eval e X.env) :: starEach es X.env := by rfl) (hpl : (backTo pos (starEach es X.env)).any (·.1) = false := by rfl) :
    PE X (.Call (.Name y p) (e :: es) [] pos) (tCall2 i mg x1 x2 sp1 sp2 (WE W) t) := by
  subst hmg
  obtain ⟨f1, d1, F1, hk1, hb1, hm1⟩ := C1.ex
  obtain ⟨f2, d2, F2, hk2, hb2, hm2⟩ := C2.ex
  refine ⟨fun pins s σ H Q I h => ?_⟩
  obtain ⟨f, hs, h⟩ := h
  refine wpAny_Call_Name_kw (thn ((pe_var (pos := p) hN hv hdb hcd).run pins s σ H (fun v H1 => v = .ref f ∧ H1 = H) I ⟨.ref f, hs, rfl, rfl⟩) fun u s1 ⟨v, H1, I1, rv, qv⟩ => ?_)
  obtain ⟨rfl, rfl⟩ := qv
  cases rv
  rcases h with ⟨m1, h⟩ | ⟨m2, h⟩
  · rw [hm1] at m1
    cases m1
    exact PySem.W.callWith_K (h₀ := X.base) I.ok.mod.kin hk1 (thn (ha.run pos pins s1 σ _ _ I1 h) fun us s2 ⟨vs, H2, I2, r, q⟩ => ⟨I2.kIn, run_fnS F1 r1 hb1 (passAt tk σ) I2 r q⟩) he hpl
  · rw [hm2] at m2
    cases m2
    exact PySem.W.callWith_K (h₀ := X.base) I.ok.mod.kin hk2 (thn (ha.run pos pins s1 σ _ _ I1 h) fun us s2 ⟨vs, H2, I2, r, q⟩ => ⟨I2.kIn, run_fnS F2 r2 hb2 (passAt tk σ) I2 r q⟩) he hpl
end

theorem ifY {b : Bool} {A B : Prop} (e : b = true) (h : A) : if b = true then A else B := by rw [if_pos e]; exact h
theorem ifN {b : Bool} {A B : Prop} (e : b = false) (h : B) : if b = true then A else B := by rw [if_neg (by rw [e]; decide)]; exact h
inductive Crow4 : Str → List Nat → Prop
  | length : Crow4 "length" [0]
  | window : Crow4 "window" [1]
  | sheet : Crow4 "sheet" [2]
  | least : Crow4 "least" [0]
  | turns : Crow4 "turns" [2]
  | round : Crow4 "round" [0]
  | list : Crow4 "list" [2, 3, 5]
  | drawing : Crow4 "drawing" [0, 3]
  | place : Crow4 "place" [1, 3]
  | picture : Crow4 "picture" [2, 3]
  | laid : Crow4 "laid" [0, 5]
  | parting : Crow4 "parting" [2, 2]
  | alike : Crow4 "alike" [2, 2]
theorem kva (f1 f2 f3 f4 : Addr) : mergeK [] ([((Sum.inr "length" : Key), V.ref f1), ((Sum.inr "window" : Key), V.ref f2), ((Sum.inr "sheet" : Key), V.ref f3), ((Sum.inr "least" : Key), V.ref f4)] : List (Key × V)) = ([((Sum.inr "length" : Key), V.ref f1), ((Sum.inr "window" : Key), V.ref f2), ((Sum.inr "sheet" : Key), V.ref f3), ((Sum.inr "least" : Key), V.ref f4)] : List (Key × V)) := by kernel_rfl
theorem kvb (f1 f2 f3 f4 f5 : Addr) : putK ([((Sum.inr "length" : Key), V.ref f1), ((Sum.inr "window" : Key), V.ref f2), ((Sum.inr "sheet" : Key), V.ref f3), ((Sum.inr "least" : Key), V.ref f4)] : List (Key × V)) (Sum.inr "turns" : Key) (.ref f5) = ([((Sum.inr "length" : Key), V.ref f1), ((Sum.inr "window" : Key), V.ref f2), ((Sum.inr "sheet" : Key), V.ref f3), ((Sum.inr "least" : Key), V.ref f4), ((Sum.inr "turns" : Key), V.ref f5)] : List (Key × V)) := by kernel_rfl
theorem kvc (g1 g2 g3 g4 g5 : Addr) : mergeK [] ([((Sum.inr "drawing" : Key), V.ref g1), ((Sum.inr "place" : Key), V.ref g2), ((Sum.inr "picture" : Key), V.ref g3), ((Sum.inr "laid" : Key), V.ref g4), ((Sum.inr "parting" : Key), V.ref g5)] : List (Key × V)) = ([((Sum.inr "drawing" : Key), V.ref g1), ((Sum.inr "place" : Key), V.ref g2), ((Sum.inr "picture" : Key), V.ref g3), ((Sum.inr "laid" : Key), V.ref g4), ((Sum.inr "parting" : Key), V.ref g5)] : List (Key × V)) := by kernel_rfl
theorem kvd (g1 g2 g3 g4 g5 g6 : Addr) : putK ([((Sum.inr "drawing" : Key), V.ref g1), ((Sum.inr "place" : Key), V.ref g2), ((Sum.inr "picture" : Key), V.ref g3), ((Sum.inr "laid" : Key), V.ref g4), ((Sum.inr "parting" : Key), V.ref g5)] : List (Key × V)) (Sum.inr "alike" : Key) (.ref g6) = ([((Sum.inr "drawing" : Key), V.ref g1), ((Sum.inr "place" : Key), V.ref g2), ((Sum.inr "picture" : Key), V.ref g3), ((Sum.inr "laid" : Key), V.ref g4), ((Sum.inr "parting" : Key), V.ref g5), ((Sum.inr "alike" : Key), V.ref g6)] : List (Key × V)) := by kernel_rfl
section
variable {P : Program} {w : World} {K : PySem.W.Frag} {mg : Str → Option Value} {base : Heap}
def sp__law_call (K : PySem.W.Frag) (c : Nat → Addr) : Sp := fun vs H Q E => ∃ (z : Str) (A : Addr) (us : List V) (ks : List Nat), vs = [.str z, .ref A] ∧ SqL K H A us ∧ Crow4 z ks ∧ spRef ks K c us H Q E
theorem ok__law_call {f : Addr} {fd : FuncData} {c : Nat → Addr} {LE : Addr} (F : Fun K "_law_call" "_law_call" s__law_call f fd) (T : Txt K mg) (TX : ExcN K mg c LE) (D_is_round : ClX P w K mg base 7 "is_round" ["layer", "thing"] (sp_is_round K c)) (D_pictures_from : ClX P w K mg base 8 "pictures_from" ["sheet", "moment", "many"] (sp_pictures_from K c)) (D_layer_length : ClX P w K mg base 7 "layer_length" ["layer"] (sp_layer_length K c)) (D_window_length : ClX P w K mg base 7 "window_length" ["window"] (sp_window_length K c)) (D_sheet_length : ClX P w K mg base 8 "sheet_length" ["sheet"] (sp_sheet_length K c)) (D_least_round : ClX P w K mg base 7 "least_round" ["layer"] (sp_least_round K c)) (D_sheet_round : ClX P w K mg base 8 "sheet_round" ["sheet"] (sp_sheet_round K c)) (D_drawing_at : ClX P w K mg base 7 "drawing_at" ["layer", "moment"] (sp_drawing_at K c)) (D_place_at : ClX P w K mg base 7 "place_at" ["window", "moment"] (sp_place_at K c)) (D_picture_at : ClX P w K mg base 8 "picture_at" ["sheet", "moment"] (sp_picture_at K c)) (D_laid : ClX P w K mg base 7 "laid" ["layer", "many"] (sp_laid K c)) (D_parting : ClX P w K mg base 8 "parting" ["one", "other"] (sp_parting K c)) (D_are_alike : ClX P w K mg base 9 "are_alike" ["one", "other"] (sp_are_alike K c)) : FnOk P w K mg base (L2.CX P w) 10 f fd ["_law_name", "_law_some"] (sp__law_call K c) := by
  refine F.okX sc__law_call (fun vs H Q E h => ?_) (fun cdv A outer s H vs Q E hr h => ?_)
  · obtain ⟨z, A, us, ks, rfl, _⟩ := h
    rfl
  · obtain ⟨z, A, us, ks, rfl, hA, hc, fx, b, ds, n, hd, hl, hrc, q⟩ := h
    refine ⟨_, (pss_cons (ps_set (i := 2) sc__law_call.nd rfl (Or.inl rfl) (pe_disp (pps_cons pe_str (pe_gfun D_layer_length (by rfl)) (pps_cons pe_str (pe_gfun D_window_length (by rfl)) (pps_cons pe_str (pe_gfun D_sheet_length (by rfl)) (pps_cons pe_str (pe_gfun D_least_round (by rfl)) pps_nil)))) (by rfl) (by rfl) (fun z => by cases z) (by decide)))
      (pss_cons (ps_asg (pe_gfun D_sheet_round (by rfl)) (pg_sub (pv 2) pe_str (set_dict (Nat.lt_of_le_of_lt (Nat.add_le_add_left (show 1 ≤ 64 by decide) _) hr.units))))
      (pss_cons (ps_if (pt_cmp (pc_din (Nat.lt_of_le_of_lt (Nat.add_le_add_left (show 1 ≤ 64 by decide) _) hr.units) (pv 0) (pv 2)) (by rfl)) (pss_cons (ps_set (i := 3) sc__law_call.nd rfl (Or.inl rfl) (pe_dget (Nat.lt_of_le_of_lt (Nat.add_le_add_left (show 1 ≤ 64 by decide) _) hr.units) (pv 2) (pv 0) (fun _ _ => rfl)))
      (pss_one (ps_ret (pe_callN 3 (takes_of rfl rfl rfl rfl) (pa_cons (pe_ix ix_list (pv 1) pe_int (fun _ _ => rfl)) pa_nil))))) pss_nil)
      (pss_cons (ps_if (pt_cmpR op_eq (pv 0) pe_str (nomark _)) (pss_one (ps_ret (pe_ownX D_is_round (hr.mono (by omega)) (takes_of rfl rfl rfl rfl) (by rfl) (pa_cons (pe_ix ix_list (pv 1) pe_int (fun _ _ => rfl)) (pa_cons (pe_tup (pa_cons pe_int (pa_cons pe_int pa_nil))) pa_nil))))) pss_nil)
      (pss_cons (ps_if (pt_cmpR op_eq (pv 0) pe_str (nomark _)) (pss_one (ps_ret (pe_ownX D_pictures_from (hr.mono (by omega)) (takes_of rfl rfl rfl rfl) (by rfl) (pa_cons (pe_ix ix_list (pv 1) pe_int (fun _ _ => rfl)) (pa_cons (pe_ix ix_list (pv 1) pe_int (fun _ _ => rfl)) (pa_cons (pe_ix ix_list (pv 1) pe_int (fun _ _ => rfl)) pa_nil)))))) pss_nil)
      (pss_cons (ps_set (i := 4) sc__law_call.nd rfl (Or.inl rfl) (pe_disp (pps_cons pe_str (pe_gfun D_drawing_at (by rfl)) (pps_cons pe_str (pe_gfun D_place_at (by rfl)) (pps_cons pe_str (pe_gfun D_picture_at (by rfl)) (pps_cons pe_str (pe_gfun D_laid (by rfl)) (pps_cons pe_str (pe_gfun D_parting (by rfl)) pps_nil))))) (by rfl) (by rfl) (fun z => by cases z) (by decide)))
      (pss_cons (ps_asg (pe_gfun D_are_alike (by rfl)) (pg_sub (pv 4) pe_str (set_dict (Nat.lt_of_le_of_lt (Nat.add_le_add_left (show 1 ≤ 64 by decide) _) hr.units))))
      (pss_cons (ps_set (i := 3) sc__law_call.nd rfl (Or.inl rfl) (pe_dget (Nat.lt_of_le_of_lt (Nat.add_le_add_left (show 1 ≤ 64 by decide) _) hr.units) (pv 4) (pv 0) (fun _ _ => rfl)))
      (pss_one (ps_ret (pe_callN 3 (takes_of rfl rfl rfl rfl) (pa_cons (pe_ix ix_list (pv 1) pe_int (fun _ _ => rfl)) (pa_cons (pe_ix ix_list (pv 1) pe_int (fun _ _ => rfl)) pa_nil))))))))))))), ?_⟩
    refine fun p1 np1 => ?_
    refine fun f1 m1 => fun f2 m2 => fun f3 m3 => fun f4 m4 => ⟨upd_same, ([((Sum.inr "length" : Key), V.ref f1), ((Sum.inr "window" : Key), V.ref f2), ((Sum.inr "sheet" : Key), V.ref f3), ((Sum.inr "least" : Key), V.ref f4)] : List (Key × V)), rfl, Nat.le_of_ble_eq_true rfl, ?_⟩
    rw [upd_upd, kva]
    refine fun f5 m5 => ⟨_, rfl, p1, _, rfl, DPut.k (k := Sum.inr "turns") upd_same (Nat.lt_of_lt_of_le (show 4 < 5 by decide) (by decide)), ?_⟩
    rw [upd_upd, kvb]
    obtain ⟨s1, e1⟩ := new_at (.dK ([((Sum.inr "length" : Key), V.ref f1), ((Sum.inr "window" : Key), V.ref f2), ((Sum.inr "sheet" : Key), V.ref f3), ((Sum.inr "least" : Key), V.ref f4), ((Sum.inr "turns" : Key), V.ref f5)] : List (Key × V))) np1
    generalize upd H p1 (.dK ([((Sum.inr "length" : Key), V.ref f1), ((Sum.inr "window" : Key), V.ref f2), ((Sum.inr "sheet" : Key), V.ref f3), ((Sum.inr "least" : Key), V.ref f4), ((Sum.inr "turns" : Key), V.ref f5)] : List (Key × V))) = H1 at s1 e1 ⊢
    cases hc with
    | length =>
      obtain ⟨u, rfl⟩ : ∃ u, us = [u] := by
        match us, hl with
        | [a0], _ => exact ⟨_, rfl⟩
      refine ⟨_, rfl, _, rfl, p1, _, rfl, DGet.k (k := Sum.inr "length") e1, _, rfl, ifY (by kernel_rfl) ?_⟩
      refine ⟨_, rfl, _, rfl, p1, .ref f1, rfl, .inl ⟨_, Sum.inr "length", .inl e1, rfl, by kernel_rfl⟩, ?_⟩
      exact ⟨f1, rfl, _, _, _, _, D_layer_length, hr.mono (by omega), m1, _, rfl, A, _, 0, _, rfl, rfl, (s1.seq hA), rfl, fx, b, ds, n, hd.sm s1, rfl, hrc, fun H' s' => q _ (s1.trans s')⟩
    | window =>
      obtain ⟨u, rfl⟩ : ∃ u, us = [u] := by
        match us, hl with
        | [a0], _ => exact ⟨_, rfl⟩
      refine ⟨_, rfl, _, rfl, p1, _, rfl, DGet.k (k := Sum.inr "window") e1, _, rfl, ifY (by kernel_rfl) ?_⟩
      refine ⟨_, rfl, _, rfl, p1, .ref f2, rfl, .inl ⟨_, Sum.inr "window", .inl e1, rfl, by kernel_rfl⟩, ?_⟩
      exact ⟨f2, rfl, _, _, _, _, D_window_length, hr.mono (by omega), m2, _, rfl, A, _, 0, _, rfl, rfl, (s1.seq hA), rfl, fx, b, ds, n, hd.sm s1, rfl, hrc, fun H' s' => q _ (s1.trans s')⟩
    | sheet =>
      obtain ⟨u, rfl⟩ : ∃ u, us = [u] := by
        match us, hl with
        | [a0], _ => exact ⟨_, rfl⟩
      refine ⟨_, rfl, _, rfl, p1, _, rfl, DGet.k (k := Sum.inr "sheet") e1, _, rfl, ifY (by kernel_rfl) ?_⟩
      refine ⟨_, rfl, _, rfl, p1, .ref f3, rfl, .inl ⟨_, Sum.inr "sheet", .inl e1, rfl, by kernel_rfl⟩, ?_⟩
      exact ⟨f3, rfl, _, _, _, _, D_sheet_length, hr.mono (by omega), m3, _, rfl, A, _, 0, _, rfl, rfl, (s1.seq hA), rfl, fx, b, ds, n, hd.sm s1, rfl, hrc, fun H' s' => q _ (s1.trans s')⟩
    | least =>
      obtain ⟨u, rfl⟩ : ∃ u, us = [u] := by
        match us, hl with
        | [a0], _ => exact ⟨_, rfl⟩
      refine ⟨_, rfl, _, rfl, p1, _, rfl, DGet.k (k := Sum.inr "least") e1, _, rfl, ifY (by kernel_rfl) ?_⟩
      refine ⟨_, rfl, _, rfl, p1, .ref f4, rfl, .inl ⟨_, Sum.inr "least", .inl e1, rfl, by kernel_rfl⟩, ?_⟩
      exact ⟨f4, rfl, _, _, _, _, D_least_round, hr.mono (by omega), m4, _, rfl, A, _, 0, _, rfl, rfl, (s1.seq hA), rfl, fx, b, ds, n, hd.sm s1, rfl, hrc, fun H' s' => q _ (s1.trans s')⟩
    | turns =>
      obtain ⟨u, rfl⟩ : ∃ u, us = [u] := by
        match us, hl with
        | [a0], _ => exact ⟨_, rfl⟩
      refine ⟨_, rfl, _, rfl, p1, _, rfl, DGet.k (k := Sum.inr "turns") e1, _, rfl, ifY (by kernel_rfl) ?_⟩
      refine ⟨_, rfl, _, rfl, p1, .ref f5, rfl, .inl ⟨_, Sum.inr "turns", .inl e1, rfl, by kernel_rfl⟩, ?_⟩
      exact ⟨f5, rfl, _, _, _, _, D_sheet_round, hr.mono (by omega), m5, _, rfl, A, _, 0, _, rfl, rfl, (s1.seq hA), rfl, fx, b, ds, n, hd.sm s1, rfl, hrc, fun H' s' => q _ (s1.trans s')⟩
    | round =>
      obtain ⟨u, rfl⟩ : ∃ u, us = [u] := by
        match us, hl with
        | [a0], _ => exact ⟨_, rfl⟩
      refine ⟨_, rfl, _, rfl, p1, _, rfl, DGet.k (k := Sum.inr "round") e1, _, rfl, ifN (by kernel_rfl) ?_⟩
      refine ⟨_, rfl, rfl, _, rfl, ifY (by decide +kernel) ?_⟩
      refine ⟨_, rfl, A, _, 0, _, rfl, rfl, (s1.seq hA), rfl, (by show 2 ≤ sizeLine; decide), fun p2 np2 => ?_⟩
      have s2 := s1.trans (same_upd (o := .tup [.int 0, .int 1]) np2)
      exact ⟨u, _, rfl, fx, b, ds, n, hd.sm s2, rfl, hrc, fun H' s' => q _ (s2.trans s')⟩
    | list =>
      obtain ⟨u, v, x, rfl⟩ : ∃ u v x, us = [u, v, x] := by
        match us, hl with
        | [a0, a1, a2], _ => exact ⟨_, _, _, rfl⟩
      refine ⟨_, rfl, _, rfl, p1, _, rfl, DGet.k (k := Sum.inr "list") e1, _, rfl, ifN (by kernel_rfl) ?_⟩
      refine ⟨_, rfl, rfl, _, rfl, ifN (by decide +kernel) ?_⟩
      refine ⟨_, rfl, rfl, _, rfl, ifY (by decide +kernel) ?_⟩
      exact ⟨_, rfl, A, _, 0, _, rfl, rfl, (s1.seq hA), rfl, _, rfl, A, _, 1, _, rfl, rfl, (s1.seq hA), rfl, _, rfl, A, _, 2, _, rfl, rfl, (s1.seq hA), rfl, fx, b, ds, n, hd.sm s1, rfl, hrc, fun H' s' => q _ (s1.trans s')⟩
    | drawing =>
      obtain ⟨u, v, rfl⟩ : ∃ u v, us = [u, v] := by
        match us, hl with
        | [a0, a1], _ => exact ⟨_, _, rfl⟩
      refine ⟨_, rfl, _, rfl, p1, _, rfl, DGet.k (k := Sum.inr "drawing") e1, _, rfl, ifN (by kernel_rfl) ?_⟩
      refine ⟨_, rfl, rfl, _, rfl, ifN (by decide +kernel) ?_⟩
      refine ⟨_, rfl, rfl, _, rfl, ifN (by decide +kernel) ?_⟩
      refine fun p2 np2 => ?_
      refine fun g1 k1 => fun g2 k2 => fun g3 k3 => fun g4 k4 => fun g5 k5 => ⟨upd_same, ([((Sum.inr "drawing" : Key), V.ref g1), ((Sum.inr "place" : Key), V.ref g2), ((Sum.inr "picture" : Key), V.ref g3), ((Sum.inr "laid" : Key), V.ref g4), ((Sum.inr "parting" : Key), V.ref g5)] : List (Key × V)), rfl, Nat.le_of_ble_eq_true rfl, ?_⟩
      rw [upd_upd, kvc]
      refine fun g6 k6 => ⟨_, rfl, p2, _, rfl, DPut.k (k := Sum.inr "alike") upd_same (Nat.lt_of_lt_of_le (show 5 < 6 by decide) (by decide)), ?_⟩
      rw [upd_upd, kvd]
      obtain ⟨s2, e2⟩ := new_at (.dK ([((Sum.inr "drawing" : Key), V.ref g1), ((Sum.inr "place" : Key), V.ref g2), ((Sum.inr "picture" : Key), V.ref g3), ((Sum.inr "laid" : Key), V.ref g4), ((Sum.inr "parting" : Key), V.ref g5), ((Sum.inr "alike" : Key), V.ref g6)] : List (Key × V))) np2
      generalize upd H1 p2 (.dK ([((Sum.inr "drawing" : Key), V.ref g1), ((Sum.inr "place" : Key), V.ref g2), ((Sum.inr "picture" : Key), V.ref g3), ((Sum.inr "laid" : Key), V.ref g4), ((Sum.inr "parting" : Key), V.ref g5), ((Sum.inr "alike" : Key), V.ref g6)] : List (Key × V))) = H2 at s2 e2 ⊢
      have s12 := s1.trans s2
      refine ⟨_, rfl, _, rfl, p2, .ref g1, rfl, .inl ⟨_, Sum.inr "drawing", .inl e2, rfl, by kernel_rfl⟩, ?_⟩
      exact ⟨g1, rfl, _, _, _, _, D_drawing_at, hr.mono (by omega), k1, _, rfl, A, _, 0, _, rfl, rfl, (s12.seq hA), rfl, _, rfl, A, _, 1, _, rfl, rfl, (s12.seq hA), rfl, fx, b, ds, n, hd.sm s12, rfl, hrc, fun H' s' => q _ (s12.trans s')⟩
    | place =>
      obtain ⟨u, v, rfl⟩ : ∃ u v, us = [u, v] := by
        match us, hl with
        | [a0, a1], _ => exact ⟨_, _, rfl⟩
      refine ⟨_, rfl, _, rfl, p1, _, rfl, DGet.k (k := Sum.inr "place") e1, _, rfl, ifN (by kernel_rfl) ?_⟩
      refine ⟨_, rfl, rfl, _, rfl, ifN (by decide +kernel) ?_⟩
      refine ⟨_, rfl, rfl, _, rfl, ifN (by decide +kernel) ?_⟩
      refine fun p2 np2 => ?_
      refine fun g1 k1 => fun g2 k2 => fun g3 k3 => fun g4 k4 => fun g5 k5 => ⟨upd_same, ([((Sum.inr "drawing" : Key), V.ref g1), ((Sum.inr "place" : Key), V.ref g2), ((Sum.inr "picture" : Key), V.ref g3), ((Sum.inr "laid" : Key), V.ref g4), ((Sum.inr "parting" : Key), V.ref g5)] : List (Key × V)), rfl, Nat.le_of_ble_eq_true rfl, ?_⟩
      rw [upd_upd, kvc]
      refine fun g6 k6 => ⟨_, rfl, p2, _, rfl, DPut.k (k := Sum.inr "alike") upd_same (Nat.lt_of_lt_of_le (show 5 < 6 by decide) (by decide)), ?_⟩
      rw [upd_upd, kvd]
      obtain ⟨s2, e2⟩ := new_at (.dK ([((Sum.inr "drawing" : Key), V.ref g1), ((Sum.inr "place" : Key), V.ref g2), ((Sum.inr "picture" : Key), V.ref g3), ((Sum.inr "laid" : Key), V.ref g4), ((Sum.inr "parting" : Key), V.ref g5), ((Sum.inr "alike" : Key), V.ref g6)] : List (Key × V))) np2
      generalize upd H1 p2 (.dK ([((Sum.inr "drawing" : Key), V.ref g1), ((Sum.inr "place" : Key), V.ref g2), ((Sum.inr "picture" : Key), V.ref g3), ((Sum.inr "laid" : Key), V.ref g4), ((Sum.inr "parting" : Key), V.ref g5), ((Sum.inr "alike" : Key), V.ref g6)] : List (Key × V))) = H2 at s2 e2 ⊢
      have s12 := s1.trans s2
      refine ⟨_, rfl, _, rfl, p2, .ref g2, rfl, .inl ⟨_, Sum.inr "place", .inl e2, rfl, by kernel_rfl⟩, ?_⟩
      exact ⟨g2, rfl, _, _, _, _, D_place_at, hr.mono (by omega), k2, _, rfl, A, _, 0, _, rfl, rfl, (s12.seq hA), rfl, _, rfl, A, _, 1, _, rfl, rfl, (s12.seq hA), rfl, fx, b, ds, n, hd.sm s12, rfl, hrc, fun H' s' => q _ (s12.trans s')⟩
    | picture =>
      obtain ⟨u, v, rfl⟩ : ∃ u v, us = [u, v] := by
        match us, hl with
        | [a0, a1], _ => exact ⟨_, _, rfl⟩
      refine ⟨_, rfl, _, rfl, p1, _, rfl, DGet.k (k := Sum.inr "picture") e1, _, rfl, ifN (by kernel_rfl) ?_⟩
      refine ⟨_, rfl, rfl, _, rfl, ifN (by decide +kernel) ?_⟩
      refine ⟨_, rfl, rfl, _, rfl, ifN (by decide +kernel) ?_⟩
      refine fun p2 np2 => ?_
      refine fun g1 k1 => fun g2 k2 => fun g3 k3 => fun g4 k4 => fun g5 k5 => ⟨upd_same, ([((Sum.inr "drawing" : Key), V.ref g1), ((Sum.inr "place" : Key), V.ref g2), ((Sum.inr "picture" : Key), V.ref g3), ((Sum.inr "laid" : Key), V.ref g4), ((Sum.inr "parting" : Key), V.ref g5)] : List (Key × V)), rfl, Nat.le_of_ble_eq_true rfl, ?_⟩
      rw [upd_upd, kvc]
      refine fun g6 k6 => ⟨_, rfl, p2, _, rfl, DPut.k (k := Sum.inr "alike") upd_same (Nat.lt_of_lt_of_le (show 5 < 6 by decide) (by decide)), ?_⟩
      rw [upd_upd, kvd]
      obtain ⟨s2, e2⟩ := new_at (.dK ([((Sum.inr "drawing" : Key), V.ref g1), ((Sum.inr "place" : Key), V.ref g2), ((Sum.inr "picture" : Key), V.ref g3), ((Sum.inr "laid" : Key), V.ref g4), ((Sum.inr "parting" : Key), V.ref g5), ((Sum.inr "alike" : Key), V.ref g6)] : List (Key × V))) np2
      generalize upd H1 p2 (.dK ([((Sum.inr "drawing" : Key), V.ref g1), ((Sum.inr "place" : Key), V.ref g2), ((Sum.inr "picture" : Key), V.ref g3), ((Sum.inr "laid" : Key), V.ref g4), ((Sum.inr "parting" : Key), V.ref g5), ((Sum.inr "alike" : Key), V.ref g6)] : List (Key × V))) = H2 at s2 e2 ⊢
      have s12 := s1.trans s2
      refine ⟨_, rfl, _, rfl, p2, .ref g3, rfl, .inl ⟨_, Sum.inr "picture", .inl e2, rfl, by kernel_rfl⟩, ?_⟩
      exact ⟨g3, rfl, _, _, _, _, D_picture_at, hr.mono (by omega), k3, _, rfl, A, _, 0, _, rfl, rfl, (s12.seq hA), rfl, _, rfl, A, _, 1, _, rfl, rfl, (s12.seq hA), rfl, fx, b, ds, n, hd.sm s12, rfl, hrc, fun H' s' => q _ (s12.trans s')⟩
    | laid =>
      obtain ⟨u, v, rfl⟩ : ∃ u v, us = [u, v] := by
        match us, hl with
        | [a0, a1], _ => exact ⟨_, _, rfl⟩
      refine ⟨_, rfl, _, rfl, p1, _, rfl, DGet.k (k := Sum.inr "laid") e1, _, rfl, ifN (by kernel_rfl) ?_⟩
      refine ⟨_, rfl, rfl, _, rfl, ifN (by decide +kernel) ?_⟩
      refine ⟨_, rfl, rfl, _, rfl, ifN (by decide +kernel) ?_⟩
      refine fun p2 np2 => ?_
      refine fun g1 k1 => fun g2 k2 => fun g3 k3 => fun g4 k4 => fun g5 k5 => ⟨upd_same, ([((Sum.inr "drawing" : Key), V.ref g1), ((Sum.inr "place" : Key), V.ref g2), ((Sum.inr "picture" : Key), V.ref g3), ((Sum.inr "laid" : Key), V.ref g4), ((Sum.inr "parting" : Key), V.ref g5)] : List (Key × V)), rfl, Nat.le_of_ble_eq_true rfl, ?_⟩
      rw [upd_upd, kvc]
      refine fun g6 k6 => ⟨_, rfl, p2, _, rfl, DPut.k (k := Sum.inr "alike") upd_same (Nat.lt_of_lt_of_le (show 5 < 6 by decide) (by decide)), ?_⟩
      rw [upd_upd, kvd]
      obtain ⟨s2, e2⟩ := new_at (.dK ([((Sum.inr "drawing" : Key), V.ref g1), ((Sum.inr "place" : Key), V.ref g2), ((Sum.inr "picture" : Key), V.ref g3), ((Sum.inr "laid" : Key), V.ref g4), ((Sum.inr "parting" : Key), V.ref g5), ((Sum.inr "alike" : Key), V.ref g6)] : List (Key × V))) np2
      generalize upd H1 p2 (.dK ([((Sum.inr "drawing" : Key), V.ref g1), ((Sum.inr "place" : Key), V.ref g2), ((Sum.inr "picture" : Key), V.ref g3), ((Sum.inr "laid" : Key), V.ref g4), ((Sum.inr "parting" : Key), V.ref g5), ((Sum.inr "alike" : Key), V.ref g6)] : List (Key × V))) = H2 at s2 e2 ⊢
      have s12 := s1.trans s2
      refine ⟨_, rfl, _, rfl, p2, .ref g4, rfl, .inl ⟨_, Sum.inr "laid", .inl e2, rfl, by kernel_rfl⟩, ?_⟩
      exact ⟨g4, rfl, _, _, _, _, D_laid, hr.mono (by omega), k4, _, rfl, A, _, 0, _, rfl, rfl, (s12.seq hA), rfl, _, rfl, A, _, 1, _, rfl, rfl, (s12.seq hA), rfl, fx, b, ds, n, hd.sm s12, rfl, hrc, fun H' s' => q _ (s12.trans s')⟩
    | parting =>
      obtain ⟨u, v, rfl⟩ : ∃ u v, us = [u, v] := by
        match us, hl with
        | [a0, a1], _ => exact ⟨_, _, rfl⟩
      refine ⟨_, rfl, _, rfl, p1, _, rfl, DGet.k (k := Sum.inr "parting") e1, _, rfl, ifN (by kernel_rfl) ?_⟩
      refine ⟨_, rfl, rfl, _, rfl, ifN (by decide +kernel) ?_⟩
      refine ⟨_, rfl, rfl, _, rfl, ifN (by decide +kernel) ?_⟩
      refine fun p2 np2 => ?_
      refine fun g1 k1 => fun g2 k2 => fun g3 k3 => fun g4 k4 => fun g5 k5 => ⟨upd_same, ([((Sum.inr "drawing" : Key), V.ref g1), ((Sum.inr "place" : Key), V.ref g2), ((Sum.inr "picture" : Key), V.ref g3), ((Sum.inr "laid" : Key), V.ref g4), ((Sum.inr "parting" : Key), V.ref g5)] : List (Key × V)), rfl, Nat.le_of_ble_eq_true rfl, ?_⟩
      rw [upd_upd, kvc]
      refine fun g6 k6 => ⟨_, rfl, p2, _, rfl, DPut.k (k := Sum.inr "alike") upd_same (Nat.lt_of_lt_of_le (show 5 < 6 by decide) (by decide)), ?_⟩
      rw [upd_upd, kvd]
      obtain ⟨s2, e2⟩ := new_at (.dK ([((Sum.inr "drawing" : Key), V.ref g1), ((Sum.inr "place" : Key), V.ref g2), ((Sum.inr "picture" : Key), V.ref g3), ((Sum.inr "laid" : Key), V.ref g4), ((Sum.inr "parting" : Key), V.ref g5), ((Sum.inr "alike" : Key), V.ref g6)] : List (Key × V))) np2
      generalize upd H1 p2 (.dK ([((Sum.inr "drawing" : Key), V.ref g1), ((Sum.inr "place" : Key), V.ref g2), ((Sum.inr "picture" : Key), V.ref g3), ((Sum.inr "laid" : Key), V.ref g4), ((Sum.inr "parting" : Key), V.ref g5), ((Sum.inr "alike" : Key), V.ref g6)] : List (Key × V))) = H2 at s2 e2 ⊢
      have s12 := s1.trans s2
      refine ⟨_, rfl, _, rfl, p2, .ref g5, rfl, .inl ⟨_, Sum.inr "parting", .inl e2, rfl, by kernel_rfl⟩, ?_⟩
      exact ⟨g5, rfl, _, _, _, _, D_parting, hr.mono (by omega), k5, _, rfl, A, _, 0, _, rfl, rfl, (s12.seq hA), rfl, _, rfl, A, _, 1, _, rfl, rfl, (s12.seq hA), rfl, fx, b, ds, n, hd.sm s12, rfl, hrc, fun H' s' => q _ (s12.trans s')⟩
    | alike =>
      obtain ⟨u, v, rfl⟩ : ∃ u v, us = [u, v] := by
        match us, hl with
        | [a0, a1], _ => exact ⟨_, _, rfl⟩
      refine ⟨_, rfl, _, rfl, p1, _, rfl, DGet.k (k := Sum.inr "alike") e1, _, rfl, ifN (by kernel_rfl) ?_⟩
      refine ⟨_, rfl, rfl, _, rfl, ifN (by decide +kernel) ?_⟩
      refine ⟨_, rfl, rfl, _, rfl, ifN (by decide +kernel) ?_⟩
      refine fun p2 np2 => ?_
      refine fun g1 k1 => fun g2 k2 => fun g3 k3 => fun g4 k4 => fun g5 k5 => ⟨upd_same, ([((Sum.inr "drawing" : Key), V.ref g1), ((Sum.inr "place" : Key), V.ref g2), ((Sum.inr "picture" : Key), V.ref g3), ((Sum.inr "laid" : Key), V.ref g4), ((Sum.inr "parting" : Key), V.ref g5)] : List (Key × V)), rfl, Nat.le_of_ble_eq_true rfl, ?_⟩
      rw [upd_upd, kvc]
      refine fun g6 k6 => ⟨_, rfl, p2, _, rfl, DPut.k (k := Sum.inr "alike") upd_same (Nat.lt_of_lt_of_le (show 5 < 6 by decide) (by decide)), ?_⟩
      rw [upd_upd, kvd]
      obtain ⟨s2, e2⟩ := new_at (.dK ([((Sum.inr "drawing" : Key), V.ref g1), ((Sum.inr "place" : Key), V.ref g2), ((Sum.inr "picture" : Key), V.ref g3), ((Sum.inr "laid" : Key), V.ref g4), ((Sum.inr "parting" : Key), V.ref g5), ((Sum.inr "alike" : Key), V.ref g6)] : List (Key × V))) np2
      generalize upd H1 p2 (.dK ([((Sum.inr "drawing" : Key), V.ref g1), ((Sum.inr "place" : Key), V.ref g2), ((Sum.inr "picture" : Key), V.ref g3), ((Sum.inr "laid" : Key), V.ref g4), ((Sum.inr "parting" : Key), V.ref g5), ((Sum.inr "alike" : Key), V.ref g6)] : List (Key × V))) = H2 at s2 e2 ⊢
      have s12 := s1.trans s2
      refine ⟨_, rfl, _, rfl, p2, .ref g6, rfl, .inl ⟨_, Sum.inr "alike", .inl e2, rfl, by kernel_rfl⟩, ?_⟩
      exact ⟨g6, rfl, _, _, _, _, D_are_alike, hr.mono (by omega), k6, _, rfl, A, _, 0, _, rfl, rfl, (s12.seq hA), rfl, _, rfl, A, _, 1, _, rfl, rfl, (s12.seq hA), rfl, fx, b, ds, n, hd.sm s12, rfl, hrc, fun H' s' => q _ (s12.trans s')⟩
end

section
variable {P : Program} {w : World} {K : PySem.W.Frag} {mg : Str → Option Value} {base : Heap}
def sp__law_cell_at (K : PySem.W.Frag) : Sp := fun vs H Q _ => ∃ (a : Addr) (ns : List Int) (k : Int), vs = [.ref a, .int k] ∧ SqL K H a (ns.map V.int) ∧ 0 ≤ k ∧ ∀ c, Q (.int c) H
theorem ok__law_cell_at {f : Addr} {fd : FuncData} (F : Fun K "_law_cell_at" "_law_cell_at" s__law_cell_at f fd) (T : Txt K mg) : FnOk P w K mg base CX0 1 f fd ["_law_script", "_law_k"] (sp__law_cell_at K) := by
  refine F.ok sc__law_cell_at (fun vs H Q E h => ?_) (fun cdv A outer s H vs Q E hr h => ?_)
  · obtain ⟨a, ns, k, rfl, _⟩ := h
    rfl
  · obtain ⟨a, ns, k, rfl, hS, hk, q⟩ := h
    refine ⟨_, (pss_cons (ps_if (pt_cmpR op_lt (pv 1) (pe_callB call_len_seq (by rfl) T.b_len (by decide +kernel) (pa_cons (pv 0) pa_nil)) (nomark _)) (pss_one (ps_ret (pe_ix ix_list (pv 0) (pv 1) (fun _ _ => rfl)))) pss_nil)
      (pss_one (ps_ret pe_int))), ?_⟩
    refine ⟨_, rfl, _, rfl, a, _, rfl, .inl hS, k, _, rfl, rfl, _, rfl, ite2 (fun e => ?_) (fun _ => q 0)⟩
    have e1 : k < ((ns.map V.int).length : Int) := of_decide_eq_true e
    rw [List.length_map] at e1
    have hj : k.toNat < ns.length := by omega
    have g : (ns.map V.int)[k.toNat]? = some (.int ns[k.toNat]) := by
      rw [List.getElem?_map, List.getElem?_eq_getElem hj]
      rfl
    exact ⟨_, rfl, _, rfl, a, _, k, _, rfl, rfl, hS, at_of (j := k.toNat) (by omega) g, q _⟩
def sp__law_state (K : PySem.W.Frag) : Sp := fun vs H Q _ => ∃ (a : Addr) (ns : List Int) (k : Int), vs = [.ref a, .int k] ∧ SqL K H a (ns.map V.int) ∧ 0 ≤ k ∧ ∀ H' p, Same H H' → H p = none → IsSt H' p → Q (.ref p) H'
theorem ok__law_state {f : Addr} {fd : FuncData} (F : Fun K "_law_state" "_law_state" s__law_state f fd) (T : Txt K mg) (D__law_cell_at : Cl P w K mg base 1 "_law_cell_at" ["_law_script", "_law_k"] (sp__law_cell_at K)) : FnOk P w K mg base CX0 2 f fd ["_law_script", "_law_k"] (sp__law_state K) := by
  refine F.ok sc__law_state (fun vs H Q E h => ?_) (fun cdv A outer s H vs Q E hr h => ?_)
  · obtain ⟨a, ns, k, rfl, _⟩ := h
    rfl
  · obtain ⟨a, ns, k, rfl, hS, hk, q⟩ := h
    refine ⟨_, (pss_cons (ps_set (i := 2) sc__law_state.nd rfl (Or.inl rfl) (pe_own D__law_cell_at (hr.mono (by omega)) (by rfl) (pa_cons (pv 0) (pa_cons (pv 1) pa_nil))))
      (pss_one (ps_ret (pe_lst (pa_cons (pe_callB (call_max2 rfl) (by rfl) T.b_max (by decide +kernel) (pa_cons pe_int (pa_cons (pe_op op_sub (pv 2) (pe_op op_pow pe_int pe_int)) pa_nil))) (pa_cons (pe_op op_modN (pv 2) pe_int) pa_nil)))))), ?_⟩
    refine ⟨_, rfl, _, rfl, a, ns, k, rfl, hS, hk, fun c => ?_⟩
    refine ⟨_, rfl, 10, 18, rfl, rfl, ⟨by decide, by decide, by decide⟩, _, _, rfl, rfl, _, _, rfl, _, rfl, _, _, rfl, rfl, (by show (2147483647 : Int) ≠ 0; decide), (by show 2 ≤ sizeLine; decide), fun p np => ?_⟩
    refine q _ p (same_upd np) np ⟨_, _, upd_same, ?_, (fm (by decide)).1, (fm (by decide)).2⟩
    split <;> omega
def sp__law_take (K : PySem.W.Frag) : Sp := fun vs H Q _ => ∃ (st : Addr) (n : Int), vs = [.ref st, .int n] ∧ IsSt H st ∧ 0 < n ∧ n < 1073741824 ∧ ∀ r H', 0 ≤ r → r < n → Gr st H H' → Q (.int r) H'
theorem ok__law_take {f : Addr} {fd : FuncData} (F : Fun K "_law_take" "_law_take" s__law_take f fd) (T : Txt K mg) : FnOk P w K mg base CX0 1 f fd ["_law_state_here", "_law_many"] (sp__law_take K) := by
  refine F.ok sc__law_take (fun vs H Q E h => ?_) (fun cdv A outer s H vs Q E hr h => ?_)
  · obtain ⟨st, n, rfl, _⟩ := h
    rfl
  · obtain ⟨st, n, rfl, ⟨a, b, hs, ha, hb0, hb1⟩, n0, n1, q⟩ := h
    refine ⟨_, (pss_cons (ps_if (pt_cmpR op_gt (pe_ix ix_list (pv 0) pe_int (fun _ _ => rfl)) pe_int (nomark _)) (pss_cons (ps_set (i := 2) sc__law_take.nd rfl (Or.inl rfl) (pe_op op_modN (pe_ix ix_list (pv 0) pe_int (fun _ _ => rfl)) (pv 1)))
      (pss_cons (ps_asg (pe_op op_fdivN (pe_ix ix_list (pv 0) pe_int (fun _ _ => rfl)) (pv 1)) (pg_sub (pv 0) pe_int set_list))
      (pss_one (ps_ret (pv 2))))) pss_nil)
      (pss_cons (ps_asg (pe_op op_modN (pe_op op_add (pe_op op_mul (pe_ix ix_list (pv 0) pe_int (fun _ _ => rfl)) pe_int) pe_int) pe_int) (pg_sub (pv 0) pe_int set_list))
      (pss_cons (ps_set (i := 3) sc__law_take.nd rfl (Or.inl rfl) (pe_op op_modN (pe_op op_add (pe_op op_add (pe_op op_mul (pe_ix ix_list (pv 0) pe_int (fun _ _ => rfl)) (pe_ix ix_list (pv 0) pe_int (fun _ _ => rfl))) (pe_op op_mul pe_int (pe_ix ix_list (pv 0) pe_int (fun _ _ => rfl)))) pe_int) pe_int))
      (pss_cons (ps_set (i := 3) sc__law_take.nd rfl (Or.inl rfl) (pe_op op_modN (pe_op op_add (pe_op op_mul (pv 3) (pv 3)) (pe_op op_mul pe_int (pv 3))) pe_int))
      (pss_one (ps_ret (pe_op op_modN (pe_op op_fdivN (pv 3) pe_int) (pv 1)))))))), ?_⟩
    refine ⟨_, rfl, st, _, 0, _, rfl, rfl, .inl (.inl hs), rfl, a, 0, rfl, rfl, _, rfl, ite2 (fun e => ?_) (fun e => ?_)⟩
    · have e1 : 0 < a := of_decide_eq_true e
      refine ⟨_, rfl, st, _, 0, _, rfl, rfl, .inl (.inl hs), rfl, _, rfl, a, n, rfl, rfl, by omega, ?_⟩
      refine ⟨_, rfl, st, _, 0, _, rfl, rfl, .inl (.inl hs), rfl, _, rfl, a, n, rfl, rfl, ⟨by omega, by omega⟩, _, rfl, st, _, 0, 0, rfl, rfl, hs, rfl, ?_⟩
      refine ⟨_, rfl, q _ _ (fm n0).1 (fm n0).2 (gr_set ?_ hb0 hb1)⟩
      rw [Int.fdiv_eq_ediv_of_nonneg _ (by omega)]
      exact Int.ediv_nonneg ha (by omega)
    · refine ⟨_, rfl, st, _, 1, _, rfl, rfl, .inl (.inl hs), rfl, b, 48271, rfl, rfl, .inl ⟨by omega, by omega⟩, _, _, rfl, rfl, _, _, rfl, rfl, (by show (2147483647 : Int) ≠ 0; decide), _, rfl, st, _, 1, 1, rfl, rfl, hs, rfl, ?_⟩
      dsimp only
      have f1 := fm (x := b * 48271 + 29) (m := 2147483647) (by decide)
      generalize (b * 48271 + 29).fmod 2147483647 = b1 at f1 ⊢
      obtain ⟨f1a, f1b⟩ := f1
      have hs1 : (upd H st (.lst [.int a, .int b1])) st = some (.lst [.int a, .int b1]) := upd_same
      refine ⟨_, rfl, st, _, 1, _, rfl, rfl, .inl (.inl hs1), rfl, _, rfl, st, _, 1, _, rfl, rfl, .inl (.inl hs1), rfl, b1, b1, rfl, rfl, .inl ⟨by omega, by omega⟩, _, rfl, st, _, 1, _, rfl, rfl, .inl (.inl hs1), rfl, 39373, b1, rfl, rfl, .inl ⟨by decide, by decide⟩, _, _, rfl, rfl, _, _, rfl, rfl, _, _, rfl, rfl, (by show (2147483629 : Int) ≠ 0; decide), ?_⟩
      dsimp only
      have f2 := fm (x := b1 * b1 + 39373 * b1 + 7) (m := 2147483629) (by decide)
      generalize (b1 * b1 + 39373 * b1 + 7).fmod 2147483629 = b2 at f2 ⊢
      obtain ⟨f2a, f2b⟩ := f2
      refine ⟨_, rfl, _, rfl, b2, b2, rfl, rfl, .inl ⟨by omega, by omega⟩, _, rfl, 16807, b2, rfl, rfl, .inl ⟨by decide, by decide⟩, _, _, rfl, rfl, _, _, rfl, rfl, (by show (2147483587 : Int) ≠ 0; decide), ?_⟩
      dsimp only
      generalize (b2 * b2 + 16807 * b2).fmod 2147483587 = b3
      refine ⟨_, rfl, b3, 8, rfl, rfl, ⟨by decide, by decide⟩, _, rfl, _, n, rfl, rfl, by omega, ?_⟩
      exact q _ _ (fm n0).1 (fm n0).2 (gr_set ha f1a f1b)
end

section
variable {P : Program} {w : World} {K : PySem.W.Frag} {mg : Str → Option Value} {base : Heap}
def sp__law_row (K : PySem.W.Frag) : Sp := fun vs H Q _ => ∃ (st : Addr) (n : Int), vs = [.ref st, .int n] ∧ IsSt H st ∧ 0 ≤ n ∧ n < 4 ∧ ∀ (r : RW) (p : Addr) (H' : Hp), VRow r → Gr st H H' → H' p = some (.tup [.int r.1, .int r.2]) → Q (.ref p) H'
theorem ok__law_row {f : Addr} {fd : FuncData} (F : Fun K "_law_row" "_law_row" s__law_row f fd) (T : Txt K mg) (D__law_take : Cl P w K mg base 1 "_law_take" ["_law_state_here", "_law_many"] (sp__law_take K)) : FnOk P w K mg base CX0 2 f fd ["_law_state_here", "_law_way"] (sp__law_row K) := by
  refine F.ok sc__law_row (fun vs H Q E h => ?_) (fun cdv A outer s H vs Q E hr h => ?_)
  · obtain ⟨st, n, rfl, _⟩ := h
    rfl
  · obtain ⟨st, n, rfl, hs, n0, n1, q⟩ := h
    refine ⟨_, (pss_cons (ps_set (i := 2) sc__law_row.nd rfl (Or.inl rfl) (pe_ix ix_list (pe_lst (pa_cons (pe_own D__law_take (hr.mono (by omega)) (by rfl) (pa_cons (pv 0) (pa_cons pe_int pa_nil))) (pa_cons (pe_own D__law_take (hr.mono (by omega)) (by rfl) (pa_cons (pv 0) (pa_cons pe_int pa_nil))) (pa_cons (pe_op op_add pe_int (pe_own D__law_take (hr.mono (by omega)) (by rfl) (pa_cons (pv 0) (pa_cons pe_int pa_nil)))) pa_nil)))) (pe_op op_modN (pv 1) pe_int) (fun _ _ => rfl)))
      (pss_one (ps_ret (pe_tup (pa_cons (pv 2) (pa_cons (pe_op op_add pe_int (pe_own D__law_take (hr.mono (by omega)) (by rfl) (pa_cons (pv 0) (pa_cons (pe_ix ix_list (pe_lst (pa_cons pe_int (pa_cons pe_int (pa_cons pe_int (pa_cons pe_int pa_nil))))) (pv 1) (fun _ _ => rfl)) pa_nil)))) pa_nil)))))), ?_⟩
    refine ⟨_, rfl, st, 10, rfl, hs, by decide, by decide, fun r1 H1 a1 b1 g1 => ?_⟩
    refine ⟨_, rfl, st, 2, rfl, g1.2 hs, by decide, by decide, fun r2 H2 a2 b2 g2 => ?_⟩
    have g12 := g1.trans g2
    refine ⟨_, rfl, st, 2, rfl, g12.2 hs, by decide, by decide, fun r3 H3 a3 b3 g3 => ?_⟩
    have g13 := g12.trans g3
    refine ⟨_, _, rfl, rfl, (by show 3 ≤ sizeLine; decide), fun p np => ?_⟩
    obtain ⟨s4, e4⟩ := new_at (.lst [.int r1, .int r2, .int (1 + r3)]) np
    generalize upd H3 p (.lst [.int r1, .int r2, .int (1 + r3)]) = H4 at s4 e4 ⊢
    have g14 := g13.trans (gr_same (st := st) s4)
    obtain ⟨d, d0, d1, ed⟩ : ∃ d : Int, 0 ≤ d ∧ d ≤ 9 ∧ atI [V.int r1, .int r2, .int (1 + r3)] (n.fmod 3) = some (.int d) := by
      rcases (by omega : n = 0 ∨ n = 1 ∨ n = 2 ∨ n = 3) with e | e | e | e <;> subst e
      · exact ⟨r1, by omega, by omega, rfl⟩
      · exact ⟨r2, by omega, by omega, rfl⟩
      · exact ⟨1 + r3, by omega, by omega, rfl⟩
      · exact ⟨r1, by omega, by omega, rfl⟩
    refine ⟨_, rfl, n, 3, rfl, rfl, (by show (3 : Int) ≠ 0; decide), p, _, _, _, rfl, rfl, .inl (.inl e4), ed, ?_⟩
    refine ⟨_, rfl, _, rfl, (by show 4 ≤ sizeLine; decide), fun p2 np2 => ?_⟩
    obtain ⟨s5, e5⟩ := new_at (.lst [.int 3, .int 24, .int 6, .int 1]) np2
    generalize upd H4 p2 (.lst [.int 3, .int 24, .int 6, .int 1]) = H5 at s5 e5 ⊢
    have g15 := g14.trans (gr_same (st := st) s5)
    obtain ⟨m, m0, m1, em⟩ : ∃ m : Int, 0 < m ∧ m ≤ 24 ∧ atI [V.int 3, .int 24, .int 6, .int 1] n = some (.int m) := by
      rcases (by omega : n = 0 ∨ n = 1 ∨ n = 2 ∨ n = 3) with e | e | e | e <;> subst e
      · exact ⟨3, by omega, by omega, rfl⟩
      · exact ⟨24, by omega, by omega, rfl⟩
      · exact ⟨6, by omega, by omega, rfl⟩
      · exact ⟨1, by omega, by omega, rfl⟩
    refine ⟨_, rfl, p2, _, n, _, rfl, rfl, .inl (.inl e5), em, st, m, rfl, g15.2 hs, m0, by omega, fun r6 H6 a6 b6 g6 => ?_⟩
    refine ⟨_, _, rfl, rfl, (by show 2 ≤ sizeLine; decide), fun p7 np7 => ?_⟩
    exact q (d, 1 + r6) p7 _ ⟨d0, d1, by show 1 ≤ 1 + r6; omega, by show 1 + r6 ≤ 24; omega⟩ ((g15.trans g6).trans (gr_same (same_upd np7))) upd_same
def sp__law_layer (K : PySem.W.Frag) : Sp := fun vs H Q _ => ∃ (st : Addr), vs = [.ref st] ∧ IsSt H st ∧ ∀ (v : V) (rs : List RW) (bk : Option Int) (H' : Hp), Gr st H H' → LayAt K H' v rs bk → VRows rs → VBack rs bk → Q v H'
theorem ok__law_layer {f : Addr} {fd : FuncData} (F : Fun K "_law_layer" "_law_layer" s__law_layer f fd) (T : Txt K mg) (D__law_take : Cl P w K mg base 1 "_law_take" ["_law_state_here", "_law_many"] (sp__law_take K)) (D__law_row : Cl P w K mg base 2 "_law_row" ["_law_state_here", "_law_way"] (sp__law_row K)) : FnOk P w K mg base CX0 3 f fd ["_law_state_here"] (sp__law_layer K) := by
  refine F.ok sc__law_layer (fun vs H Q E h => ?_) (fun cdv A outer s H vs Q E hr h => ?_)
  · obtain ⟨st, rfl, _⟩ := h
    rfl
  · obtain ⟨st, rfl, hs, q⟩ := h
    refine ⟨_, (pss_cons (ps_asg (pe_tup (pa_cons (pe_own D__law_take (hr.mono (by omega)) (by rfl) (pa_cons (pv 0) (pa_cons pe_int pa_nil))) (pa_cons (pe_ix ix_list (pe_lst (pa_cons (pe_own D__law_take (hr.mono (by omega)) (by rfl) (pa_cons (pv 0) (pa_cons pe_int pa_nil))) (pa_cons (pe_op op_add pe_int (pe_own D__law_take (hr.mono (by omega)) (by rfl) (pa_cons (pv 0) (pa_cons pe_int pa_nil)))) (pa_cons pe_int pa_nil)))) (pe_own D__law_take (hr.mono (by omega)) (by rfl) (pa_cons (pv 0) (pa_cons pe_int pa_nil))) (fun _ _ => rfl)) pa_nil))) (pg_tup (by rfl) (pgs_cons (pg_name (i := 1) sc__law_layer.nd rfl (Or.inr rfl)) (pgs_cons (pg_name (i := 2) sc__law_layer.nd rfl (Or.inl rfl)) pgs_nil))))
      (pss_cons (ps_set (i := 3) sc__law_layer.nd rfl (Or.inl rfl) (pe_callTy call_tuple_of (by rfl) T.b_tuple (by decide +kernel) (pa_cons (pe_lc (own := [("_law_turn", 5)]) (g := (gName 5)) (tt := tYes) (by rfl) sc__law_layer.nd (pi_range1 (by rfl) T.b_range (pa_cons (pv 2) pa_nil)) (blkOk_by (own := [("_law_turn", 5)]) (N := ["_law_state_here", "_law_way", "_law_many", "_law_rows", "_law_back", "_law_turn"]) (sc := defScope s__law_layer) (by decide +kernel)) (fun _ _ _ _ _ => (pg_name (i := 5) sc__law_layer.nd rfl (Or.inl rfl))) (fun _ _ _ _ _ => pts_nil) (fun _ _ _ _ _ => (pe_own D__law_row (hr.mono (by omega)) (by rfl) (pa_cons (pv 0) (pa_cons (pv 1) pa_nil))))) pa_nil)))
      (pss_cons (ps_set (i := 4) sc__law_layer.nd rfl (Or.inl rfl) (pe_own D__law_take (hr.mono (by omega)) (by rfl) (pa_cons (pv 0) (pa_cons (pe_op op_add (pe_callB call_len_seq (by rfl) T.b_len (by decide +kernel) (pa_cons (pv 3) pa_nil)) pe_int) pa_nil))))
      (pss_one (ps_ret (pe_tup (pa_cons (pv 3) (pa_cons (pe_ifExp (pt_cmpR op_lt (pv 4) (pe_callB call_len_seq (by rfl) T.b_len (by decide +kernel) (pa_cons (pv 3) pa_nil)) (nomark _)) (pv 4) pe_non) pa_nil)))))))), ?_⟩
    refine ⟨_, rfl, st, 4, rfl, hs, by decide, by decide, fun wy H1 a1 b1 g1 => ?_⟩
    refine ⟨_, rfl, st, 9, rfl, g1.2 hs, by decide, by decide, fun r2 H2 a2 b2 g2 => ?_⟩
    have g12 := g1.trans g2
    refine ⟨_, rfl, st, 3, rfl, g12.2 hs, by decide, by decide, fun r3 H3 a3 b3 g3 => ?_⟩
    have g13 := g12.trans g3
    refine ⟨_, _, rfl, rfl, (by show 3 ≤ sizeLine; decide), fun p np => ?_⟩
    obtain ⟨s4, e4⟩ := new_at (.lst [.int r2, .int (1 + r3), .int 8]) np
    generalize upd H3 p (.lst [.int r2, .int (1 + r3), .int 8]) = H4 at s4 e4 ⊢
    have g14 := g13.trans (gr_same (st := st) s4)
    refine ⟨_, rfl, st, 3, rfl, g14.2 hs, by decide, by decide, fun r5 H5 a5 b5 g5 => ?_⟩
    have g15 := g14.trans g5
    have np' : p ≠ st := by
      obtain ⟨x, y, hx, _⟩ := g13.2 hs
      exact fun z => by rw [z, hx] at np; cases np
    have e5 := g5.1 p _ np' e4
    obtain ⟨mn, m0, m1, em⟩ : ∃ m : Int, 0 ≤ m ∧ m ≤ 8 ∧ atI [V.int r2, .int (1 + r3), .int 8] r5 = some (.int m) := by
      rcases (by omega : r5 = 0 ∨ r5 = 1 ∨ r5 = 2) with e | e | e <;> subst e
      · exact ⟨r2, by omega, by omega, rfl⟩
      · exact ⟨1 + r3, by omega, by omega, rfl⟩
      · exact ⟨8, by omega, by omega, rfl⟩
    refine ⟨p, _, r5, _, rfl, rfl, .inl (.inl e5), em, (by show 2 ≤ sizeLine; decide), fun p6 np6 => ?_⟩
    obtain ⟨s6, e6⟩ := new_at (.tup [.int wy, .int mn]) np6
    generalize upd H5 p6 (.tup [.int wy, .int mn]) = H6 at s6 e6 ⊢
    have g16 := g15.trans (gr_same (st := st) s6)
    have hs6 := g16.2 hs
    refine ⟨p6, _, rfl, .inl (.inl e6), rfl, _, _, rfl, _, _, rfl, rfl, ?_⟩
    refine ⟨_, rfl, mn, rfl, by omega, by omega, fun D hD => ?_⟩
    have nD : D ≠ st := by
      obtain ⟨x, y, hx, _⟩ := hs6
      exact fun z => by rw [z, hx] at hD; cases hD
    refine lc_range (lo := 0) (n := mn.toNat) (fun i H' => Gr st H6 H' ∧ ∃ (vs : List V) (rs : List RW), H' D = some (.lst vs) ∧ vs.length = i ∧ Paired (RowAt K H') vs rs ∧ ∀ r ∈ rs, VRow r)
      ⟨gr_same (same_upd hD), [], [], upd_same, rfl, .nil, fun r hr => by cases hr⟩ (fun i H7 hi p7 => ?_) (fun H7 p7 => ?_)
    · obtain ⟨g7, vs, rs, hL, hlen, pd, vr⟩ := p7
      refine ⟨rfl, yes_ok ⟨_, rfl, _, rfl, st, wy, rfl, g7.2 hs6, a1, b1, fun r p8 H8 vr8 g8 e8 => ?_⟩⟩
      have hL8 := g8.1 D _ nD hL
      refine ⟨vs, hL8, ?_, ?_, vs ++ [.ref p8], rs ++ [r], upd_same, ?_, ?_, ?_⟩
      · exact small1000 (by omega)
      · refine ⟨fun b o nb e => ?_, fun hz => ?_⟩
        · rw [upd_ne (ne_of_none e hD)]
          exact (g7.trans g8).1 b o nb e
        · obtain ⟨x, y, hx, hxy⟩ := (g7.trans g8).2 hz
          refine ⟨x, y, ?_, hxy⟩
          rw [upd_ne (Ne.symm nD)]
          exact hx
      · rw [List.length_append, hlen]
        rfl
      · have k1 : TKeep K H7 (upd H8 D (.lst (vs ++ [.ref p8]))) := fun a xs h => tk_updL hL8 _ _ (g8.sqT (g7.2 hs6) h)
        exact Paired.snocP (Paired.mono pd fun _ _ => RowAt.keep k1) ⟨p8, rfl, tk_updL hL8 _ _ (.inl (.inl e8))⟩
      · intro x hx
        rcases List.mem_append.mp hx with z | z
        · exact vr x z
        · rw [List.mem_singleton.mp z]
          exact vr8
    · obtain ⟨g7, vs, rs, hL, hlen, pd, vr⟩ := p7
      have hl : vs.length = rs.length := Paired.length pd
      refine ⟨D, vs, rfl, .inl ⟨.inl (.inl hL), fun l nl => ?_⟩⟩
      obtain ⟨s8, e8⟩ := new_at (.tup vs) nl
      generalize upd H7 l (.tup vs) = H8 at s8 e8 ⊢
      have g18 := (g16.trans g7).trans (gr_same (st := st) s8)
      have hrows : RowsAt K H8 (.ref l) rs := ⟨l, vs, rfl, .inl (.inl e8), Paired.mono pd fun _ _ => RowAt.keep (Same.tk s8)⟩
      refine ⟨_, rfl, _, rfl, l, vs, rfl, .inr (.inl (.inl e8)), _, _, rfl, rfl, st, _, rfl, g18.2 hs, by omega, by omega, fun b H9 a9 b9 g9 => ?_⟩
      have k9 : TKeep K H8 H9 := g9.tk (g18.2 hs)
      have e9 : SqT K H9 l vs := k9 _ _ (.inl (.inl e8))
      refine ⟨_, rfl, _, rfl, _, rfl, l, vs, rfl, .inr e9, _, _, rfl, rfl, _, rfl, ite2 (fun e => ?_) (fun e => ?_)⟩
      · have e1 : b < (vs.length : Int) := of_decide_eq_true e
        refine ⟨_, rfl, (by show 2 ≤ sizeLine; decide), fun t nt => ?_⟩
        have st' := same_upd (o := .tup [.ref l, .int b]) nt
        refine q _ rs (some b) _ ((g18.trans g9).trans (gr_same st')) ⟨t, _, rfl, .inl (.inl upd_same), (hrows.keep k9).keep (Same.tk st')⟩ ⟨by omega, vr⟩ (fun i ei => ?_)
        have : b = i := Option.some.inj ei
        omega
      · refine ⟨(by show 2 ≤ sizeLine; decide), fun t nt => ?_⟩
        have st' := same_upd (o := .tup [.ref l, .non]) nt
        exact q _ rs none _ ((g18.trans g9).trans (gr_same st')) ⟨t, _, rfl, .inl (.inl upd_same), (hrows.keep k9).keep (Same.tk st')⟩ ⟨by omega, vr⟩ (fun i ei => nomatch ei)
end

/-! ### the law's windows and sheets -/
def PVw (K : PySem.W.Frag) (st : Addr) (H0 : Hp) (F : Addr) (mn x y : Int) (i : Nat) (σ : L2.St) (H : Hp) : Prop :=
  Gr st H0 H ∧ ∃ (pp : Addr) (px py : Int) (vs : List V) (ms : List MV) (tv : Option V), σ = [some (.ref st), some (.ref F), some (.int mn), some (.int x), some (.int y), some (.ref pp), tv] ∧ H pp = some (.tup [.int px, .int py]) ∧ (-20 ≤ px ∧ px ≤ 20) ∧ (-20 ≤ py ∧ py ≤ 20) ∧
    H F = some (.lst vs) ∧ vs.length = i ∧ Paired (MoveAt K H) vs ms ∧ ∀ m ∈ ms, VMove m
section
variable {P : Program} {w : World} {K : PySem.W.Frag} {mg : Str → Option Value} {base : Heap}
def sp__law_window (K : PySem.W.Frag) : Sp := fun vs H Q _ => ∃ (st : Addr), vs = [.ref st] ∧ IsSt H st ∧ ∀ (v : V) (x y : Int) (ms : List MV) (H' : Hp), Gr st H H' → WinAt K H' v x y ms → VWin x y ms → Q v H'
theorem ok__law_window {f : Addr} {fd : FuncData} (F : Fun K "_law_window" "_law_window" s__law_window f fd) (T : Txt K mg) (D__law_take : Cl P w K mg base 1 "_law_take" ["_law_state_here", "_law_many"] (sp__law_take K)) : FnOk P w K mg base CX0 2 f fd ["_law_state_here"] (sp__law_window K) := by
  refine F.ok sc__law_window (fun vs H Q E h => ?_) (fun cdv A outer s H vs Q E hr h => ?_)
  · obtain ⟨st, rfl, _⟩ := h
    rfl
  · obtain ⟨st, rfl, hs, q⟩ := h
    refine ⟨_, (pss_cons (ps_par (i := 1) (j := 2) (by rfl) sc__law_window.nd rfl rfl (by decide) rfl rfl (pa_cons (pe_lst pa_nil) (pa_cons (pe_ix ix_list (pe_lst (pa_cons pe_int (pa_cons pe_int (pa_cons (pe_own D__law_take (hr.mono (by omega)) (by rfl) (pa_cons (pv 0) (pa_cons pe_int pa_nil))) (pa_cons pe_int pa_nil))))) (pe_own D__law_take (hr.mono (by omega)) (by rfl) (pa_cons (pv 0) (pa_cons pe_int pa_nil))) (fun _ _ => rfl)) pa_nil)) (by rfl))
      (pss_cons (ps_par (i := 3) (j := 4) (by rfl) sc__law_window.nd rfl rfl (by decide) rfl rfl (pa_cons (pe_op op_sub (pe_own D__law_take (hr.mono (by omega)) (by rfl) (pa_cons (pv 0) (pa_cons pe_int pa_nil))) pe_int) (pa_cons (pe_op op_sub (pe_own D__law_take (hr.mono (by omega)) (by rfl) (pa_cons (pv 0) (pa_cons pe_int pa_nil))) pe_int) pa_nil)) (by rfl))
      (pss_cons (ps_set (i := 5) sc__law_window.nd rfl (Or.inl rfl) (pe_tup (pa_cons (pv 3) (pa_cons (pv 4) pa_nil))))
      (pss_cons (ps_for PassesOwn.never rfl (pi_range1 (by rfl) T.b_range (pa_cons (pv 2) pa_nil)) (pg_name (i := 6) sc__law_window.nd rfl (Or.inl rfl))
        (C8.pss_cut (ps_if (pt_cmpR op_gt (pe_own D__law_take (hr.mono (by omega)) (by rfl) (pa_cons (pv 0) (pa_cons pe_int pa_nil))) pe_int (nomark _)) (pss_one (ps_set (i := 5) sc__law_window.nd rfl (Or.inl rfl) (pe_tup (pa_cons (pe_op op_sub (pe_own D__law_take (hr.mono (by omega)) (by rfl) (pa_cons (pv 0) (pa_cons pe_int pa_nil))) pe_int) (pa_cons (pe_ix ix_list (pe_lst (pa_cons (pe_op op_sub (pe_own D__law_take (hr.mono (by omega)) (by rfl) (pa_cons (pv 0) (pa_cons pe_int pa_nil))) pe_int) (pa_cons (pe_ix ix_tup (pv 5) pe_int (fun _ _ => rfl)) pa_nil))) (pe_own D__law_take (hr.mono (by omega)) (by rfl) (pa_cons (pv 0) (pa_cons pe_int pa_nil))) (fun _ _ => rfl)) pa_nil))))) pss_nil)
      (pss_one (ps_expr (pe_bm PySem.F.plainAttrs_list PySem.F.slot_list_append PySem.F.type_list_append mt_append (pv 1) (pa_cons (pe_op op_catA (pv 5) (pe_tup (pa_cons (pe_ix ix_list (pe_lst (pa_cons pe_int (pa_cons pe_int (pa_cons (pe_own D__law_take (hr.mono (by omega)) (by rfl) (pa_cons (pv 0) (pa_cons pe_int pa_nil))) (pa_cons (pe_own D__law_take (hr.mono (by omega)) (by rfl) (pa_cons (pv 0) (pa_cons pe_int pa_nil))) (pa_cons pe_int pa_nil)))))) (pe_own D__law_take (hr.mono (by omega)) (by rfl) (pa_cons (pv 0) (pa_cons pe_int pa_nil))) (fun _ _ => rfl)) pa_nil))) pa_nil))))))
      (pss_one (ps_ret (pe_tup (pa_cons (pv 3) (pa_cons (pv 4) (pa_cons (pe_callTy call_tuple_of (by rfl) T.b_tuple (by decide +kernel) (pa_cons (pv 1) pa_nil)) pa_nil)))))))))), ?_⟩
    refine ⟨Nat.zero_le _, fun F nF => ?_⟩
    have nFs := st_ne hs nF
    obtain ⟨s1, e1⟩ := new_at (.lst []) nF
    generalize upd H F (.lst []) = H1 at s1 e1 ⊢
    have g1 := gr_same (st := st) s1
    refine ⟨_, rfl, st, 9, rfl, g1.2 hs, by decide, by decide, fun r2 H2 a2 b2 g2 => ⟨(by show 4 ≤ sizeLine; decide), fun p3 np3 => ?_⟩⟩
    have g12 := g1.trans g2
    obtain ⟨s3, e3⟩ := new_at (.lst [.int 0, .int 1, .int r2, .int 8]) np3
    have np3s := st_ne (g12.2 hs) np3
    generalize upd H2 p3 (.lst [.int 0, .int 1, .int r2, .int 8]) = H3 at s3 e3 ⊢
    have g13 := g12.trans (gr_same (st := st) s3)
    refine ⟨_, rfl, st, 4, rfl, g13.2 hs, by decide, by decide, fun r4 H4 a4 b4 g4 => ?_⟩
    have g14 := g13.trans g4
    obtain ⟨mn, m0, m1, em⟩ : ∃ m : Int, 0 ≤ m ∧ m ≤ 8 ∧ atI [V.int 0, .int 1, .int r2, .int 8] r4 = some (.int m) := by
      rcases (by omega : r4 = 0 ∨ r4 = 1 ∨ r4 = 2 ∨ r4 = 3) with e | e | e | e <;> subst e
      · exact ⟨0, by omega, by omega, rfl⟩
      · exact ⟨1, by omega, by omega, rfl⟩
      · exact ⟨r2, by omega, by omega, rfl⟩
      · exact ⟨8, by omega, by omega, rfl⟩
    refine ⟨p3, _, r4, _, rfl, rfl, .inl (.inl (g4.1 _ _ np3s e3)), em, _, _, rfl, ?_⟩
    -- x, y
    refine ⟨_, rfl, st, 41, rfl, g14.2 hs, by decide, by decide, fun r5 H5 a5 b5 g5 => ⟨_, _, rfl, rfl, ?_⟩⟩
    have g15 := g14.trans g5
    refine ⟨_, rfl, st, 41, rfl, g15.2 hs, by decide, by decide, fun r6 H6 a6 b6 g6 => ⟨_, _, rfl, rfl, _, _, rfl, ?_⟩⟩
    have g16 := g15.trans g6
    -- place
    refine ⟨_, rfl, _, rfl, (by show 2 ≤ sizeLine; decide), fun p7 np7 => ?_⟩
    have F6 : H6 F = some (.lst []) := (((g2.trans (gr_same s3)).trans g4).trans (g5.trans g6)).1 _ _ nFs e1
    obtain ⟨s7, e7⟩ := new_at (.tup [.int (r5 - 20), .int (r6 - 20)]) np7
    have g17 := g16.trans (gr_same (st := st) s7)
    refine ⟨_, rfl, mn, rfl, by omega, by omega, for_range (lo := 0) (n := mn.toNat) (PVw K st H F mn (r5 - 20) (r6 - 20)) ?_ ?_ ?_⟩
    · exact ⟨g17, p7, _, _, [], [], none, rfl, e7, ⟨by omega, by omega⟩, ⟨by omega, by omega⟩, s7 _ _ F6, rfl, .nil, fun m hm => by cases hm⟩
    · intro i σ H8 hi hP
      refine ⟨fun σ' H' => PVw K st H F mn (r5 - 20) (r6 - 20) i σ' H', ?_, ?_⟩
      · obtain ⟨g8, pp, px, py, vs, ms, tv, rfl, hpp, hx, hy, hF, hlen, pd, vm⟩ := hP
        have hs8 := g8.2 hs
        refine ⟨_, rfl, st, 4, rfl, hs8, by decide, by decide, fun r9 H9 a9 b9 g9 => ⟨_, _, rfl, rfl, _, rfl, ite2 (fun _ => ?_) (fun _ => ?_)⟩⟩
        · have hs9 := g9.2 hs8
          refine ⟨_, rfl, st, 41, rfl, hs9, by decide, by decide, fun r10 H10 a10 b10 g10 => ⟨_, _, rfl, rfl, ?_⟩⟩
          have hs10 := g10.2 hs9
          refine ⟨_, rfl, st, 41, rfl, hs10, by decide, by decide, fun r11 H11 a11 b11 g11 => ⟨_, _, rfl, rfl, ?_⟩⟩
          have g811 := (g9.trans g10).trans g11
          have hs11 := g811.2 hs8
          have hp11 := g811.1 _ _ (st_neT hs8 hpp) hpp
          refine ⟨_, rfl, pp, _, 1, _, rfl, rfl, .inl (.inl hp11), rfl, (by show 2 ≤ sizeLine; decide), fun p12 np12 => ?_⟩
          obtain ⟨s12, e12⟩ := new_at (.lst [.int (r11 - 20), .int py]) np12
          have n12 := st_ne hs11 np12
          have g812 := g811.trans (gr_same (st := st) s12)
          refine ⟨_, rfl, st, 2, rfl, g812.2 hs8, by decide, by decide, fun r13 H13 a13 b13 g13 => ?_⟩
          have g813 := g812.trans g13
          obtain ⟨d, d0, d1, ed⟩ : ∃ d : Int, -20 ≤ d ∧ d ≤ 20 ∧ atI [V.int (r11 - 20), .int py] r13 = some (.int d) := by
            rcases (by omega : r13 = 0 ∨ r13 = 1) with e | e <;> subst e
            · exact ⟨_, by omega, by omega, rfl⟩
            · exact ⟨py, hy.1, hy.2, rfl⟩
          refine ⟨p12, _, r13, _, rfl, rfl, .inl (.inl (g13.1 _ _ n12 e12)), ed, (by show 2 ≤ sizeLine; decide), fun p14 np14 => ?_⟩
          have g814 := g813.trans (gr_same (st := st) (same_upd (o := .tup [.int (r10 - 20), .int d]) np14))
          exact ⟨g8.trans g814, p14, _, _, vs, ms, _, rfl, upd_same, ⟨by omega, by omega⟩, ⟨d0, d1⟩, g814.1 _ _ nFs hF, hlen, Paired.mono pd fun _ _ => MoveAt.keep (g814.tk hs8), vm⟩
        · exact ⟨g8.trans g9, pp, px, py, vs, ms, _, rfl, g9.1 _ _ (st_neT hs8 hpp) hpp, hx, hy, g9.1 _ _ nFs hF, hlen, Paired.mono pd fun _ _ => MoveAt.keep (g9.tk hs8), vm⟩
      · rintro σ' H' ⟨g8, pp, px, py, vs, ms, tv, rfl, hpp, hx, hy, hF, hlen, pd, vm⟩
        have hs8 := g8.2 hs
        refine ⟨_, rfl, .inl ⟨rfl, _, .inl (.inl hF)⟩, _, rfl, ?_⟩
        refine ⟨_, rfl, st, 8, rfl, hs8, by decide, by decide, fun r9 H9 a9 b9 g9 => ?_⟩
        refine ⟨_, rfl, st, 25, rfl, g9.2 hs8, by decide, by decide, fun r10 H10 a10 b10 g10 => ?_⟩
        have g810 := g9.trans g10
        refine ⟨(by show 5 ≤ sizeLine; decide), fun p11 np11 => ?_⟩
        obtain ⟨s11, e11⟩ := new_at (.lst [.int 0, .int 1, .int r9, .int r10, .int 24]) np11
        have n11 := st_ne (g810.2 hs8) np11
        have g811 := g810.trans (gr_same (st := st) s11)
        refine ⟨_, rfl, st, 5, rfl, g811.2 hs8, by decide, by decide, fun r12 H12 a12 b12 g12 => ?_⟩
        have g812 := g811.trans g12
        obtain ⟨d, d0, d1, ed⟩ : ∃ d : Int, 0 ≤ d ∧ d ≤ 24 ∧ atI [V.int 0, .int 1, .int r9, .int r10, .int 24] r12 = some (.int d) := by
          rcases (by omega : r12 = 0 ∨ r12 = 1 ∨ r12 = 2 ∨ r12 = 3 ∨ r12 = 4) with e | e | e | e | e <;> subst e
          · exact ⟨0, by omega, by omega, rfl⟩
          · exact ⟨1, by omega, by omega, rfl⟩
          · exact ⟨r9, by omega, by omega, rfl⟩
          · exact ⟨r10, by omega, by omega, rfl⟩
          · exact ⟨24, by omega, by omega, rfl⟩
        refine ⟨p11, _, r12, _, rfl, rfl, .inl (.inl (g12.1 _ _ n11 e11)), ed, (by show 1 ≤ sizeLine; decide), fun p13 np13 => ?_⟩
        obtain ⟨s13, e13⟩ := new_at (.tup [.int d]) np13
        have g813 := g812.trans (gr_same (st := st) s13)
        have hp13 := g813.1 _ _ (st_neT hs8 hpp) hpp
        refine ⟨pp, p13, _, _, rfl, rfl, .inl (.inl hp13), .inl (.inl e13), (by show 3 ≤ sizeLine; decide), fun z => absurd z (List.cons_ne_nil _ _), fun _ z => absurd z (List.cons_ne_nil _ _), fun _ _ p14 np14 => ?_⟩
        obtain ⟨s14, e14⟩ := new_at (.tup ([.int px, .int py] ++ [.int d])) np14
        have g814 := g813.trans (gr_same (st := st) s14)
        have hF14 := g814.1 _ _ nFs hF
        refine ⟨F, _, _, rfl, rfl, hF14, small1000 (by omega), ?_⟩
        have k15 : TKeep K H' (upd (upd (upd H12 p13 (.tup [.int d])) p14 (.tup ([.int px, .int py] ++ [.int d]))) F (.lst (vs ++ [.ref p14]))) := fun a xs h => tk_updL hF14 _ _ (g814.sqT hs8 h)
        refine ⟨⟨fun b o nb e => ?_, fun hz => ?_⟩, pp, px, py, vs ++ [.ref p14], ms ++ [(px, py, d)], _, rfl, ?_, hx, hy, upd_same, ?_, ?_, ?_⟩
        · rw [upd_ne (ne_of_none e nF)]
          exact (g8.trans g814).1 b o nb e
        · obtain ⟨x, y, hxx, hxy⟩ := (g8.trans g814).2 hz
          refine ⟨x, y, ?_, hxy⟩
          rw [upd_ne (Ne.symm nFs)]
          exact hxx
        · rw [upd_ne (ne_of (s14 _ _ hp13) hF14 (by intro z; cases z))]
          exact s14 _ _ hp13
        · rw [List.length_append, hlen]
          rfl
        · exact Paired.snocP (Paired.mono pd fun _ _ => MoveAt.keep k15) ⟨p14, rfl, tk_updL hF14 _ _ (.inl (.inl e14))⟩
        · intro m hm
          rcases List.mem_append.mp hm with z | z
          · exact vm m z
          · rw [List.mem_singleton.mp z]
            exact ⟨hx, hy, d0, d1⟩
    · rintro σ H8 ⟨g8, pp, px, py, vs, ms, tv, rfl, hpp, hx, hy, hF, hlen, pd, vm⟩
      have hl : vs.length = ms.length := Paired.length pd
      refine ⟨_, rfl, _, rfl, _, rfl, F, vs, rfl, .inl ⟨.inl (.inl hF), fun l nl => ⟨(by show 3 ≤ sizeLine; decide), fun p9 np9 => ?_⟩⟩⟩
      obtain ⟨s9, e9⟩ := new_at (.tup vs) nl
      have s10 := same_upd (o := .tup [.int (r5 - 20), .int (r6 - 20), .ref l]) np9
      refine q _ (r5 - 20) (r6 - 20) ms _ ((g8.trans (gr_same s9)).trans (gr_same s10)) ⟨p9, _, rfl, .inl (.inl upd_same), l, vs, rfl, .inl (.inl (s10 _ _ e9)), Paired.mono pd fun _ _ => MoveAt.keep (Same.tk (s9.trans s10))⟩ ⟨⟨by omega, by omega⟩, ⟨by omega, by omega⟩, by omega, vm⟩
end

section
variable {P : Program} {w : World} {K : PySem.W.Frag} {mg : Str → Option Value} {base : Heap}
def sp__law_sheet (K : PySem.W.Frag) : Sp := fun vs H Q _ => ∃ (st : Addr), vs = [.ref st] ∧ IsSt H st ∧ ∀ (v : V) (ls : List LY) (x y : Int) (ms : List MV) (H' : Hp), Gr st H H' → ShAt K H' v ls x y ms → VLays ls → VWin x y ms → Q v H'
theorem ok__law_sheet {f : Addr} {fd : FuncData} (F : Fun K "_law_sheet" "_law_sheet" s__law_sheet f fd) (T : Txt K mg) (D__law_window : Cl P w K mg base 2 "_law_window" ["_law_state_here"] (sp__law_window K)) (D__law_layer : Cl P w K mg base 3 "_law_layer" ["_law_state_here"] (sp__law_layer K)) (D__law_take : Cl P w K mg base 1 "_law_take" ["_law_state_here", "_law_many"] (sp__law_take K)) : FnOk P w K mg base CX0 4 f fd ["_law_state_here"] (sp__law_sheet K) := by
  refine F.ok sc__law_sheet (fun vs H Q E h => ?_) (fun cdv A outer s H vs Q E hr h => ?_)
  · obtain ⟨st, rfl, _⟩ := h
    rfl
  · obtain ⟨st, rfl, hs, q⟩ := h
    refine ⟨_, (pss_one (ps_ret (pe_tup (pa_cons (pe_callTy call_tuple_of (by rfl) T.b_tuple (by decide +kernel) (pa_cons (pe_lc (own := [("_law_turn", 1)]) (g := (gName 1)) (tt := tYes) (by rfl) sc__law_sheet.nd (pi_range1 (by rfl) T.b_range (pa_cons (pe_op op_add pe_int (pe_own D__law_take (hr.mono (by omega)) (by rfl) (pa_cons (pv 0) (pa_cons pe_int pa_nil)))) pa_nil)) (blkOk_by (own := [("_law_turn", 1)]) (N := ["_law_state_here", "_law_turn"]) (sc := defScope s__law_sheet) (by decide +kernel)) (fun _ _ _ _ _ => (pg_name (i := 1) sc__law_sheet.nd rfl (Or.inl rfl))) (fun _ _ _ _ _ => pts_nil) (fun _ _ _ _ _ => (pe_own D__law_layer (hr.mono (by omega)) (by rfl) (pa_cons (pv 0) pa_nil)))) pa_nil)) (pa_cons (pe_own D__law_window (hr.mono (by omega)) (by rfl) (pa_cons (pv 0) pa_nil)) pa_nil))))), ?_⟩
    refine ⟨_, rfl, st, 4, rfl, hs, by decide, by decide, fun r1 H1 a1 b1 g1 => ⟨_, _, rfl, rfl, 1 + r1, rfl, by omega, by omega, fun D hD => ?_⟩⟩
    have hs1 := g1.2 hs
    have nD := st_ne hs1 hD
    refine lc_range (lo := 0) (n := (1 + r1).toNat) (fun i H' => Gr st H1 H' ∧ ∃ (vs : List V) (ls : List LY), H' D = some (.lst vs) ∧ vs.length = i ∧ Paired (LyAt K H') vs ls ∧ ∀ l ∈ ls, VLy l)
      ⟨gr_same (same_upd hD), [], [], upd_same, rfl, .nil, fun r hr => by cases hr⟩ (fun i H7 hi p7 => ?_) (fun H7 p7 => ?_)
    · obtain ⟨g7, vs, ls, hL, hlen, pd, vl⟩ := p7
      refine ⟨rfl, yes_ok ⟨_, rfl, st, rfl, g7.2 hs1, fun v rs bk H8 g8 hly vR vb => ?_⟩⟩
      have hL8 := g8.1 D _ nD hL
      refine ⟨vs, hL8, small1000 (by omega), ?_, vs ++ [v], ls ++ [(rs, bk)], upd_same, ?_, ?_, ?_⟩
      · refine ⟨fun b o nb e => ?_, fun hz => ?_⟩
        · rw [upd_ne (ne_of_none e hD)]
          exact (g7.trans g8).1 b o nb e
        · obtain ⟨x, y, hx, hxy⟩ := (g7.trans g8).2 hz
          refine ⟨x, y, ?_, hxy⟩
          rw [upd_ne (Ne.symm nD)]
          exact hx
      · rw [List.length_append, hlen]
        rfl
      · have k1 : TKeep K H7 (upd H8 D (.lst (vs ++ [v]))) := fun a xs h => tk_updL hL8 _ _ (g8.sqT (g7.2 hs1) h)
        exact Paired.snocP (Paired.mono pd fun _ _ => LyAt.keep k1) (LayAt.keep (tk_updL hL8) hly)
      · intro x hx
        rcases List.mem_append.mp hx with z | z
        · exact vl x z
        · rw [List.mem_singleton.mp z]
          exact ⟨vR, vb⟩
    · obtain ⟨g7, vs, ls, hL, hlen, pd, vl⟩ := p7
      have hl : vs.length = ls.length := Paired.length pd
      refine ⟨D, vs, rfl, .inl ⟨.inl (.inl hL), fun l nl => ?_⟩⟩
      obtain ⟨s8, e8⟩ := new_at (.tup vs) nl
      have g18 := (g1.trans g7).trans (gr_same (st := st) s8)
      have hlay : LaysAt K (upd H7 l (.tup vs)) (.ref l) ls := ⟨l, vs, rfl, .inl (.inl e8), Paired.mono pd fun _ _ => LyAt.keep (Same.tk s8)⟩
      refine ⟨_, rfl, st, rfl, g18.2 hs, fun v x y ms H9 g9 hw vw => ⟨(by show 2 ≤ sizeLine; decide), fun p10 np10 => ?_⟩⟩
      have s10 := same_upd (o := .tup [.ref l, v]) np10
      exact q _ ls x y ms _ ((g18.trans g9).trans (gr_same s10)) ⟨p10, _, _, rfl, .inl (.inl upd_same), (hlay.keep (g9.tk (g18.2 hs))).keep (Same.tk s10), hw.keep (Same.tk s10)⟩ ⟨by omega, by omega, vl⟩ vw
end

theorem MkD.negP {K : PySem.W.Frag} {fx : Hp} {σ : L2.St} {H0 : Hp} {i j : Int} (h : CPow i j) : MkD K fx (tUn (rU fun i => .int (-i)) (tOp (rI CPow fun i j => .int (i ^ j.toNat)) (tC (.int i)) (tC (.int j)))) σ H0 (.int (-(i ^ j.toNat))) := fun H _ _ q => ⟨i, j, rfl, rfl, h, _, rfl, q _ H (Same.refl _) (.int _)⟩
theorem MkD.powA {K : PySem.W.Frag} {fx : Hp} {σ : L2.St} {H0 : Hp} {i j k : Int} (h : CPow i j) : MkD K fx (tOp (rI0 fun i j => .int (i + j)) (tOp (rI CPow fun i j => .int (i ^ j.toNat)) (tC (.int i)) (tC (.int j))) (tC (.int k))) σ H0 (.int (i ^ j.toNat + k)) := fun H _ _ q => ⟨i, j, rfl, rfl, h, _, _, rfl, rfl, q _ H (Same.refl _) (.int _)⟩
/-- odd things: no layer, window, sheet; a dict, or plain and not ((), None) -/
def oddB (d : PyData) : Bool := !isLayD d && (!isWinD d && (!isShD d && (d.showable && (decide (d.depth ≤ 8) && (d.leavesShort 40 && (decide (d.weight ≤ 60000) && (match d with | .dict _ => true | d => !d.hasDict && (PySem.SeqAt.shaped d && !PyData.eqv d (.tuple [.tuple [], .none])))))))))
theorem pick_dg {K : PySem.W.Frag} {fx H : Hp} {b : Bool} {us : List V} {ds : List PyData} (h : DgAll K fx H b us ds) {r : Int} (h0 : 0 ≤ r) (h1 : r < (us.length : Int)) : ∃ u d, atI us r = some u ∧ d ∈ ds ∧ Dg K fx H b u d := by
  obtain ⟨k, rfl⟩ : ∃ k : Nat, r = (k : Int) := ⟨r.toNat, by omega⟩
  obtain ⟨u, hu⟩ : ∃ u, us[k]? = some u := ⟨_, List.getElem?_eq_getElem (by omega)⟩
  obtain ⟨d, hd, hg⟩ := DgAll.at h hu
  refine ⟨u, d, ?_, List.mem_of_getElem? hd, hg⟩
  unfold atI ixN
  rw [if_pos (by omega), if_pos (by omega)]
  show us[(k : Int).toNat]? = _
  rw [Int.toNat_natCast]
  exact hu
section
variable {P : Program} {w : World} {K : PySem.W.Frag} {mg : Str → Option Value} {base : Heap}
def sp__law_odd (K : PySem.W.Frag) : Sp := fun vs H Q _ => ∃ st : Addr, vs = [.ref st] ∧ IsSt H st ∧ ∀ (u : V) (d : PyData) (H' : Hp), Gr st H H' → Dg K H H' false u d → oddB d = true → Q u H'
theorem ok__law_odd {f : Addr} {fd : FuncData} (F : Fun K "_law_odd" "_law_odd" s__law_odd f fd) (T : Txt K mg) (D__law_take : Cl P w K mg base 1 "_law_take" ["_law_state_here", "_law_many"] (sp__law_take K)) : FnOk P w K mg base CX0 2 f fd ["_law_state_here"] (sp__law_odd K) := by
  refine F.ok sc__law_odd (fun vs H Q E h => ?_) (fun cdv A outer s H vs Q E hr h => ?_)
  · obtain ⟨st, rfl, _⟩ := h
    rfl
  · obtain ⟨st, rfl, hs, q⟩ := h
    refine ⟨_, (pss_cons (ps_set (i := 1) sc__law_odd.nd rfl (Or.inl rfl) (pe_lstS (pa_cons pe_non (pa_cons pe_bl (pa_cons pe_bl (pa_cons (pe_un un_neg pe_int) (pa_cons pe_int (pa_cons pe_int (pa_cons pe_int (pa_cons pe_str (pa_cons pe_str (pa_cons pe_str (pa_cons (pe_tup pa_nil) (pa_cons (pe_lstS pa_nil) (pa_cons pe_dnewK (pa_cons (pe_tup (pa_cons pe_int pa_nil)) (pa_cons (pe_lstS (pa_cons pe_int pa_nil)) (pa_cons (pe_op op_pow pe_int pe_int) (pa_cons (pe_un un_neg (pe_op op_pow pe_int pe_int)) pa_nil)))))))))))))))))))
      (pss_cons (ps_set (i := 1) sc__law_odd.nd rfl (Or.inl rfl) (pe_op op_cat (pv 1) (pe_lstS (pa_cons (pe_tup (pa_cons pe_int (pa_cons pe_int pa_nil))) (pa_cons (pe_lstS (pa_cons pe_int (pa_cons pe_int pa_nil))) (pa_cons (pe_tup (pa_cons (pe_tup (pa_cons pe_int (pa_cons pe_int pa_nil))) pa_nil)) (pa_cons (pe_disp (pps_cons pe_str pe_int pps_nil) (by rfl) (by rfl) (fun z => by cases z) (by decide)) (pa_cons (pe_tup (pa_cons pe_int (pa_cons pe_int (pa_cons pe_int pa_nil)))) (pa_cons (pe_tup (pa_cons (pe_tup pa_nil) (pa_cons pe_non (pa_cons pe_int pa_nil)))) (pa_cons (pe_tup (pa_cons pe_non (pa_cons (pe_tup pa_nil) pa_nil))) (pa_cons (pe_op op_add (pe_op op_pow pe_int pe_int) pe_int) pa_nil)))))))))))
      (pss_one (ps_ret (pe_ix ix_list (pv 1) (pe_own D__law_take (hr.mono (by omega)) (by rfl) (pa_cons (pv 0) (pa_cons pe_int pa_nil))) (fun _ _ => rfl)))))), ?_⟩
    refine MkL.seq (K := K) (fx := H) (MkL.lst (fun p np => np) (.cons MkD.non (.cons MkD.bl (.cons MkD.bl (.cons MkD.neg (.cons MkD.int (.cons MkD.int (.cons MkD.int (.cons MkD.str (.cons MkD.str (.cons MkD.str (.cons (MkD.tup .nil) (.cons (MkD.lst (fun p np => np) .nil) (.cons (MkD.dic0 (fun p np => np)) (.cons (MkD.tup (.cons MkD.int .nil)) (.cons (MkD.lst (fun p np => np) (.cons MkD.int .nil)) (.cons (MkD.pow ⟨by decide, by decide, by decide⟩) (.cons (MkD.negP ⟨by decide, by decide, by decide⟩) .nil)))))))))))))))))) fun a1 u1 H1 s1 fa1 e1 d1 => ?_
    refine MkL.seq (K := K) (fx := H) (MkL.cat (fun p np => s1.free np) (MkL.var fa1 e1 d1) (MkL.lst (fun p np => s1.free np) (.cons (MkD.tup (.cons MkD.int (.cons MkD.int .nil))) (.cons (MkD.lst (fun p np => s1.free np) (.cons MkD.int (.cons MkD.int .nil))) (.cons (MkD.tup (.cons (MkD.tup (.cons MkD.int (.cons MkD.int .nil))) .nil)) (.cons (MkD.dic1 (fun p np => s1.free np)) (.cons (MkD.tup (.cons MkD.int (.cons MkD.int (.cons MkD.int .nil)))) (.cons (MkD.tup (.cons (MkD.tup .nil) (.cons MkD.non (.cons MkD.int .nil)))) (.cons (MkD.tup (.cons MkD.non (.cons (MkD.tup .nil) .nil))) (.cons (MkD.powA ⟨by decide, by decide, by decide⟩) .nil)))))))))) fun a2 u2 H2 s2 fa2 e2 d2 => ?_
    have sT := s1.trans s2
    have gT := gr_same (st := st) sT
    have hst := gT.2 hs
    have lus : u2.length = 25 := DgAll.len d2
    have nA : a2 ≠ st := fun z => st_some hs (by rw [← z]; exact fa2)
    refine ⟨_, rfl, _, rfl, st, 25, rfl, hst, by decide, by decide, fun r Hr r0 r1 gr => ?_⟩
    obtain ⟨u, dd, hu, hm, hd⟩ := pick_dg d2 r0 (by omega)
    refine ⟨a2, u2, r, u, rfl, rfl, .inl (.inl (gr.1 _ _ nA e2)), hu, ?_⟩
    exact q u dd _ (gT.trans gr) (hd.gr gr hst (st_some hs)) (List.all_eq_true.mp (by decide +kernel : List.all _ oddB = true) dd hm)
end

theorem MkD.ix {K : PySem.W.Frag} {fx : Hp} {σ : L2.St} {H0 : Hp} {i : Nat} {p : Addr} {xs : List V} {n : Int} {v : V} {d : PyData} (hd : Dg K fx H0 false v d) (hp : SqT K H0 p xs) (hv : atI xs n = some v := by rfl) (h : σ[i]? = some (some (.ref p)) := by rfl) : MkD K fx (tOp (rIxT K) (tVar i) (tC (.int n))) σ H0 d := fun H s _ q => ⟨.ref p, h, p, xs, n, v, rfl, rfl, Same.sqT s hp, hv, q v H (Same.refl _) (hd.sm s)⟩
theorem MkD.len {K : PySem.W.Frag} {fx : Hp} {σ : L2.St} {H0 : Hp} {ta : TE} {ds : List PyData} (a : MkD K fx ta σ H0 (.tuple ds)) : MkD K fx (tCB (fun xs H Q => ∃ p ys, xs = [.ref p] ∧ (SqL K H p ys ∨ SqT K H p ys) ∧ Q (.int ys.length) H) (tCons ta tNil)) σ H0 (.int (ds.length : Int)) := fun H s _ q =>
  a H s _ fun v H1 s1 h1 => by
    obtain ⟨p, xs, rfl, hp, dx⟩ := h1.tupI
    refine ⟨p, xs, rfl, .inr hp, q _ H1 s1 ?_⟩
    rw [DgAll.len dx]
    exact .int _
theorem MkD.take2 {K : PySem.W.Frag} {fx : Hp} {σ : L2.St} {H0 : Hp} {ta : TE} {ds : List PyData} (a : MkD K fx ta σ H0 (.tuple ds)) : MkD K fx (tSl (rSlA K) ta tNoPart (tPart (tC (.int 2)))) σ H0 (.tuple (ds.take 2)) := fun H s _ q =>
  a H s _ fun v H1 s1 h1 => by
    obtain ⟨p, xs, rfl, hp, dx⟩ := h1.tupI
    refine ⟨2, rfl, sl_any hp fun H2 r s2 h2 => q _ _ (s1.trans s2) (.tup h2 ?_)⟩
    rw [show cutV xs none (some 2) = xs.take 2 from cut_to xs 2]
    exact DgAll.tk 2 (dx.sm s2)
theorem Dg.dp {K : PySem.W.Frag} {fx H : Hp} {b : Bool} {v : V} {d : PyData} (h : Dg K fx H b v d) (e : d.hasDict = false) : Dp K H v d := by
  refine (Dg.rec (motive_1 := fun b v d _ => d.hasDict = false → Dp K H v d) (motive_2 := fun b vs ds _ => PyData.hasDictAll ds = false → DpAll K H vs ds) ?_ ?_ ?_ ?_ ?_ ?_ ?_ ?_ ?_ ?_ ?_ h) e
  · intro _ _; exact .non
  · intro _ x _; exact .bl x
  · intro _ i _; exact .int i
  · intro _ x _; exact .str x
  · intro b a xs ds ha _ ih e; exact .tup ha (ih e)
  · intro a xs ds _ ha _ ih e; exact .lst (.inl (.inl ha)) (ih e)
  · intro a xs ds _ _ ha _ ih e; exact .lst (.inl (.inl ha)) (ih e)
  · intro a _ _ e; cases e
  · intro a k i _ _ e; cases e
  · intro _ _; exact .nil
  · intro b v vs d ds _ _ i1 i2 e
    have e' : (d.hasDict || PyData.hasDictAll ds) = false := e
    rw [Bool.or_eq_false_iff] at e'
    exact .cons (i1 e'.1) (i2 e'.2)
theorem odd_parts {d : PyData} (h : oddB d = true) : isLayD d = false ∧ isWinD d = false ∧ isShD d = false ∧ RQ 8 60000 d ∧ ((∃ kvs, d = .dict kvs) ∨ (d.hasDict = false ∧ PySem.SeqAt.shaped d = true ∧ PyData.eqv d (.tuple [.tuple [], .none]) = false)) := by
  unfold oddB at h
  simp only [Bool.and_eq_true, Bool.not_eq_true', decide_eq_true_eq] at h
  obtain ⟨h1, h2, h3, h4, h5, h6, h7, h8⟩ := h
  refine ⟨h1, h2, h3, ⟨h4, h5, h6, h7⟩, ?_⟩
  cases d with
  | dict kvs => exact .inl ⟨kvs, rfl⟩
  | _ => exact .inr (by simpa only [Bool.and_eq_true, Bool.not_eq_true'] using h8)
/-- the odd one if it is not ((), None) -/
theorem MkD.ifO {K : PySem.W.Frag} {fx : Hp} {σ : L2.St} {H0 : Hp} {i : Nat} {u : V} {d : PyData} {tb : TE} (hd : Dg K fx H0 false u d) (ho : oddB d = true) (h : σ[i]? = some (some u) := by rfl) : MkD K fx (tIf (tTest (tOp (rNeG K) (tVar i) (tTup (tCons (tTup tNil) (tCons (tC .non) tNil))))) (tVar i) tb) σ H0 d := fun H s Q q => by
  refine ⟨u, h, Nat.zero_le _, fun p1 np1 => ⟨(by show 2 ≤ sizeLine; decide), fun p2 np2 => ?_⟩⟩
  obtain ⟨s1, e1⟩ := new_at (.tup []) np1
  generalize upd H p1 (.tup []) = H1 at s1 e1 np2 ⊢
  obtain ⟨s2, e2⟩ := new_at (.tup [.ref p1, .non]) np2
  generalize upd H1 p2 (.tup [.ref p1, .non]) = H2 at s2 e2 ⊢
  have s12 := s1.trans s2
  have hd2 := (hd.sm s).sm s12
  have fin : ∃ k, V.bl true = .bl k ∧ (if k = true then tVar i σ H2 Q else tb σ H2 Q) := ⟨true, rfl, ifY rfl ⟨u, h, q u H2 s12 hd2⟩⟩
  rcases (odd_parts ho).2.2.2.2 with ⟨kvs, rfl⟩ | ⟨a, b, e⟩
  · refine .inr ?_
    cases hd2 with
    | dic0 n hh => exact ⟨_, p2, _, _, rfl, rfl, hh, .inl (.inl e2), fin⟩
    | dic1 n hh => exact ⟨_, p2, _, _, rfl, rfl, hh, .inl (.inl e2), fin⟩
  · refine .inl ⟨d, .tuple [.tuple [], .none], hd2.dp a, .tup (.inl (.inl e2)) (.cons (.tup (.inl (.inl (s2 _ _ e1))) .nil) (.cons .non .nil)), b, by decide, ?_⟩
    rw [e]
    exact fin

/-! ### how much is shown of things made part by part -/
structure RA (k w : Nat) (ds : List PyData) : Prop where
  sh : PyData.showableAll ds = true
  dp : PyData.depthAll ds ≤ k
  lv : PyData.leavesShortAll 40 ds = true
  wt : PyData.weightAll ds ≤ w
theorem RA.nil : RA 0 0 [] := ⟨rfl, Nat.le_refl _, rfl, Nat.le_refl _⟩
theorem RA.cons {k w k' w' : Nat} {d : PyData} {ds : List PyData} (a : RQ k w d) (b : RA k' w' ds) : RA (max k k') (w + 1 + w') (d :: ds) := by
  refine ⟨?_, ?_, ?_, ?_⟩
  · show (d.showable && PyData.showableAll ds) = true
    rw [a.sh, b.sh]
    rfl
  · show max d.depth (PyData.depthAll ds) ≤ _
    have := a.dp
    have := b.dp
    omega
  · show (d.leavesShort 40 && PyData.leavesShortAll 40 ds) = true
    rw [a.lv, b.lv]
    rfl
  · show d.weight + 1 + PyData.weightAll ds ≤ _
    have := a.wt
    have := b.wt
    omega
theorem RA.app {k w k' w' : Nat} {ds es : List PyData} (a : RA k w ds) (b : RA k' w' es) : RA (max k k') (w + w') (ds ++ es) := by
  induction ds generalizing k w with
  | nil => exact ⟨b.sh, Nat.le_trans b.dp (Nat.le_max_right _ _), b.lv, Nat.le_trans b.wt (Nat.le_add_left _ _)⟩
  | cons d t ih =>
    have h1 : (d.showable && PyData.showableAll t) = true := a.sh
    have h2 : max d.depth (PyData.depthAll t) ≤ k := a.dp
    have h3 : (d.leavesShort 40 && PyData.leavesShortAll 40 t) = true := a.lv
    have h4 : d.weight + 1 + PyData.weightAll t ≤ w := a.wt
    rw [Bool.and_eq_true] at h1 h3
    have i := ih (k := k) (w := PyData.weightAll t) ⟨h1.2, by omega, h3.2, Nat.le_refl _⟩
    refine ⟨?_, ?_, ?_, ?_⟩
    · show (d.showable && PyData.showableAll (t ++ es)) = true
      rw [h1.1, i.sh]
      rfl
    · show max d.depth (PyData.depthAll (t ++ es)) ≤ _
      have := i.dp
      omega
    · show (d.leavesShort 40 && PyData.leavesShortAll 40 (t ++ es)) = true
      rw [h3.1, i.lv]
      rfl
    · show d.weight + 1 + PyData.weightAll (t ++ es) ≤ _
      have := i.wt
      omega
theorem RA.of {k w n : Nat} {ds : List PyData} (h : ∀ e ∈ ds, RQ k w e) (hn : ds.length ≤ n) : RA k (n * (w + 1)) ds := by
  obtain ⟨a, b, c, d⟩ := rq_all h
  exact ⟨a, b, c, Nat.le_trans d (Nat.mul_le_mul_right _ hn)⟩
theorem RA.rep {k w : Nat} {ds : List PyData} (a : RA k w ds) : ∀ n : Nat, RA k (n * w) (List.replicate n ds).flatten
  | 0 => ⟨rfl, Nat.zero_le _, rfl, Nat.zero_le _⟩
  | n + 1 => by
    rw [List.replicate_succ, List.flatten_cons]
    have := RA.app a (RA.rep a n)
    exact ⟨this.sh, Nat.le_trans this.dp (Nat.le_of_eq (Nat.max_self k)), this.lv, Nat.le_trans this.wt (by rw [Nat.succ_mul]; omega)⟩
theorem RA.dr {k w : Nat} {ds : List PyData} (a : RA k w ds) : RA k w (ds.drop 1) := by
  cases ds with
  | nil => exact a
  | cons d t =>
    have h1 : (d.showable && PyData.showableAll t) = true := a.sh
    have h2 : max d.depth (PyData.depthAll t) ≤ k := a.dp
    have h3 : (d.leavesShort 40 && PyData.leavesShortAll 40 t) = true := a.lv
    have h4 : d.weight + 1 + PyData.weightAll t ≤ w := a.wt
    rw [Bool.and_eq_true] at h1 h3
    exact ⟨h1.2, by show PyData.depthAll t ≤ k; omega, h3.2, by show PyData.weightAll t ≤ w; omega⟩
theorem RQ.tupA {k w : Nat} {ds : List PyData} (a : RA k w ds) : RQ (k + 1) w (.tuple ds) := ⟨a.sh, Nat.succ_le_succ a.dp, a.lv, a.wt⟩
theorem RQ.lstA {k w : Nat} {ds : List PyData} (a : RA k w ds) : RQ (k + 1) w (.list ds) := ⟨a.sh, Nat.succ_le_succ a.dp, a.lv, a.wt⟩
theorem RQ.cl {k w : Nat} {d : PyData} (h : (d.showable && (decide (d.depth ≤ k) && (d.leavesShort 40 && decide (d.weight ≤ w)))) = true) : RQ k w d := by
  simp only [Bool.and_eq_true, decide_eq_true_eq] at h
  exact ⟨h.1, h.2.1, h.2.2.1, h.2.2.2⟩
theorem rqa_row {r : RW} (h : VRow r) : RQ 1 202 (rwD r) := by
  obtain ⟨h1, h2, h3, h4⟩ := h
  exact RQ.tupA (.cons (rq_small ⟨by omega, by omega⟩) (.cons (rq_small ⟨by omega, by omega⟩) .nil))
theorem rqa_mv {m : MV} (h : VMove m) : RQ 1 303 (mvD m) := by
  obtain ⟨h1, h2, h3, h4⟩ := h
  exact RQ.tupA (.cons (rq_small ⟨by omega, by omega⟩) (.cons (rq_small ⟨by omega, by omega⟩) (.cons (rq_small ⟨by omega, by omega⟩) .nil)))
theorem rqa_ly {l : LY} (h : VLy l) : RQ 3 1726 (lyD l) := RQ.tupA (.cons (RQ.tupA (RA.of (n := 8) (fun x hx => by
    obtain ⟨r, hm, rfl⟩ := List.mem_map.mp hx
    exact rqa_row (h.1.2 r hm)) (by rw [List.length_map]; exact h.1.1))) (.cons (rq_bk h.1.1 h.2) .nil))
theorem rqa_lys {ls : List LY} (h : VLays ls) : RA 3 6908 (ls.map lyD) := RA.of (n := 4) (fun x hx => by
    obtain ⟨r, hm, rfl⟩ := List.mem_map.mp hx
    exact rqa_ly (h.2.2 r hm)) (by rw [List.length_map]; exact h.2.1)
theorem rqa_mvs {x y : Int} {ms : List MV} (h : VWin x y ms) : RA 1 2432 (ms.map mvD) := RA.of (n := 8) (fun x hx => by
    obtain ⟨r, hm, rfl⟩ := List.mem_map.mp hx
    exact rqa_mv (h.2.2.2 r hm)) (by rw [List.length_map]; exact h.2.2.1)
theorem rqa_win {x y : Int} {ms : List MV} (h : VWin x y ms) : RQ 3 2635 (winD x y ms) := RQ.tupA (.cons (rq_small ⟨by have := h.1; omega, by have := h.1; omega⟩) (.cons (rq_small ⟨by have := h.2.1; omega, by have := h.2.1; omega⟩) (.cons (RQ.tupA (rqa_mvs h)) .nil)))
theorem rqa_sh {ls : List LY} {x y : Int} {ms : List MV} (hl : VLays ls) (h : VWin x y ms) : RQ 5 9545 (shD ls x y ms) := RQ.tupA (.cons (RQ.tupA (rqa_lys hl)) (.cons (rqa_win h) .nil))
/-! ### what is no sheet -/
theorem sh_now {l w : PyData} (h : isWinD w = false) : isShD (.tuple [l, w]) = false := by
  cases l with
  | tuple ls =>
    show (decide (1 ≤ ls.length ∧ ls.length ≤ 4) && ls.all isLayD && isWinD w) = false
    rw [h, Bool.and_false]
  | _ => rfl
theorem sh_nol {ls : List PyData} {l w : PyData} (hm : l ∈ ls) (h : isLayD l = false) : isShD (.tuple [.tuple ls, w]) = false := by
  show (decide (1 ≤ ls.length ∧ ls.length ≤ 4) && ls.all isLayD && isWinD w) = false
  rw [show ls.all isLayD = false from List.all_eq_false.mpr ⟨l, hm, by rw [h]; decide⟩, Bool.and_false, Bool.false_and]
theorem sh_nolen {ls : List PyData} {w : PyData} (h : 4 < ls.length) : isShD (.tuple [.tuple ls, w]) = false := by
  show (decide (1 ≤ ls.length ∧ ls.length ≤ 4) && ls.all isLayD && isWinD w) = false
  rw [decide_eq_false (show ¬ (1 ≤ ls.length ∧ ls.length ≤ 4) by omega), Bool.false_and, Bool.false_and]
theorem win_nox {x y m : PyData} (h : isW x (-20) 20 = false ∨ isW y (-20) 20 = false) : isWinD (.tuple [x, y, m]) = false := by
  cases m with
  | tuple ms =>
    show (isW x (-20) 20 && isW y (-20) 20 && decide (ms.length ≤ 8) && ms.all isMoveD) = false
    rcases h with h | h
    · rw [h]; rfl
    · rw [h, Bool.and_false]; rfl
  | _ => rfl
theorem win_nom {x y m : PyData} {ms : List PyData} (hm : m ∈ ms) (h : isMoveD m = false) : isWinD (.tuple [x, y, .tuple ms]) = false := by
  show (isSpotD x y && decide (ms.length ≤ 8) && ms.all isMoveD) = false
  rw [show ms.all isMoveD = false from List.all_eq_false.mpr ⟨m, hm, by rw [h]; decide⟩, Bool.and_false]
theorem win_nolen {x y : PyData} {ms : List PyData} (h : 8 < ms.length) : isWinD (.tuple [x, y, .tuple ms]) = false := by
  show (isSpotD x y && decide (ms.length ≤ 8) && ms.all isMoveD) = false
  rw [decide_eq_false (show ¬ ms.length ≤ 8 by omega), Bool.and_false, Bool.false_and]
theorem all_cons {α : Type} {p : α → Prop} {a : α} {l : List α} (h : p a) (t : ∀ x ∈ l, p x) : ∀ x ∈ a :: l, p x := fun x hx => (List.mem_cons.mp hx).elim (fun e => e ▸ h) (t x)
theorem all_app {α : Type} {p : α → Prop} {a l : List α} (h : ∀ x ∈ a, p x) (t : ∀ x ∈ l, p x) : ∀ x ∈ a ++ l, p x := fun x hx => (List.mem_append.mp hx).elim (h x) (t x)
theorem all_nil {α : Type} {p : α → Prop} : ∀ x ∈ ([] : List α), p x := fun x hx => nomatch hx
theorem mem_all {α : Type} {p : α → Prop} {l : List α} {x : α} (hm : x ∈ l) (h : ∀ y ∈ l, p y) : p x := h x hm

theorem lay_nor {rs : List PyData} {r b : PyData} (hm : r ∈ rs) (h : isRowD r = false) : isLayD (.tuple [.tuple rs, b]) = false := by
  show (decide (rs.length ≤ 8) && rs.all isRowD && bkOk b ((rs.length : Int) - 1)) = false
  rw [show rs.all isRowD = false from List.all_eq_false.mpr ⟨r, hm, by rw [h]; decide⟩, Bool.and_false, Bool.false_and]
theorem lay_nob {rs : List PyData} : isLayD (.tuple [.tuple rs, .int (rs.length : Int)]) = false := by
  show (decide (rs.length ≤ 8) && rs.all isRowD && decide ((0 : Int) ≤ (rs.length : Int) ∧ (rs.length : Int) ≤ (rs.length : Int) - 1)) = false
  rw [decide_eq_false (show ¬ ((0 : Int) ≤ (rs.length : Int) ∧ (rs.length : Int) ≤ (rs.length : Int) - 1) by omega), Bool.and_false]
theorem pairs_mk {K : PySem.W.Frag} {fx : Hp} {k : Str} {tv : TE} {trs : List (TE × TE)} {σ : L2.St} {H : Hp} {ds : List PyData} {Q : List (V × V) → Hp → Prop} (m : MkL K fx tv σ H ds) (h : ∀ a us H', Same H H' → fx a = none → H' a = some (.lst us) → DgAll K fx H' false us ds → tPairs trs σ H' fun ps H2 => Q ((.str k, .ref a) :: ps) H2) : tPairs ((tC (.str k), tv) :: trs) σ H Q := m H (Same.refl _) _ h
def scalD : PyData → Bool
  | .none | .bool _ | .int _ | .str _ => true
  | _ => false
theorem scal_dg {K : PySem.W.Frag} {fx H H' : Hp} {b : Bool} : ∀ {us : List V} {ds : List PyData}, DgAll K fx H b us ds → (∀ d ∈ ds, scalD d = true) → DgAll K fx H' b us ds
  | _, _, .nil, _ => .nil
  | _, _, .cons h t, hs => by
    refine .cons ?_ (scal_dg t fun d hd => hs d (List.mem_cons_of_mem _ hd))
    have e := hs _ (List.mem_cons_self ..)
    cases h with
    | non => exact .non
    | bl x => exact .bl x
    | int i => exact .int i
    | str x => exact .str x
    | tup _ _ => cases e
    | lst _ _ _ => cases e
    | lstF _ _ _ _ => cases e
    | dic0 _ _ => cases e
    | dic1 _ _ => cases e
inductive KindZ : Str → Nat → Prop
  | layer : KindZ "layer" 0
  | window : KindZ "window" 1
  | sheet : KindZ "sheet" 2
  | moment : KindZ "moment" 3
  | number : KindZ "number" 5
/-- a good thing of its kind -/
def Gd4 (K : PySem.W.Frag) (H : Hp) (k : Nat) (v : V) : Prop := (k = 0 ∧ ∃ l, LyAt K H v l ∧ VLy l) ∨ (k = 1 ∧ ∃ x y ms, WinAt K H v x y ms ∧ VWin x y ms) ∨ (k = 2 ∧ ∃ ls x y ms, ShAt K H v ls x y ms ∧ VLays ls ∧ VWin x y ms) ∨ (k = 3 ∧ ∃ i : Int, v = .int i ∧ 0 ≤ i ∧ i < 300) ∨ (k = 5 ∧ ∃ i : Int, v = .int i ∧ 0 ≤ i ∧ i ≤ 200)
section
variable {P : Program} {w : World} {K : PySem.W.Frag} {mg : Str → Option Value} {base : Heap}
def sp__law_bad (K : PySem.W.Frag) : Sp := fun vs H Q _ => ∃ (st : Addr) (z : Str) (v : V) (k : Nat), vs = [.ref st, .str z, v] ∧ IsSt H st ∧ KindZ z k ∧ Gd4 K H k v ∧ ∀ (u : V) (fx : Hp) (d : PyData) (H' : Hp), Gr st H H' → (∀ a, fx a = none → H a = none) → Dg K fx H' false u d → okK k d = false → RQ 8 60000 d → Q u H'
theorem ok__law_bad {f : Addr} {fd : FuncData} (F : Fun K "_law_bad" "_law_bad" s__law_bad f fd) (T : Txt K mg) (D__law_odd : Cl P w K mg base 2 "_law_odd" ["_law_state_here"] (sp__law_odd K)) (D__law_take : Cl P w K mg base 1 "_law_take" ["_law_state_here", "_law_many"] (sp__law_take K)) : FnOk P w K mg base CX0 3 f fd ["_law_state_here", "_law_kind", "_law_good"] (sp__law_bad K) := by
  refine F.ok sc__law_bad (fun vs H Q E h => ?_) (fun cdv A outer s H vs Q E hr h => ?_)
  · obtain ⟨st, z, v, k, rfl, _⟩ := h
    rfl
  · obtain ⟨st, z, v, k, rfl, hs, hz, hg, q⟩ := h
    refine ⟨_, (pss_cons (ps_par (i := 3) (j := 4) (by rfl) sc__law_bad.nd rfl rfl (by decide) rfl rfl (pa_cons (pe_own D__law_odd (hr.mono (by omega)) (by rfl) (pa_cons (pv 0) pa_nil)) (pa_cons (pe_own D__law_take (hr.mono (by omega)) (by rfl) (pa_cons (pv 0) (pa_cons pe_int pa_nil))) pa_nil)) (by rfl))
      (pss_cons (ps_if (pt_cmpR op_eq (pv 1) pe_str (nomark _)) (pss_one (ps_ret (pe_ix ix_list (pe_lstS (pa_cons (pe_tup (pa_cons (pe_op op_catA (pe_ix ix_tup (pv 2) pe_int (fun _ _ => rfl)) (pe_tup (pa_cons (pe_tup (pa_cons pe_int (pa_cons pe_int pa_nil))) pa_nil))) (pa_cons pe_non pa_nil))) (pa_cons (pe_tup (pa_cons (pe_ix ix_tup (pv 2) pe_int (fun _ _ => rfl)) (pa_cons (pe_callB call_len_seq (by rfl) T.b_len (by decide +kernel) (pa_cons (pe_ix ix_tup (pv 2) pe_int (fun _ _ => rfl)) pa_nil)) pa_nil))) (pa_cons (pe_callTy call_listS (by rfl) T.b_list (by decide +kernel) (pa_cons (pv 2) pa_nil)) (pa_cons (pe_ifExp (pt_cmpR (op_neG hr.units) (pv 3) (pe_tup (pa_cons (pe_tup pa_nil) (pa_cons pe_non pa_nil))) (nomark _)) (pv 3) pe_int) pa_nil))))) (pv 4) (fun _ _ => rfl)))) pss_nil)
      (pss_cons (ps_if (pt_cmpR op_eq (pv 1) pe_str (nomark _)) (pss_one (ps_ret (pe_ix ix_list (pe_lstS (pa_cons (pe_tup (pa_cons (pe_ix ix_tup (pv 2) pe_int (fun _ _ => rfl)) (pa_cons pe_int (pa_cons (pe_tup pa_nil) pa_nil)))) (pa_cons (pe_tup (pa_cons (pe_ix ix_tup (pv 2) pe_int (fun _ _ => rfl)) (pa_cons (pe_ix ix_tup (pv 2) pe_int (fun _ _ => rfl)) (pa_cons (pe_op op_catA (pe_ix ix_tup (pv 2) pe_int (fun _ _ => rfl)) (pe_tup (pa_cons (pe_tup (pa_cons pe_int (pa_cons pe_int (pa_cons pe_int pa_nil)))) pa_nil))) pa_nil)))) (pa_cons (pe_slice sl_tupA (pv 2) po_none (po_some pe_int)) (pa_cons (pv 3) pa_nil))))) (pv 4) (fun _ _ => rfl)))) pss_nil)
      (pss_cons (ps_if (pt_cmpR op_eq (pv 1) pe_str (nomark _)) (pss_one (ps_ret (pe_ix ix_list (pe_lstS (pa_cons (pe_tup (pa_cons (pe_op op_repA (pe_ix ix_tup (pv 2) pe_int (fun _ _ => rfl)) pe_int) (pa_cons (pe_ix ix_tup (pv 2) pe_int (fun _ _ => rfl)) pa_nil))) (pa_cons (pe_tup (pa_cons (pe_ix ix_tup (pv 2) pe_int (fun _ _ => rfl)) (pa_cons (pe_slice sl_tupA (pe_ix ix_tup (pv 2) pe_int (fun _ _ => rfl)) po_none (po_some pe_int)) pa_nil))) (pa_cons (pe_tup (pa_cons (pe_op op_catA (pe_ix ix_tup (pv 2) pe_int (fun _ _ => rfl)) (pe_tup (pa_cons pe_non pa_nil))) (pa_cons (pe_ix ix_tup (pv 2) pe_int (fun _ _ => rfl)) pa_nil))) (pa_cons (pv 3) pa_nil))))) (pv 4) (fun _ _ => rfl)))) pss_nil)
      (pss_cons (ps_set (i := 5) sc__law_bad.nd rfl (Or.inl rfl) (pe_disp (pps_cons pe_str (pe_lstS (pa_cons (pe_op op_add (pe_op op_pow pe_int pe_int) pe_int) (pa_cons (pe_un un_neg pe_int) (pa_cons pe_bl (pa_cons pe_non pa_nil))))) (pps_cons pe_str (pe_lstS (pa_cons pe_int (pa_cons (pe_un un_neg pe_int) (pa_cons pe_bl (pa_cons pe_str pa_nil))))) pps_nil)) (by rfl) (by rfl) (fun z => by cases z) (by decide)))
      (pss_one (ps_ret (pe_ix ix_list (pe_dget (Nat.lt_of_le_of_lt (Nat.add_le_add_left (show 1 ≤ 64 by decide) _) hr.units) (pv 5) (pv 1) (fun _ _ => rfl)) (pv 4) (fun _ _ => rfl))))))))), ?_⟩
    refine ⟨_, rfl, st, rfl, hs, fun u0 d0 H1 g1 h0 ob => ?_⟩
    have hs1 := g1.2 hs
    refine ⟨_, rfl, st, 4, rfl, hs1, by decide, by decide, fun r H2 r0 r1 g2 => ⟨_, _, rfl, ?_⟩⟩
    have g12 := g1.trans g2
    have hs2 := g12.2 hs
    have h02 : Dg K H H2 false u0 d0 := h0.gr g2 hs1 (st_some hs)
    have hf : ∀ p, H2 p = none → H p = none := fun p np => g12.free hs np
    obtain ⟨o1, o2, o3, oq, _⟩ := odd_parts ob
    -- what is taken out of a list of four
    have fin : ∀ (a : Addr) (us : List V) (H3 : Hp) (ds : List PyData), Same H2 H3 → H a = none → H3 a = some (.lst us) → DgAll K H H3 false us ds → ds.length = 4 → (∀ x ∈ ds, okK k x = false ∧ RQ 8 60000 x) → rIxL K (.ref a) (.int r) H3 Q := fun a us H3 ds s3 _ e3 d3 l4 ha => by
      have lu := DgAll.len d3
      obtain ⟨u, dd, hu, hm, hd⟩ := pick_dg d3 r0 (by omega)
      exact ⟨a, us, r, u, rfl, rfl, .inl (.inl e3), hu, q u H dd H3 (g12.trans (gr_same s3)) (fun _ e => e) hd (ha dd hm).1 (ha dd hm).2⟩
    cases hz with
    | layer =>
      refine ⟨_, rfl, rfl, _, rfl, ifY (by decide +kernel) ?_⟩
      dsimp only [tRet]
      obtain ⟨l, hl, vl⟩ : ∃ l, LyAt K H v l ∧ VLy l := by
        rcases hg with ⟨_, h⟩ | ⟨e, _⟩ | ⟨e, _⟩ | ⟨e, _⟩ | ⟨e, _⟩
        · exact h
        all_goals exact absurd e (by decide)
      have hl2 := hl.keep (g12.tk hs)
      have hD : Dg K H H2 false v (.tuple [.tuple (l.1.map rwD), bkD l.2]) := hl2.dg
      obtain ⟨p, rv, rfl, hp, pr, us, rfl, hq, pd⟩ := id hl2
      have hR : Dg K H H2 false (.ref pr) (.tuple (l.1.map rwD)) := .tup hq (rows_dg pd)
      have l8 : l.1.length ≤ 8 := vl.1.1
      have rR : RA 1 1624 (l.1.map rwD) := RA.of (n := 8) (fun x hx => by
        obtain ⟨r, hm, rfl⟩ := List.mem_map.mp hx
        exact rqa_row (vl.1.2 r hm)) (by rw [List.length_map]; exact l8)
      refine MkL.op (K := K) (fx := H) (MkL.lst hf (.cons (MkD.tup (.cons (MkD.cat (by rw [List.length_map]; show l.1.length + 1 ≤ 1000; omega) (MkD.ix hR hp) (MkD.tup (.cons (MkD.tup (.cons MkD.int (.cons MkD.int .nil))) .nil))) (.cons MkD.non .nil)))
        (.cons (MkD.tup (.cons (MkD.ix hR hp) (.cons (MkD.len (MkD.ix hR hp)) .nil))) (.cons (MkD.list hf (MkD.var hD)) (.cons (MkD.ifO h02 ob) .nil))))) fun a us' H3 s3 fa e3 d3 => ?_
      refine ⟨_, rfl, fin a us' H3 _ s3 fa e3 d3 rfl ?_⟩
      exact all_cons ⟨lay_nor (List.mem_append_right _ (List.mem_singleton.mpr rfl)) (by decide), RQ.more (RQ.tupA (.cons (RQ.tupA (RA.app rR (.cons (RQ.tupA (.cons (rq_small ⟨by decide, by decide⟩) (.cons (rq_small ⟨by decide, by decide⟩) .nil))) .nil))) (.cons RQ.non .nil))) (by decide) (by decide)⟩
        (all_cons ⟨lay_nob, RQ.more (RQ.tupA (.cons (RQ.tupA rR) (.cons (rq_small ⟨by omega, by rw [List.length_map]; omega⟩) .nil))) (by decide) (by decide)⟩
        (all_cons ⟨rfl, RQ.more (RQ.lstA (.cons (RQ.tupA rR) (.cons (rq_bk l8 vl.2) .nil))) (by decide) (by decide)⟩
        (all_cons ⟨o1, oq⟩ all_nil)))
    | window =>
      refine ⟨_, rfl, rfl, _, rfl, ifN (by decide +kernel) ?_⟩
      refine ⟨_, rfl, rfl, _, rfl, ifY (by decide +kernel) ?_⟩
      dsimp only [tRet]
      obtain ⟨x, y, ms, hw, vw⟩ : ∃ x y ms, WinAt K H v x y ms ∧ VWin x y ms := by
        rcases hg with ⟨e, _⟩ | ⟨_, h⟩ | ⟨e, _⟩ | ⟨e, _⟩ | ⟨e, _⟩
        rotate_left 1
        · exact h
        all_goals exact absurd e (by decide)
      have hw2 := hw.keep (g12.tk hs)
      have hD : Dg K H H2 false v (.tuple [.int x, .int y, .tuple (ms.map mvD)]) := hw2.dg
      obtain ⟨p, mv, rfl, hp, pm, us, rfl, hq, pd⟩ := id hw2
      have hM : Dg K H H2 false (.ref pm) (.tuple (ms.map mvD)) := .tup hq (moves_dg pd)
      have hX : Dg K H H2 false (.int x) (.int x) := .int x
      have hY : Dg K H H2 false (.int y) (.int y) := .int y
      have l8 := vw.2.2.1
      have rM := rqa_mvs vw
      have rx : RQ 0 100 (.int x) := rq_small ⟨by have := vw.1; omega, by have := vw.1; omega⟩
      have ry : RQ 0 100 (.int y) := rq_small ⟨by have := vw.2.1; omega, by have := vw.2.1; omega⟩
      refine MkL.op (K := K) (fx := H) (MkL.lst hf (.cons (MkD.tup (.cons (MkD.ix hX hp) (.cons MkD.int (.cons (MkD.tup .nil) .nil))))
        (.cons (MkD.tup (.cons (MkD.ix hX hp) (.cons (MkD.ix hY hp) (.cons (MkD.cat (by rw [List.length_map]; show ms.length + 1 ≤ 1000; omega) (MkD.ix hM hp) (MkD.tup (.cons (MkD.tup (.cons MkD.int (.cons MkD.int (.cons MkD.int .nil)))) .nil))) .nil))))
        (.cons (MkD.take2 (MkD.var hD)) (.cons (MkD.var h02) .nil))))) fun a us' H3 s3 fa e3 d3 => ?_
      refine ⟨_, rfl, fin a us' H3 _ s3 fa e3 d3 rfl ?_⟩
      exact all_cons ⟨(show isWinD (.tuple [.int x, .int 21, .tuple []]) = false from win_nox (.inr (by decide))), RQ.more (RQ.tupA (.cons rx (.cons (rq_small ⟨by decide, by decide⟩) (.cons (RQ.tupA .nil) .nil)))) (by decide) (by decide)⟩
        (all_cons ⟨win_nom (List.mem_append_right _ (List.mem_singleton.mpr rfl)) (by decide), RQ.more (RQ.tupA (.cons rx (.cons ry (.cons (RQ.tupA (RA.app rM (.cons (RQ.tupA (.cons (rq_small ⟨by decide, by decide⟩) (.cons (rq_small ⟨by decide, by decide⟩) (.cons (rq_small ⟨by decide, by decide⟩) .nil)))) .nil))) .nil)))) (by decide) (by decide)⟩
        (all_cons ⟨rfl, RQ.more (RQ.tupA (.cons rx (.cons ry .nil))) (by decide) (by decide)⟩
        (all_cons ⟨o2, oq⟩ all_nil)))
    | sheet =>
      refine ⟨_, rfl, rfl, _, rfl, ifN (by decide +kernel) ?_⟩
      refine ⟨_, rfl, rfl, _, rfl, ifN (by decide +kernel) ?_⟩
      refine ⟨_, rfl, rfl, _, rfl, ifY (by decide +kernel) ?_⟩
      dsimp only [tRet]
      obtain ⟨ls, x, y, ms, hsh, vL, vw⟩ : ∃ ls x y ms, ShAt K H v ls x y ms ∧ VLays ls ∧ VWin x y ms := by
        rcases hg with ⟨e, _⟩ | ⟨e, _⟩ | ⟨_, h⟩ | ⟨e, _⟩ | ⟨e, _⟩
        rotate_left 2
        · exact h
        all_goals exact absurd e (by decide)
      have hw2 := hsh.keep (g12.tk hs)
      obtain ⟨p, lv, wv, rfl, hp, ⟨pl, us, rfl, hq, pd⟩, hw⟩ := id hw2
      have hL : Dg K H H2 false (.ref pl) (.tuple (ls.map lyD)) := .tup hq (lays_dg pd)
      have hW : Dg K H H2 false wv (.tuple [.int x, .int y, .tuple (ms.map mvD)]) := hw.dg
      have l1 := vL.1
      have l4 := vL.2.1
      have lne : ls.map lyD ≠ [] := fun z => by
        have := congrArg List.length z
        rw [List.length_map] at this
        exact absurd this (by show ls.length ≠ 0; omega)
      have l5 : 4 < (List.replicate 5 (ls.map lyD)).flatten.length := by
        simp only [List.length_flatten, List.map_replicate, List.length_map, List.sum_replicate_nat]
        omega
      have rL := rqa_lys vL
      have rW := rqa_win vw
      have rx : RQ 0 100 (.int x) := rq_small ⟨by have := vw.1; omega, by have := vw.1; omega⟩
      have ry : RQ 0 100 (.int y) := rq_small ⟨by have := vw.2.1; omega, by have := vw.2.1; omega⟩
      refine MkL.op (K := K) (fx := H) (MkL.lst hf (.cons (MkD.tup (.cons (MkD.rep (k := 5) lne (by rw [List.length_map]; omega) (by decide) (MkD.ix hL hp)) (.cons (MkD.ix hW hp) .nil)))
        (.cons (MkD.tup (.cons (MkD.ix hL hp) (.cons (MkD.take2 (MkD.ix hW hp)) .nil)))
        (.cons (MkD.tup (.cons (MkD.cat (by rw [List.length_map]; show ls.length + 1 ≤ 1000; omega) (MkD.ix hL hp) (MkD.tup (.cons MkD.non .nil))) (.cons (MkD.ix hW hp) .nil))) (.cons (MkD.var h02) .nil))))) fun a us' H3 s3 fa e3 d3 => ?_
      refine ⟨_, rfl, fin a us' H3 _ s3 fa e3 d3 rfl ?_⟩
      exact all_cons ⟨sh_nolen l5, RQ.more (RQ.tupA (.cons (RQ.tupA (RA.rep rL 5)) (.cons rW .nil))) (by decide) (by decide)⟩
        (all_cons ⟨(show isShD (.tuple [.tuple (ls.map lyD), .tuple [.int x, .int y]]) = false from sh_now rfl), RQ.more (RQ.tupA (.cons (RQ.tupA rL) (.cons (RQ.tupA (.cons rx (.cons ry .nil))) .nil))) (by decide) (by decide)⟩
        (all_cons ⟨sh_nol (List.mem_append_right _ (List.mem_singleton.mpr rfl)) rfl, RQ.more (RQ.tupA (.cons (RQ.tupA (RA.app rL (.cons RQ.non .nil))) (.cons rW .nil))) (by decide) (by decide)⟩
        (all_cons ⟨o3, oq⟩ all_nil)))
    | moment =>
      refine ⟨_, rfl, rfl, _, rfl, ifN (by decide +kernel) ?_⟩
      refine ⟨_, rfl, rfl, _, rfl, ifN (by decide +kernel) ?_⟩
      refine ⟨_, rfl, rfl, _, rfl, ifN (by decide +kernel) ?_⟩
      refine fun p1 np1 => ?_
      have t0 := same_upd (o := .dK []) np1
      have e0 : upd H2 p1 (.dK []) p1 = some (.dK []) := upd_same
      generalize upd H2 p1 (.dK []) = J0 at t0 e0 ⊢
      have hf0 : ∀ p, J0 p = none → H p = none := fun p np => hf p (t0.free np)
      refine pairs_mk (K := K) (fx := H) (MkL.lst hf0 (.cons (MkD.powA ⟨by decide, by decide, by decide⟩) (.cons MkD.neg (.cons MkD.bl (.cons MkD.non .nil))))) fun a1 u1 J1 t1 fa1 e1 d1 => ?_
      refine pairs_mk (K := K) (fx := H) (MkL.lst (fun p np => hf0 p (t1.free np)) (.cons MkD.int (.cons MkD.neg (.cons MkD.bl (.cons MkD.str .nil))))) fun a2 u2 J2 t2 fa2 e2 d2 => ?_
      refine ⟨t2 _ _ (t1 _ _ e0), [(Sum.inr "moment", .ref a1), (Sum.inr "number", .ref a2)], rfl, Nat.le_of_ble_eq_true rfl, ?_⟩
      have n1 : a1 ≠ p1 := fun z => by
        have := t1 _ _ e0
        rw [← z, e1] at this
        cases this
      have n2 : a2 ≠ p1 := fun z => by
        have := t2 _ _ (t1 _ _ e0)
        rw [← z, e2] at this
        cases this
      have sJ : Same H2 (upd J2 p1 (.dK (mergeK [] [(Sum.inr "moment", V.ref a1), (Sum.inr "number", .ref a2)]))) := fun b o e => by
        rw [upd_ne (ne_of_none e np1)]
        exact t2 _ _ (t1 _ _ (t0 _ _ e))
      refine ⟨_, rfl, _, rfl, p1, .ref a1, rfl, .inl ⟨_, Sum.inr "moment", .inl upd_same, rfl, by kernel_rfl⟩, _, rfl, fin a1 u1 _ _ sJ fa1 (by rw [upd_ne n1]; exact (t2 _ _ e1)) (scal_dg d1 (by decide)) rfl ?_⟩
      exact all_cons ⟨by decide +kernel, RQ.cl (by decide +kernel)⟩ (all_cons ⟨by decide +kernel, RQ.cl (by decide +kernel)⟩ (all_cons ⟨by decide +kernel, RQ.cl (by decide +kernel)⟩ (all_cons ⟨by decide +kernel, RQ.cl (by decide +kernel)⟩ all_nil)))
    | number =>
      refine ⟨_, rfl, rfl, _, rfl, ifN (by decide +kernel) ?_⟩
      refine ⟨_, rfl, rfl, _, rfl, ifN (by decide +kernel) ?_⟩
      refine ⟨_, rfl, rfl, _, rfl, ifN (by decide +kernel) ?_⟩
      refine fun p1 np1 => ?_
      have t0 := same_upd (o := .dK []) np1
      have e0 : upd H2 p1 (.dK []) p1 = some (.dK []) := upd_same
      generalize upd H2 p1 (.dK []) = J0 at t0 e0 ⊢
      have hf0 : ∀ p, J0 p = none → H p = none := fun p np => hf p (t0.free np)
      refine pairs_mk (K := K) (fx := H) (MkL.lst hf0 (.cons (MkD.powA ⟨by decide, by decide, by decide⟩) (.cons MkD.neg (.cons MkD.bl (.cons MkD.non .nil))))) fun a1 u1 J1 t1 fa1 e1 d1 => ?_
      refine pairs_mk (K := K) (fx := H) (MkL.lst (fun p np => hf0 p (t1.free np)) (.cons MkD.int (.cons MkD.neg (.cons MkD.bl (.cons MkD.str .nil))))) fun a2 u2 J2 t2 fa2 e2 d2 => ?_
      refine ⟨t2 _ _ (t1 _ _ e0), [(Sum.inr "moment", .ref a1), (Sum.inr "number", .ref a2)], rfl, Nat.le_of_ble_eq_true rfl, ?_⟩
      have n1 : a1 ≠ p1 := fun z => by
        have := t1 _ _ e0
        rw [← z, e1] at this
        cases this
      have n2 : a2 ≠ p1 := fun z => by
        have := t2 _ _ (t1 _ _ e0)
        rw [← z, e2] at this
        cases this
      have sJ : Same H2 (upd J2 p1 (.dK (mergeK [] [(Sum.inr "moment", V.ref a1), (Sum.inr "number", .ref a2)]))) := fun b o e => by
        rw [upd_ne (ne_of_none e np1)]
        exact t2 _ _ (t1 _ _ (t0 _ _ e))
      refine ⟨_, rfl, _, rfl, p1, .ref a2, rfl, .inl ⟨_, Sum.inr "number", .inl upd_same, rfl, by kernel_rfl⟩, _, rfl, fin a2 u2 _ _ sJ fa2 (by rw [upd_ne n2]; exact e2) (scal_dg d2 (by decide)) rfl ?_⟩
      exact all_cons ⟨by decide +kernel, RQ.cl (by decide +kernel)⟩ (all_cons ⟨by decide +kernel, RQ.cl (by decide +kernel)⟩ (all_cons ⟨by decide +kernel, RQ.cl (by decide +kernel)⟩ (all_cons ⟨by decide +kernel, RQ.cl (by decide +kernel)⟩ all_nil)))
end

/-! ### a def that calls repr, called by its name -/
section
variable {X : Cx}
theorem pe_ownG {k : Nat} {x : Str} {ps : List Str} {sp : Sp} {e : Expr} {es : List Expr} {t : TA} {p pos : Pos} (C : ClG X.prog X.w X.K X.mg X.base k x ps sp) (hgu : X.A.guards = some []) (hr : Room k X.A) (hg : Gl X x) (ha : PA X (e :: es) t)
    (hdb : (x == ("__debug__" : Str)) = false := by decide) (he : starEach (e :: es) X.env = (false, eval e X.env) :: starEach es X.env := by rfl) (hpl : (backTo pos (starEach es X.env)).any (·.1) = false := by rfl) :
    PE X (.Call (.Name x p) (e :: es) [] pos) (tCall sp [] E0 t) := by
  obtain ⟨f, fd, F, hk, hb, hm⟩ := C.ex
  refine ⟨fun pins s σ H Q I h => wpAny_Call_Name_kw (ld_glob I hg hm (PySem.W.callWith_K (h₀ := X.base) I.ok.mod.kin hk (thn (ha.run pos pins s σ H _ I h) fun us s1 hx => ?_) he hpl) hdb)⟩
  obtain ⟨vs, H1, I1, r, q⟩ := hx
  have r2 : Vals (vs ++ []) (us ++ []) := r.append .nil
  have hl : (us ++ []).length = ps.length := by rw [← r2.length]; exact F.len _ _ _ _ q
  refine ⟨I1.kIn, wpAny_call (codeAny_mono (F.run X.A X.stack s1 H1 ⟨us, []⟩ (us ++ []) (vs ++ []) Q E0 hgu hr I1.env0 (hb s1 us I1.kIn hl) r2 q) fun rr s' hq => ?_)⟩
  cases rr with
  | error er => exact pass0 pins σ H1 s1 er s' I1 hq
  | ok fl =>
    cases fl with
    | ret u => exact I1.after hq
    | next => exact False.elim hq
    | brk => exact False.elim hq
    | cont => exact False.elim hq
end

/-! ### the first bad one among few -/
def fS (st D : Addr) : Hp := fun a => if a = st ∨ a = D then some (.lst []) else none
theorem fS_st {st D : Addr} : fS st D st ≠ none := by
  unfold fS
  rw [if_pos (.inl rfl)]
  intro z
  cases z
theorem fS_no {st D b : Addr} (h : fS st D b = none) : b ≠ st ∧ b ≠ D := by
  unfold fS at h
  refine ⟨fun z => ?_, fun z => ?_⟩
  · rw [if_pos (.inl z)] at h
    cases h
  · rw [if_pos (.inr z)] at h
    cases h
theorem DgAll.up {K : PySem.W.Frag} {H : Hp} {st D : Addr} {o : List V} (e : H D = some (.lst o)) (n : List V) {b : Bool} {vs : List V} {ds : List PyData} (h : DgAll K (fS st D) H b vs ds) : DgAll K (fS st D) (upd H D (.lst n)) b vs ds :=
  DgAll.kp (fun a xs h => tk_updL e _ _ h) (fun b o' hb hh => by rw [upd_ne (fS_no hb).2]; exact hh) h
theorem Dg.up {K : PySem.W.Frag} {H : Hp} {st D : Addr} {o : List V} (e : H D = some (.lst o)) (n : List V) {b : Bool} {v : V} {d : PyData} (h : Dg K (fS st D) H b v d) : Dg K (fS st D) (upd H D (.lst n)) b v d :=
  Dg.kp (fun a xs h => tk_updL e _ _ h) (fun b o' hb hh => by rw [upd_ne (fS_no hb).2]; exact hh) h
theorem DgAll.setD {K : PySem.W.Frag} {fx H : Hp} {b : Bool} {u : V} {d : PyData} (hu : Dg K fx H b u d) : ∀ {vs : List V} {ds : List PyData} (j : Nat), DgAll K fx H b vs ds → DgAll K fx H b (vs.set j u) (ds.set j d)
  | _, _, _, .nil => .nil
  | _, _, 0, .cons _ t => .cons hu t
  | _, _, j + 1, .cons h t => .cons h (DgAll.setD hu j t)
theorem ix_ok {n j : Nat} (h : j < n) : ixN n (j : Int) = some j := by
  unfold ixN
  rw [if_pos (by omega), if_pos (by omega), Int.toNat_natCast]
theorem atI_ok {xs : List V} {v : V} {j : Nat} (h : xs[j]? = some v) : atI xs (j : Int) = some v := by
  have : j < xs.length := (List.getElem?_eq_some_iff.mp h).1
  unfold atI
  rw [ix_ok this]
  exact h
theorem refC_at : ∀ {m : Nat} {ks : List Nat} {ds : List PyData} {k : Nat} {d : PyData}, ks[m]? = some k → ds[m]? = some d → okK k d = false → (∀ i k' d', i < m → ks[i]? = some k' → ds[i]? = some d' → okK k' d' = true) → refC ks ds = some k
  | 0, a :: ks, b :: ds, k, d, h1, h2, e, _ => by
    cases h1
    cases h2
    unfold refC
    rw [if_neg (by rw [e]; decide)]
  | m + 1, a :: ks, b :: ds, k, d, h1, h2, e, hb => by
    unfold refC
    rw [if_pos (hb 0 a b (Nat.succ_pos _) rfl rfl)]
    exact refC_at (m := m) h1 h2 e fun i k' d' hi e1 e2 => hb (i + 1) k' d' (Nat.succ_lt_succ hi) e1 e2
theorem Gd4.dg {K : PySem.W.Frag} {H : Hp} {k : Nat} {v : V} (h : Gd4 K H k v) : ∀ fx, ∃ d, Dg K fx H false v d ∧ okK k d = true ∧ RQ 8 60000 d := fun fx => by
  rcases h with ⟨rfl, l, h, a⟩ | ⟨rfl, x, y, ms, h, a⟩ | ⟨rfl, ls, x, y, ms, h, a, b⟩ | ⟨rfl, i, rfl, a, b⟩ | ⟨rfl, i, rfl, a, b⟩
  · exact ⟨_, h.dg, lay_true a, (rqa_ly a).more (by decide) (by decide)⟩
  · exact ⟨_, h.dg, win_true a, (rqa_win a).more (by decide) (by decide)⟩
  · exact ⟨_, h.dg, sh_true a b, (rqa_sh a b).more (by decide) (by decide)⟩
  · exact ⟨_, .int i, decide_eq_true ⟨a, by omega⟩, (rq_small ⟨by omega, by omega⟩).more (by decide) (by decide)⟩
  · exact ⟨_, .int i, decide_eq_true ⟨a, by omega⟩, (rq_small ⟨by omega, by omega⟩).more (by decide) (by decide)⟩
theorem gvk_dg {K : PySem.W.Frag} {fx H : Hp} : ∀ {ks : List Nat} {gs : List V}, gs.length = ks.length → (∀ (i : Nat) (k : Nat), ks[i]? = some k → ∃ v, gs[i]? = some v ∧ Gd4 K H k v) → ∃ ds, DgAll K fx H false gs ds ∧ ds.length = ks.length ∧ (∀ (i : Nat) (k : Nat) (d : PyData), ks[i]? = some k → ds[i]? = some d → okK k d = true) ∧ ∀ d ∈ ds, RQ 8 60000 d
  | [], [], _, _ => ⟨[], .nil, rfl, fun i k d h => by simp at h, all_nil⟩
  | k :: ks, g :: gs, hl, h => by
    obtain ⟨ds, a, b, c, e⟩ := gvk_dg (K := K) (fx := fx) (H := H) (ks := ks) (gs := gs) (Nat.succ.inj hl) fun i k' hk => h (i + 1) k' hk
    obtain ⟨v, hv, hg⟩ := h 0 k rfl
    cases hv
    obtain ⟨d, d1, d2, d3⟩ := hg.dg fx
    refine ⟨d :: ds, .cons d1 a, by rw [List.length_cons, List.length_cons, b], fun i k' d' h1 h2 => ?_, all_cons d3 e⟩
    cases i with
    | zero =>
      cases h1
      cases h2
      exact d2
    | succ i => exact c i k' d' h1 h2
  | [], _ :: _, hl, _ => by cases hl
  | _ :: _, [], hl, _ => by cases hl
theorem mem_setD {ds : List PyData} {j : Nat} {d : PyData} (hd : RQ 8 60000 d) (h : ∀ x ∈ ds, RQ 8 60000 x) : ∀ x ∈ ds.set j d, RQ 8 60000 x := fun x hx => (List.mem_or_eq_of_mem_set hx).elim (h x) (fun e => e ▸ hd)
theorem kind_rf {z : Str} {k : Nat} (h : KindZ z k) : rfN k = z := by
  cases h <;> decide +kernel
/-- sorted(set(x)), x a list of whole numbers -/
theorem rset_mk {K : PySem.W.Frag} {w : World} {v : V} {H : Hp} {R : VK} (p : Addr) (ns0 : List Int) (ev : v = .ref p) (hp : SqL K H p (ns0.map V.int)) (hl : ns0.length ≤ 63) (h : ∀ (ns : List Int) (p8 : Addr) (H8 : Hp), Same H H8 → H p8 = none → H8 p8 = some (.lst (ns.map V.int)) → ns.Pairwise (· < ·) → (∀ k, k ∈ ns ↔ k ∈ ns0) → R (.ref p8) H8) :
    rSetL K w [v] H fun v2 H2 => rSortedSet w [v2] H2 R := by
  subst ev
  refine ⟨p, ns0, rfl, hp, hl, fun S n7 p7 hS hn7 np7 => ⟨p7, S, n7, rfl, upd_same, by omega, fun ns p8 hpw hmem _ np8 => ?_⟩⟩
  have s7 := same_upd (o := SetO w p7 S n7) np7
  exact h ns p8 _ (s7.trans (same_upd np8)) (s7.free np8) upd_same hpw fun k => by rw [hmem, hS]
theorem no_ne {x y : V} (h : x = y) (e : (!decide (x = y)) = true) : False := by
  rw [decide_eq_true h] at e
  cases e
mutual
theorem Dg.kq {K : PySem.W.Frag} {fx : Hp} {H H' : Hp} (kt : TKeep K H H') (kb : ∀ b o, fx b = none → (∀ ps, o ≠ .tbl ps) → H b = some o → H' b = some o) : ∀ {b : Bool} {v : V} {d : PyData}, Dg K fx H b v d → Dg K fx H' b v d
  | _, _, _, .non => .non
  | _, _, _, .bl x => .bl x
  | _, _, _, .int i => .int i
  | _, _, _, .str x => .str x
  | _, _, _, .tup h q => .tup (kt _ _ h) (DgAll.kq kt kb q)
  | _, _, _, .lst n h q => .lst n (kb _ _ n lst_tbl h) (DgAll.kq kt kb q)
  | _, _, _, .lstF n m h q => .lstF n m (kb _ _ n lst_tbl h) (DgAll.kq kt kb q)
  | _, _, _, .dic0 n h => .dic0 n (kb _ _ n (fun ps z => by cases z) h)
  | _, _, _, .dic1 n h => .dic1 n (kb _ _ n (fun ps z => by cases z) h)
theorem DgAll.kq {K : PySem.W.Frag} {fx : Hp} {H H' : Hp} (kt : TKeep K H H') (kb : ∀ b o, fx b = none → (∀ ps, o ≠ .tbl ps) → H b = some o → H' b = some o) : ∀ {b : Bool} {v : List V} {d : List PyData}, DgAll K fx H b v d → DgAll K fx H' b v d
  | _, _, _, .nil => .nil
  | _, _, _, .cons h q => .cons (Dg.kq kt kb h) (DgAll.kq kt kb q)
end
theorem DgAll.gv {TS : List (Addr × Str)} {K : PySem.W.Frag} {fx : Hp} {st : Addr} {H H' : Hp} {b : Bool} {v : List V} {d : List PyData} (g : Gv TS st H H') (hs : IsSt H st) (hf : fx st ≠ none) (h : DgAll K fx H b v d) : DgAll K fx H' b v d := DgAll.kq (g.tk hs) (fun b o hb z e => g.1 b o (fun y => hf (by rw [← y]; exact hb)) z e) h
theorem kind_lt {z : Str} {k : Nat} (h : KindZ z k) : k < 16 := by
  cases h <;> decide

section
variable {P : Program} {w : World} {K : PySem.W.Frag} {mg : Str → Option Value} {base : Heap}
/-- kinds and good things, place by place -/
structure Gvk (K : PySem.W.Frag) (H : Hp) (zs : List Str) (ks : List Nat) (vs : List V) : Prop where
  l1 : zs.length = ks.length
  l2 : vs.length = ks.length
  at' : ∀ (i : Nat) (k : Nat), ks[i]? = some k → ∃ z v, zs[i]? = some z ∧ vs[i]? = some v ∧ KindZ z k ∧ Gd4 K H k v
theorem Gd4.keep {K : PySem.W.Frag} {H H' : Hp} {k : Nat} {v : V} (t : TKeep K H H') : Gd4 K H k v → Gd4 K H' k v := by
  rintro (⟨e, l, h, a⟩ | ⟨e, x, y, ms, h, a⟩ | ⟨e, ls, x, y, ms, h, a⟩ | h | h)
  · exact .inl ⟨e, l, h.keep t, a⟩
  · exact .inr (.inl ⟨e, x, y, ms, h.keep t, a⟩)
  · exact .inr (.inr (.inl ⟨e, ls, x, y, ms, h.keep t, a⟩))
  · exact .inr (.inr (.inr (.inl h)))
  · exact .inr (.inr (.inr (.inr h)))
theorem heap_eq {P : Hp → Prop} {A B : Hp} (e : A = B) (h : P B) : P A := e ▸ h
def sp__law_right (K : PySem.W.Frag) (TS : List (Addr × Str)) : Sp := fun vs H Q _ => ∃ (st : Addr) (z : Str) (Z G : Addr) (zs : List Str) (ks : List Nat) (gs : List V), vs = [.ref st, .str z, .ref Z, .ref G] ∧ IsSt H st ∧ LamX.Tabs TS H ∧ Z ≠ st ∧ G ≠ st ∧ H Z = some (.lst (zs.map V.str)) ∧ H G = some (.lst gs) ∧ Crow4 z ks ∧ Gvk K H zs ks gs ∧ ∀ H', Gv TS st H H' → Q (.bl true) H'
theorem ok__law_right {f gr cc PP : Addr} {fd fdr : FuncData} {c : Nat → Addr} {LE : Addr} {TS : List (Addr × Str)} (F : FunC K "_law_right" "_law_right" s__law_right f fd cc) (T : Txt K mg) (TX : ExcN K mg c LE) (MR : Mkr base mg cc PP "_law_right" TS) (Fr : Fun K "_law_refused" "_law_refused" s__law_refused gr fdr) (mr : mg "_law_refused" = some (.ref gr)) (br : Binds K fdr ["_law_call_here"] []) (DM : ClE P w K mg base 1 "_law_marks" ["_law_error"] (spMrk c)) (D__law_take : Cl P w K mg base 1 "_law_take" ["_law_state_here", "_law_many"] (sp__law_take K)) (D__law_bad : Cl P w K mg base 3 "_law_bad" ["_law_state_here", "_law_kind", "_law_good"] (sp__law_bad K)) (D__law_call : ClX P w K mg base 10 "_law_call" ["_law_name", "_law_some"] (sp__law_call K c)) : FnG P w K mg base 13 f fd ["_law_state_here", "_law_name", "_law_kinds", "_law_good"] (sp__law_right K TS) := by
  refine fun_okLG F sc__law_right (fun vs H Q E h => ?_) (fun A outer s H vs Q E hgu hr h => ?_)
  · obtain ⟨st, z, Z, G, zs, ks, gs, rfl, _⟩ := h
    rfl
  · obtain ⟨st, z, Z, G, zs, ks, gs, rfl, hs, hT, nZ, nG, eZ, eG, hc, gv, q⟩ := h
    have lk : ks.length ≤ 3 := by cases hc <;> exact Nat.le_of_ble_eq_true rfl
    have lz := gv.l1
    have lg := gv.l2
    refine ⟨_, (pss_cons (ps_for PassesOwn.never rfl (pi_range1 (by rfl) T.b_range (pa_cons (pe_callB call_len_seq (by rfl) T.b_len (by decide +kernel) (pa_cons (pv 2) pa_nil)) pa_nil)) (pg_name (i := 4) sc__law_right.nd rfl (Or.inl rfl))
        (pss_one (ps_for PassesOwn.never rfl (pi_list (pe_lstS (pa_cons (pv 4) (pa_cons (pe_own D__law_take (hr.mono (by omega)) (by rfl) (pa_cons (pv 0) (pa_cons (pe_callB call_len_seq (by rfl) T.b_len (by decide +kernel) (pa_cons (pv 2) pa_nil)) pa_nil))) pa_nil)))) (pg_name (i := 5) sc__law_right.nd rfl (Or.inl rfl))
        (pss_cons (ps_set (i := 6) sc__law_right.nd rfl (Or.inr rfl) (pe_callTy call_listS (by rfl) T.b_list (by decide +kernel) (pa_cons (pv 3) pa_nil)))
      (pss_cons (ps_for PassesOwn.never rfl (pi_list (pe_callB (cr_sortedSet rfl) (by rfl) T.b_sorted (by decide +kernel) (pa_cons (pe_callTy (cr_setL rfl) (by rfl) T.b_set (by decide +kernel) (pa_cons (pe_lstS (pa_cons (pv 4) (pa_cons (pv 5) pa_nil))) pa_nil)) pa_nil))) (pg_name (i := 7) sc__law_right.nd rfl (Or.inl rfl))
        (pss_one (ps_asg (pe_own D__law_bad (hr.mono (by omega)) (by rfl) (pa_cons (pv 0) (pa_cons (pe_ix ix_list (pv 2) (pv 7) (fun _ _ => rfl)) (pa_cons (pe_ix ix_list (pv 3) (pv 7) (fun _ _ => rfl)) pa_nil)))) (pg_sub (pv 6) (pv 7) set_list))))
      (pss_cons (ps_par (i := 8) (j := 9) (by rfl) sc__law_right.nd rfl rfl (by decide) rfl rfl (pa_cons (pe_callB (call_reprG hgu hr.units) (by rfl) T.b_repr (by decide +kernel) (pa_cons (pv 6) pa_nil)) (pa_cons (pe_ix ix_list (pv 2) (pe_callB (call_min2 rfl) (by rfl) T.b_min (by decide +kernel) (pa_cons (pv 4) (pa_cons (pv 5) pa_nil))) (fun _ _ => rfl)) pa_nil)) (by rfl))
      (pss_one (ps_if (PW.pt (pw_or (pt_cmpR op_ne (pe_met (k := 10) (refused_mk Fr mr br T TX DM (hr.mono (by omega))) (by rfl) MR.tb rfl MR.hm MR.hu (hr.mono (by omega)) (LamX.lamS_by (sc := defScope s__law_right) (by decide +kernel)) (fun A outer s H E f c' hr => (pe_ownX D__law_call (hr.mono (by omega)) (takes_of rfl rfl rfl rfl) (by rfl) (pa_cons (pv 1) (pa_cons (pv 6) pa_nil))))) (pv 9) (nomark _)) (pw_or1 (pt_cmpR op_ne (pe_callB (call_reprG hgu hr.units) (by rfl) T.b_repr (by decide +kernel) (pa_cons (pv 6) pa_nil)) (pv 8) (nomark _))))) (pss_one (ps_ret pe_bl)) pss_nil))))))))
      (pss_one (ps_ret pe_bl))), ?_⟩
    refine ⟨_, rfl, Z, _, rfl, .inl (.inl (.inl eZ)), _, rfl, by omega, (by rw [List.length_map]; omega), ?_⟩
    refine for_range (lo := 0) (n := (((zs.map V.str).length : Int) - 0).toNat) (fun i σ H' => Gv TS st H H' ∧ ∃ y4 y5 y6 y7 y8 y9, σ = [some (.ref st), some (.str z), some (.ref Z), some (.ref G), y4, y5, y6, y7, y8, y9])
      ⟨Gv.refl, _, _, _, _, _, _, rfl⟩ ?_ ?_
    rotate_left 1
    · rintro σ H' ⟨g, y4, y5, y6, y7, y8, y9, rfl⟩
      exact q H' g
    rintro at' σ H1 hat ⟨g1, y4, y5, y6, y7, y8, y9, rfl⟩
    have hat' : at' < ks.length := by rw [List.length_map] at hat; omega
    have hs1 := g1.2.1 hs
    have eZ1 := g1.lst nZ eZ
    refine ⟨_, rfl, _, rfl, _, rfl, Z, _, rfl, .inl (.inl (.inl eZ1)), st, _, rfl, hs1, (by rw [List.length_map]; omega), (by rw [List.length_map]; omega), fun r H2 r0 r1 g2 => ⟨(by show 2 ≤ sizeLine; decide), fun p3 np3 _ => ?_⟩⟩
    rw [List.length_map] at r1
    have hs2 := g2.2 hs1
    obtain ⟨s3, e3⟩ := new_at (.lst [.int (0 + (at' : Int)), .int r]) np3
    have n3 : p3 ≠ st := st_ne hs2 np3
    generalize upd H2 p3 (.lst [.int (0 + (at' : Int)), .int r]) = H3 at s3 e3 ⊢
    have g13 := (g2.trans (gr_same (st := st) s3)).v (TS := TS) hs1
    have g03 := g1.trans g13
    have hs3 := g03.2.1 hs
    refine ⟨p3, rfl, ⟨_, .inl (.inl e3)⟩, for_list (K := K) (a := p3) (xs := [.int (0 + (at' : Int)), .int r]) (fun e σ H' => Gv TS st H3 H' ∧ ∃ y5 y6 y7 y8 y9, σ = [some (.ref st), some (.str z), some (.ref Z), some (.ref G), some (.int (0 + (at' : Int))), y5, y6, y7, y8, y9])
      ⟨Gv.refl, _, _, _, _, _, rfl⟩ (fun e σ H' _ h => .inl (.inl (h.1.lst n3 e3))) ?_ (fun σ H' h => by
        obtain ⟨g, y5, y6, y7, y8, y9, rfl⟩ := h
        exact ⟨g03.trans g, _, _, _, _, _, _, rfl⟩)⟩
    rintro e x σ H4 hx ⟨g4, y5, y6, y7, y8, y9, rfl⟩
    obtain ⟨ot, rfl, hot⟩ : ∃ ot : Nat, x = .int (ot : Int) ∧ ot < ks.length := by
      match e, hx with
      | 0, hx => cases hx; exact ⟨at', by rw [Int.zero_add], hat'⟩
      | 1, hx => cases hx; exact ⟨r.toNat, by rw [Int.toNat_of_nonneg r0], by omega⟩
      | e + 2, hx => cases hx
    have g04 := g03.trans g4
    have hs4 := g04.2.1 hs
    have eG4 := g04.lst nG eG
    have eZ4 := g04.lst nZ eZ
    have hgd : ∀ (i : Nat) (k : Nat), ks[i]? = some k → ∃ zz v, zs[i]? = some zz ∧ gs[i]? = some v ∧ KindZ zz k ∧ Gd4 K H k v := gv.at'
    refine ⟨_, rfl, G, gs, rfl, .inl (.inl (.inl eG4)), fun D nD neD => ?_⟩
    obtain ⟨s5, e5⟩ := new_at (.lst gs) nD
    have nDs : D ≠ st := st_ne hs4 nD
    generalize upd H4 D (.lst gs) = H5 at s5 e5 ⊢
    refine ⟨_, rfl, _, rfl, (by show 2 ≤ sizeLine; decide), fun p6 np6 _ => ?_⟩
    obtain ⟨s6, e6⟩ := new_at (.lst [.int (0 + (at' : Int)), .int (ot : Int)]) np6
    generalize upd H5 p6 (.lst [.int (0 + (at' : Int)), .int (ot : Int)]) = H6 at s6 e6 ⊢
    refine ⟨p6, [0 + (at' : Int), (ot : Int)], rfl, .inl (.inl e6), (by show 2 ≤ 63; decide), fun S n7 p7 hS hn7 np7 => ⟨p7, S, n7, rfl, upd_same, Nat.lt_of_le_of_lt hn7 (by show 2 < 64; decide), fun ns p8 hpw hmem0 hln np8' => ?_⟩⟩
    have hmem : ∀ k : Int, k ∈ ns ↔ k ∈ [0 + (at' : Int), (ot : Int)] := fun k => by rw [hmem0, hS]
    have np8 : H6 p8 = none := (same_upd np7).free np8'
    have s8 : Same H6 (upd (upd H6 p7 (SetO w p7 S n7)) p8 (.lst (ns.map V.int))) := (same_upd np7).trans (same_upd np8')
    have e8 : (upd (upd H6 p7 (SetO w p7 S n7)) p8 (.lst (ns.map V.int))) p8 = some (.lst (ns.map V.int)) := upd_same
    obtain ⟨H8, hH8⟩ : ∃ H8, upd (upd H6 p7 (SetO w p7 S n7)) p8 (.lst (ns.map V.int)) = H8 := ⟨_, rfl⟩
    rw [hH8] at s8 e8
    refine heap_eq hH8 ?_
    have s48 := (s5.trans s6).trans s8
    have x48 := gr_same (st := st) s48
    have n8 : p8 ≠ st := fun y => by
      have := (gr_same (st := st) (s5.trans s6)).2 hs4
      exact st_some this (by rw [← y]; exact np8)
    have hin : ∀ k : Int, k ∈ ns ↔ (k = (at' : Int) ∨ k = (ot : Int)) := fun k => by
      rw [hmem, Int.zero_add]
      simp
    have k4 : TKeep K H H4 := g04.tk hs
    have hgd4 : ∀ (i : Nat) (k : Nat), ks[i]? = some k → ∃ zz v, zs[i]? = some zz ∧ gs[i]? = some v ∧ KindZ zz k ∧ Gd4 K H4 k v := fun i k hk => by
      obtain ⟨zz, v, a1, a2, a3, a4⟩ := hgd i k hk
      exact ⟨zz, v, a1, a2, a3, a4.keep k4⟩
    have hs8 := x48.2 hs4
    have nG4 : G ≠ D := fun y => by rw [y, nD] at eG4; cases eG4
    obtain ⟨ds0, d0, ld0, ok0, rq0⟩ := gvk_dg (K := K) (fx := fS st D) (H := H4) (ks := ks) (gs := gs) lg fun i k hk => by
      obtain ⟨zz, v, _, a2, _, a4⟩ := hgd4 i k hk
      exact ⟨v, a2, a4⟩
    have eD8 := s8 _ _ (s6 _ _ e5)
    refine ⟨p8, rfl, ⟨_, .inl (.inl e8)⟩, for_list (K := K) (a := p8) (xs := ns.map V.int) (fun f σ H' => Gr st H4 H' ∧ H' p8 = some (.lst (ns.map V.int)) ∧ ∃ (us : List V) (ds : List PyData) (y7 : Option V), σ = [some (.ref st), some (.str z), some (.ref Z), some (.ref G), some (.int (0 + (at' : Int))), some (.int (ot : Int)), some (.ref D), y7, y8, y9] ∧ H' D = some (.lst us) ∧ us.length = ks.length ∧ ds.length = ks.length ∧ DgAll K (fS st D) H' false us ds ∧ (∀ d ∈ ds, RQ 8 60000 d) ∧ ∀ (i k : Nat) (d : PyData), ks[i]? = some k → ds[i]? = some d → okK k d = !decide ((i : Int) ∈ ns.take f))
      ⟨x48, e8, gs, ds0, _, rfl, eD8, lg, ld0, DgAll.sm s48 d0, rq0, fun i k d h1 h2 => by rw [ok0 i k d h1 h2]; simp⟩ (fun f σ H' _ h => .inl (.inl h.2.1)) ?_ ?_⟩
    · rintro f x σ H9 hx ⟨x9, e9, us, ds, y7', rfl, eD9, lu, ld, dd, rr, okd⟩
      obtain ⟨kx, hkx, rfl⟩ : ∃ kx : Int, ns[f]? = some kx ∧ x = .int kx := by
        rw [List.getElem?_map] at hx
        cases e : ns[f]? with
        | none => rw [e] at hx; cases hx
        | some kx => rw [e] at hx; exact ⟨kx, rfl, (Option.some.inj hx).symm⟩
      obtain ⟨sp, rfl, hsp⟩ : ∃ sp : Nat, kx = (sp : Int) ∧ sp < ks.length := by
        rcases (hin kx).mp (List.mem_of_getElem? hkx) with e | e
        · exact ⟨at', e, hat'⟩
        · exact ⟨ot, e, hot⟩
      have hs9 := x9.2 hs4
      obtain ⟨k, hk⟩ : ∃ k, ks[sp]? = some k := ⟨_, List.getElem?_eq_getElem hsp⟩
      obtain ⟨zz, v, a1, a2, a3, a4⟩ := hgd4 sp k hk
      have eZ9 := x9.1 _ _ nZ eZ4
      have eG9 := x9.1 _ _ nG eG4
      refine ⟨_, rfl, _, rfl, _, rfl, Z, _, _, _, rfl, rfl, .inl (.inl eZ9), atI_ok (by rw [List.getElem?_map, a1]; rfl), _, rfl, _, rfl, G, gs, _, v, rfl, rfl, .inl (.inl eG9), atI_ok a2, st, zz, v, k, rfl, hs9, a3, a4.keep (x9.tk hs4), fun u fx d Ha ga hfx hd hbad rq => ?_⟩
      have eDa := ga.1 _ _ nDs eD9
      have nD8 : p8 ≠ D := fun y => by
        have := s6 _ _ e5
        rw [← y, np8] at this
        cases this
      have dub : Dg K (fS st D) Ha false u d := hd.wk fun b hb => by
        have e := hfx b hb
        unfold fS
        rw [if_neg]
        rintro (rfl | rfl)
        · exact st_some hs9 e
        · rw [eD9] at e
          cases e
      have dda : DgAll K (fS st D) Ha false us ds := dd.gr ga hs9 fS_st
      refine ⟨_, rfl, _, rfl, D, us, _, sp, rfl, rfl, eDa, ix_ok (by omega), ?_⟩
      refine ⟨gr_upd (x9.trans ga) nD nDs, ?_, us.set sp u, ds.set sp d, _, rfl, upd_same, by rw [List.length_set]; exact lu, by rw [List.length_set]; exact ld, DgAll.setD (dub.up eDa _) _ (dda.up eDa _), mem_setD rq rr, fun i k' d' h1 h2 => ?_⟩
      · rw [upd_ne nD8]
        exact ga.1 _ _ n8 e9
      · by_cases ei : i = sp
        · subst ei
          rw [List.getElem?_set_self (by omega)] at h2
          cases h2
          rw [hk] at h1
          cases h1
          rw [hbad, List.take_add_one, hkx]
          simp
        · rw [List.getElem?_set_ne (Ne.symm ei)] at h2
          rw [okd i k' d' h1 h2, List.take_add_one, hkx]
          have : ((i : Int) ∈ ns.take f ++ (some (sp : Int)).toList) ↔ (i : Int) ∈ ns.take f := by
            simp only [Option.toList, List.mem_append, List.mem_singleton]
            constructor
            · rintro (h | h)
              · exact h
              · exact absurd (by omega : i = sp) ei
            · exact .inl
          simp only [this]
    · rintro σ H9 ⟨x9, e9, us, ds, y7', rfl, eD9, lu, ld, dd, rr, okd⟩
      rw [List.length_map, List.take_length] at okd
      have hs9 := x9.2 hs4
      have ld3 : ds.length ≤ 3 := by omega
      have toR : ∀ {Hx : Hp}, DgAll K (fS st D) Hx false us ds → Hx D = some (.lst us) → Dg K (fS st st) Hx false (.ref D) (.list ds) := fun hd he => .lstF (by unfold fS; rw [if_neg (by rintro (z | z) <;> exact nDs z)]) neD he (hd.wk fun b hb => by
        unfold fS
        rw [if_neg (by rintro (z | z) <;> exact (fS_no hb).1 z)])
      have rq : RQ 9 180003 (.list ds) := RQ.lst rr (Nat.le_trans (Nat.mul_le_mul_right _ ld3) (by decide))
      obtain ⟨m, hm, hm1, hm2⟩ : ∃ m : Nat, (m = at' ∨ m = ot) ∧ m ≤ at' ∧ m ≤ ot := ⟨min at' ot, by omega, by omega, by omega⟩
      have ml : m < ks.length := by omega
      obtain ⟨k, hk⟩ : ∃ k, ks[m]? = some k := ⟨_, List.getElem?_eq_getElem ml⟩
      obtain ⟨zz, v, a1, a2, a3, a4⟩ := hgd4 m k hk
      have eZ9 := x9.1 _ _ nZ eZ4
      have emin : (if (ot : Int) < (0 + (at' : Int)) then (ot : Int) else (0 + (at' : Int))) = (m : Int) := by split <;> omega
      refine ⟨_, rfl, fS st st, false, .ref D, .list ds, _, rfl, toR dd eD9, rq.sh, Nat.le_trans rq.dp (by decide), rq.fits (by decide), rfl, _, rfl, _, rfl, _, rfl, _, _, rfl, Z, _, (m : Int), .str zz, rfl, congrArg V.int emin, .inl (.inl eZ9), atI_ok (by rw [List.getElem?_map, a1]; rfl), _, _, rfl, ?_⟩
      have g09 := g04.trans (x9.v (TS := TS) hs4)
      refine ⟨g09.2.2 hT, fun Hb eb tb => ?_⟩
      have gb : Gv TS st H9 Hb := gv_ext (st := st) eb tb
      have eDb := gb.lst nDs eD9
      have ddb : DgAll K (fS st D) Hb false us ds := DgAll.gv gb hs9 fS_st dd
      obtain ⟨dm, hdm⟩ : ∃ dm, ds[m]? = some dm := ⟨_, List.getElem?_eq_getElem (by omega)⟩
      have rc : refC ks ds = some k := refC_at hk hdm (by
          rw [okd m k dm hk hdm, decide_eq_true ((hin _).mpr (by omega))]
          rfl) fun i k' d' hi h1 h2 => by
        rw [okd i k' d' h1 h2, decide_eq_false (fun z => by
          have := (hin _).mp z
          omega)]
        rfl
      refine ⟨_, rfl, _, rfl, z, D, us, ks, rfl, .inl (.inl eDb), hc, fS st D, false, ds, k, ddb, lu, rc, fun Hc sc => ⟨k, kind_lt a3, rfl, (fun dd e => nomatch e), fun Hc' sc' => ?_⟩⟩
      have sf := sc.trans sc'
      refine ⟨_, rfl, rfl, _, rfl, ite2 (fun e => (no_ne (congrArg V.str (kind_rf a3)) e).elim) (fun _ => ?_)⟩
      refine ⟨_, rfl, fS st st, false, .ref D, .list ds, _, rfl, toR (DgAll.sm sf ddb) (sf _ _ eDb), rq.sh, Nat.le_trans rq.dp (by decide), rq.fits (by decide), rfl, _, rfl, rfl, _, rfl, ite2 (fun e => (no_ne rfl e).elim) (fun _ => ?_)⟩
      exact ⟨g4.trans ((x9.v (TS := TS) hs4).trans (gb.trans (gv_same sf))), _, _, _, _, _, rfl⟩
end

section
variable {P : Program} {w : World} {K : PySem.W.Frag} {mg : Str → Option Value} {base : Heap}
theorem Gvk.nil {K : PySem.W.Frag} {H : Hp} : Gvk K H [] [] [] := ⟨rfl, rfl, fun i k h => by cases h⟩
theorem Gvk.cons {K : PySem.W.Frag} {H : Hp} {z : Str} {k : Nat} {v : V} {zs : List Str} {ks : List Nat} {vs : List V} (a : KindZ z k) (b : Gd4 K H k v) (h : Gvk K H zs ks vs) : Gvk K H (z :: zs) (k :: ks) (v :: vs) :=
  ⟨by rw [List.length_cons, List.length_cons, h.l1], by rw [List.length_cons, List.length_cons, h.l2], fun i k' e => by
    cases i with
    | zero => cases e; exact ⟨z, v, rfl, rfl, a, b⟩
    | succ i => exact h.at' i k' e⟩
theorem Gvk.keep {K : PySem.W.Frag} {H H' : Hp} {zs : List Str} {ks : List Nat} {vs : List V} (t : TKeep K H H') (h : Gvk K H zs ks vs) : Gvk K H' zs ks vs :=
  ⟨h.l1, h.l2, fun i k e => by
    obtain ⟨z, v, a, b, c, d⟩ := h.at' i k e
    exact ⟨z, v, a, b, c, d.keep t⟩⟩
/-- one row: the name, the kinds, the good things -/
def RowK (K : PySem.W.Frag) (st : Addr) (H : Hp) (u : V) : Prop := ∃ (q : Addr) (z : Str) (Z G : Addr) (zs : List Str) (ks : List Nat) (gs : List V), u = .ref q ∧ SqT K H q [.str z, .ref Z, .ref G] ∧ Z ≠ st ∧ G ≠ st ∧ H Z = some (.lst (zs.map V.str)) ∧ H G = some (.lst gs) ∧ Crow4 z ks ∧ Gvk K H zs ks gs
theorem RowK.same {K : PySem.W.Frag} {st : Addr} {H H' : Hp} {u : V} (s : Same H H') (h : RowK K st H u) : RowK K st H' u := by
  obtain ⟨q, z, Z, G, zs, ks, gs, e, a, b, c, d, f, g, i⟩ := h
  exact ⟨q, z, Z, G, zs, ks, gs, e, Same.tk s _ _ a, b, c, s _ _ d, s _ _ f, g, i.keep (Same.tk s)⟩
theorem RowK.gv {K : PySem.W.Frag} {TS : List (Addr × Str)} {st : Addr} {H H' : Hp} {u : V} (s : Gv TS st H H') (hs : IsSt H st) (h : RowK K st H u) : RowK K st H' u := by
  obtain ⟨q, z, Z, G, zs, ks, gs, e, a, b, c, d, f, g, i⟩ := h
  exact ⟨q, z, Z, G, zs, ks, gs, e, s.tk hs _ _ a, b, c, s.lst b d, s.lst c f, g, i.keep (s.tk hs)⟩
theorem row_new {K : PySem.W.Frag} {st : Addr} {H : Hp} {z : Str} {zs : List Str} {ks : List Nat} {gs : List V} (hs : IsSt H st) (c : Crow4 z ks) (gv : Gvk K H zs ks gs) {Z G q : Addr} (nZ : H Z = none) (nG : upd H Z (.lst (zs.map V.str)) G = none) (nq : upd (upd H Z (.lst (zs.map V.str))) G (.lst gs) q = none) : ∃ H', upd (upd (upd H Z (.lst (zs.map V.str))) G (.lst gs)) q (.tup [.str z, .ref Z, .ref G]) = H' ∧ Same H H' ∧ RowK K st H' (.ref q) := by
  obtain ⟨s1, e1⟩ := new_at (.lst (zs.map V.str)) nZ
  obtain ⟨s2, e2⟩ := new_at (.lst gs) nG
  obtain ⟨s3, e3⟩ := new_at (.tup [.str z, .ref Z, .ref G]) nq
  have s := (s1.trans s2).trans s3
  exact ⟨_, rfl, s, q, z, Z, G, zs, ks, gs, rfl, .inl (.inl e3), st_ne hs nZ, st_ne ((gr_same (st := st) s1).2 hs) nG, s3 _ _ (s2 _ _ e1), s3 _ _ e2, c, gv.keep (Same.tk s)⟩
/-- the six good things -/
structure Six (K : PySem.W.Frag) (st : Addr) (H : Hp) (lv wv sv mv : V) (t n : Int) : Prop where
  hs : IsSt H st
  h0 : Gd4 K H 0 lv
  h1 : Gd4 K H 1 wv
  h2 : Gd4 K H 2 sv
  h3 : Gd4 K H 2 mv
  h4 : Gd4 K H 3 (.int t)
  h5 : Gd4 K H 5 (.int n)
theorem Six.same {K : PySem.W.Frag} {st : Addr} {H H' : Hp} {lv wv sv mv : V} {t n : Int} (s : Same H H') (h : Six K st H lv wv sv mv t n) : Six K st H' lv wv sv mv t n :=
  ⟨(gr_same (st := st) s).2 h.hs, h.h0.keep (Same.tk s), h.h1.keep (Same.tk s), h.h2.keep (Same.tk s), h.h3.keep (Same.tk s), h.h4.keep (Same.tk s), h.h5.keep (Same.tk s)⟩
theorem rows_app {K : PySem.W.Frag} {st : Addr} {H H' : Hp} {us vs : List V} (s : Same H H') (a : ∀ u ∈ us, RowK K st H u) (b : ∀ u ∈ vs, RowK K st H' u) : ∀ u ∈ us ++ vs, RowK K st H' u := fun u hu => by
  rcases List.mem_append.mp hu with z | z
  · exact (a u z).same s
  · exact b u z
def sp_law (K : PySem.W.Frag) (TS : List (Addr × Str)) : Sp := fun vs H Q _ => ∃ (a : Addr) (ns : List Int), vs = [.ref a] ∧ SqL K H a (ns.map V.int) ∧ ns.length ≤ 63 ∧ LamX.Tabs TS H ∧ ∀ H', Q (.bl true) H'
theorem ok_law {f : Addr} {fd : FuncData} {TS : List (Addr × Str)} (F : Fun K "law" "law" s_law f fd) (T : Txt K mg) (D__law_state : Cl P w K mg base 2 "_law_state" ["_law_script", "_law_k"] (sp__law_state K)) (D__law_layer : Cl P w K mg base 3 "_law_layer" ["_law_state_here"] (sp__law_layer K)) (D__law_window : Cl P w K mg base 2 "_law_window" ["_law_state_here"] (sp__law_window K)) (D__law_sheet : Cl P w K mg base 4 "_law_sheet" ["_law_state_here"] (sp__law_sheet K)) (D__law_take : Cl P w K mg base 1 "_law_take" ["_law_state_here", "_law_many"] (sp__law_take K)) (D__law_right : ClG P w K mg base 13 "_law_right" ["_law_state_here", "_law_name", "_law_kinds", "_law_good"] (sp__law_right K TS)) : FnG P w K mg base 14 f fd ["_law_script"] (sp_law K TS) := by
  refine fun_okG F sc_law (fun vs H Q E h => ?_) (fun cdv A outer s H vs Q E hgu hr h => ?_)
  · obtain ⟨a, ns, rfl, _⟩ := h
    rfl
  · obtain ⟨a, ns, rfl, hS, hlen, hT0, q⟩ := h
    refine ⟨_, (pss_cons (ps_for PassesOwn.never rfl (pi_range1 (by rfl) T.b_range (pa_cons (pe_callB (call_max2 rfl) (by rfl) T.b_max (by decide +kernel) (pa_cons pe_int (pa_cons (pe_callB (call_min2 rfl) (by rfl) T.b_min (by decide +kernel) (pa_cons (pe_callB call_len_seq (by rfl) T.b_len (by decide +kernel) (pa_cons (pv 0) pa_nil)) (pa_cons pe_int pa_nil))) pa_nil))) pa_nil)) (pg_name (i := 1) sc_law.nd rfl (Or.inl rfl))
        (pss_cons (ps_set (i := 2) sc_law.nd rfl (Or.inl rfl) (pe_own D__law_state (hr.mono (by omega)) (by rfl) (pa_cons (pv 0) (pa_cons (pv 1) pa_nil))))
      (pss_cons (ps_par (i := 3) (j := 4) (by rfl) sc_law.nd rfl rfl (by decide) rfl rfl (pa_cons (pe_own D__law_layer (hr.mono (by omega)) (by rfl) (pa_cons (pv 2) pa_nil)) (pa_cons (pe_own D__law_window (hr.mono (by omega)) (by rfl) (pa_cons (pv 2) pa_nil)) pa_nil)) (by rfl))
      (pss_cons (ps_par (i := 5) (j := 6) (by rfl) sc_law.nd rfl rfl (by decide) rfl rfl (pa_cons (pe_own D__law_sheet (hr.mono (by omega)) (by rfl) (pa_cons (pv 2) pa_nil)) (pa_cons (pe_own D__law_sheet (hr.mono (by omega)) (by rfl) (pa_cons (pv 2) pa_nil)) pa_nil)) (by rfl))
      (pss_cons (ps_par (i := 7) (j := 8) (by rfl) sc_law.nd rfl rfl (by decide) rfl rfl (pa_cons (pe_own D__law_take (hr.mono (by omega)) (by rfl) (pa_cons (pv 2) (pa_cons pe_int pa_nil))) (pa_cons (pe_own D__law_take (hr.mono (by omega)) (by rfl) (pa_cons (pv 2) (pa_cons pe_int pa_nil))) pa_nil)) (by rfl))
      (pss_cons (ps_set (i := 9) sc_law.nd rfl (Or.inl rfl) (pe_lst (pa_cons (pe_tup (pa_cons pe_str (pa_cons (pe_lst (pa_cons pe_str pa_nil)) (pa_cons (pe_lst (pa_cons (pv 3) pa_nil)) pa_nil)))) (pa_cons (pe_tup (pa_cons pe_str (pa_cons (pe_lst (pa_cons pe_str pa_nil)) (pa_cons (pe_lst (pa_cons (pv 4) pa_nil)) pa_nil)))) (pa_cons (pe_tup (pa_cons pe_str (pa_cons (pe_lst (pa_cons pe_str pa_nil)) (pa_cons (pe_lst (pa_cons (pv 5) pa_nil)) pa_nil)))) pa_nil)))))
      (pss_cons (ps_set (i := 9) sc_law.nd rfl (Or.inl rfl) (pe_op op_cat (pv 9) (pe_lst (pa_cons (pe_tup (pa_cons pe_str (pa_cons (pe_lst (pa_cons pe_str pa_nil)) (pa_cons (pe_lst (pa_cons (pv 3) pa_nil)) pa_nil)))) (pa_cons (pe_tup (pa_cons pe_str (pa_cons (pe_lst (pa_cons pe_str pa_nil)) (pa_cons (pe_lst (pa_cons (pv 5) pa_nil)) pa_nil)))) (pa_cons (pe_tup (pa_cons pe_str (pa_cons (pe_lst (pa_cons pe_str pa_nil)) (pa_cons (pe_lst (pa_cons (pv 3) pa_nil)) pa_nil)))) pa_nil))))))
      (pss_cons (ps_set (i := 9) sc_law.nd rfl (Or.inl rfl) (pe_op op_cat (pv 9) (pe_lst (pa_cons (pe_tup (pa_cons pe_str (pa_cons (pe_lst (pa_cons pe_str (pa_cons pe_str pa_nil))) (pa_cons (pe_lst (pa_cons (pv 3) (pa_cons (pv 7) pa_nil))) pa_nil)))) (pa_cons (pe_tup (pa_cons pe_str (pa_cons (pe_lst (pa_cons pe_str (pa_cons pe_str pa_nil))) (pa_cons (pe_lst (pa_cons (pv 3) (pa_cons (pv 8) pa_nil))) pa_nil)))) pa_nil)))))
      (pss_cons (ps_set (i := 9) sc_law.nd rfl (Or.inl rfl) (pe_op op_cat (pv 9) (pe_lst (pa_cons (pe_tup (pa_cons pe_str (pa_cons (pe_lst (pa_cons pe_str (pa_cons pe_str pa_nil))) (pa_cons (pe_lst (pa_cons (pv 4) (pa_cons (pv 7) pa_nil))) pa_nil)))) pa_nil))))
      (pss_cons (ps_set (i := 9) sc_law.nd rfl (Or.inl rfl) (pe_op op_cat (pv 9) (pe_lst (pa_cons (pe_tup (pa_cons pe_str (pa_cons (pe_lst (pa_cons pe_str (pa_cons pe_str pa_nil))) (pa_cons (pe_lst (pa_cons (pv 5) (pa_cons (pv 7) pa_nil))) pa_nil)))) pa_nil))))
      (pss_cons (ps_set (i := 9) sc_law.nd rfl (Or.inl rfl) (pe_op op_cat (pv 9) (pe_lst (pa_cons (pe_tup (pa_cons pe_str (pa_cons (pe_lst (pa_cons pe_str (pa_cons pe_str (pa_cons pe_str pa_nil)))) (pa_cons (pe_lst (pa_cons (pv 5) (pa_cons (pv 7) (pa_cons (pv 8) pa_nil)))) pa_nil)))) pa_nil))))
      (pss_cons (ps_set (i := 9) sc_law.nd rfl (Or.inl rfl) (pe_op op_cat (pv 9) (pe_lst (pa_cons (pe_tup (pa_cons pe_str (pa_cons (pe_lst (pa_cons pe_str (pa_cons pe_str pa_nil))) (pa_cons (pe_lst (pa_cons (pv 5) (pa_cons (pv 6) pa_nil))) pa_nil)))) (pa_cons (pe_tup (pa_cons pe_str (pa_cons (pe_lst (pa_cons pe_str (pa_cons pe_str pa_nil))) (pa_cons (pe_lst (pa_cons (pv 5) (pa_cons (pv 6) pa_nil))) pa_nil)))) pa_nil)))))
      (pss_one (ps_for PassesOwn.never rfl (pi_list (pv 9)) (pg_tup (by rfl) (pgs_cons (pg_name (i := 10) sc_law.nd rfl (Or.inl rfl)) (pgs_cons (pg_name (i := 11) sc_law.nd rfl (Or.inl rfl)) (pgs_cons (pg_name (i := 12) sc_law.nd rfl (Or.inl rfl)) pgs_nil))))
        (pss_one (ps_if (pt_not (pt_truth (pe_ownG D__law_right hgu (hr.mono (by omega)) (by rfl) (pa_cons (pv 2) (pa_cons (pv 10) (pa_cons (pv 11) (pa_cons (pv 12) pa_nil))))) (by intro _; rfl))) (pss_one (ps_ret pe_bl)) pss_nil))))))))))))))))
      (pss_one (ps_ret pe_bl))), ?_⟩
    obtain ⟨n, n0, n1, en⟩ : ∃ c : Int, 0 ≤ c ∧ c ≤ 4 ∧ (if (if (4 : Int) < ((ns.map V.int).length : Int) then (4 : Int) else ((ns.map V.int).length : Int)) > 1 then (if (4 : Int) < ((ns.map V.int).length : Int) then (4 : Int) else ((ns.map V.int).length : Int)) else (1 : Int)) = c := by
      refine ⟨_, ?_, ?_, rfl⟩ <;> (repeat' split) <;> omega
    refine ⟨_, rfl, a, _, rfl, .inl hS, _, _, rfl, _, _, rfl, n, ?_, by omega, by omega, ?_⟩
    · rw [en]
    clear en
    refine for_range (lo := 0) (n := n.toNat) (fun i σ H' => Go TS H H' ∧ ∃ y1 y2 y3 y4 y5 y6 y7 y8 y9 y10 y11 y12, σ = [some (.ref a), y1, y2, y3, y4, y5, y6, y7, y8, y9, y10, y11, y12])
      ⟨⟨LamX.ExtN.refl _, hT0⟩, none, none, none, none, none, none, none, none, none, none, none, none, rfl⟩ ?_ (fun _ H' _ => q H')
    rintro i σ H0 hi ⟨o0, y1, y2, y3, y4, y5, y6, y7, y8, y9, y10, y11, y12, rfl⟩
    refine ⟨_, rfl, _, rfl, a, ns, _, rfl, o0.sqL hS, by omega, fun H1 st s1 n1 hs1 => ?_⟩
    refine ⟨_, rfl, st, rfl, hs1, fun lv rs bk H2 g2 h2 vr vb => ?_⟩
    have hs2 := g2.2 hs1
    refine ⟨_, rfl, st, rfl, hs2, fun wv x y ms H3 g3 h3 vw => ?_⟩
    have hs3 := g3.2 hs2
    refine ⟨_, _, rfl, ?_⟩
    refine ⟨_, rfl, st, rfl, hs3, fun sv ls xs ys mss H4 g4 h4 vls vws => ?_⟩
    have hs4 := g4.2 hs3
    refine ⟨_, rfl, st, rfl, hs4, fun mv lm xm ym mm H5 g5 h5 vlm vwm => ?_⟩
    have hs5 := g5.2 hs4
    refine ⟨_, _, rfl, ?_⟩
    refine ⟨_, rfl, st, 300, rfl, hs5, by decide, by decide, fun t H6 t0 t1 g6 => ?_⟩
    have hs6 := g6.2 hs5
    refine ⟨_, rfl, st, 201, rfl, hs6, by decide, by decide, fun m H7 m0 m1 g7 => ?_⟩
    have g57 := g6.trans g7
    have g47 := g5.trans g57
    have g37 := g4.trans g47
    have g27 := g3.trans g37
    have g17 := g2.trans g27
    have hs7 := g17.2 hs1
    have ix : Six K st H7 lv wv sv mv t m := ⟨hs7, .inl ⟨rfl, (rs, bk), LayAt.keep (g27.tk hs2) h2, vr, vb⟩, .inr (.inl ⟨rfl, x, y, ms, h3.keep (g37.tk hs3), vw⟩), .inr (.inr (.inl ⟨rfl, ls, xs, ys, mss, h4.keep (g47.tk hs4), vls, vws⟩)), .inr (.inr (.inl ⟨rfl, lm, xm, ym, mm, h5.keep (g57.tk hs5), vlm, vwm⟩)), .inr (.inr (.inr (.inl ⟨rfl, t, rfl, t0, t1⟩))), .inr (.inr (.inr (.inr ⟨rfl, m, rfl, m0, by omega⟩)))⟩
    have s7 : Same H7 H7 := Same.refl _
    refine ⟨_, _, rfl, ?_⟩
    clear h2 h3 h4 h5 vls vws vlm vwm vw vr vb g2 g3 g4 g5 g6 g7 g57 g47 g37 g27
    refine ⟨(by show 1 ≤ sizeLine; decide), fun Z1 nZ1 => ⟨_, rfl, (by show 1 ≤ sizeLine; decide), fun G1 nG1 => ⟨(by show 3 ≤ sizeLine; decide), fun q1 nq1 => ?_⟩⟩⟩
    obtain ⟨A1, eA1, sA1, rA1⟩ := row_new (K := K) (z := "length") (zs := ["layer"]) (gs := [lv]) ix.hs .length (.cons .layer ix.h0 .nil) nZ1 nG1 nq1
    refine heap_eq eA1 ?_
    replace ix := ix.same sA1
    clear eA1 nZ1 nG1 nq1
    refine ⟨(by show 1 ≤ sizeLine; decide), fun Z2 nZ2 => ⟨_, rfl, (by show 1 ≤ sizeLine; decide), fun G2 nG2 => ⟨(by show 3 ≤ sizeLine; decide), fun q2 nq2 => ?_⟩⟩⟩
    obtain ⟨A2, eA2, sA2, rA2⟩ := row_new (K := K) (z := "window") (zs := ["window"]) (gs := [wv]) ix.hs .window (.cons .window ix.h1 .nil) nZ2 nG2 nq2
    refine heap_eq eA2 ?_
    replace ix := ix.same sA2
    clear eA2 nZ2 nG2 nq2
    refine ⟨(by show 1 ≤ sizeLine; decide), fun Z3 nZ3 => ⟨_, rfl, (by show 1 ≤ sizeLine; decide), fun G3 nG3 => ⟨(by show 3 ≤ sizeLine; decide), fun q3 nq3 => ?_⟩⟩⟩
    obtain ⟨A3, eA3, sA3, rA3⟩ := row_new (K := K) (z := "sheet") (zs := ["sheet"]) (gs := [sv]) ix.hs .sheet (.cons .sheet ix.h2 .nil) nZ3 nG3 nq3
    refine heap_eq eA3 ?_
    replace ix := ix.same sA3
    clear eA3 nZ3 nG3 nq3
    refine ⟨(by show 3 ≤ sizeLine; decide), fun L0 nL0 => ?_⟩
    obtain ⟨sL0, eL0⟩ := new_at (.lst [.ref q1, .ref q2, .ref q3]) nL0
    have mL0 := st_ne ix.hs nL0
    generalize upd A3 L0 (.lst [.ref q1, .ref q2, .ref q3]) = B0 at sL0 eL0 ⊢
    have tL0 : Same H7 B0 := (((sA1.trans sA2).trans sA3).trans sL0)
    have wL0 : ∀ u ∈ ([.ref q1, .ref q2, .ref q3] : List V), RowK K st B0 u := fun u hu => by
      rcases mem3 hu with rfl | rfl | rfl
      · exact rA1.same ((sA2.trans sA3).trans sL0)
      · exact rA2.same (sA3.trans sL0)
      · exact rA3.same sL0
    clear rA1 rA2 rA3
    replace ix := ix.same sL0
    replace s7 : Same H7 B0 := s7.trans tL0
    have eR := eL0
    have nR := mL0
    have wR := wL0
    generalize hus : ([.ref q1, .ref q2, .ref q3] : List V) = us0 at eR wR
    have ln0 : us0.length = 3 := by rw [← hus]; rfl
    clear hus
    refine ⟨_, rfl, (by show 1 ≤ sizeLine; decide), fun Z4 nZ4 => ⟨_, rfl, (by show 1 ≤ sizeLine; decide), fun G4 nG4 => ⟨(by show 3 ≤ sizeLine; decide), fun q4 nq4 => ?_⟩⟩⟩
    obtain ⟨A4, eA4, sA4, rA4⟩ := row_new (K := K) (z := "least") (zs := ["layer"]) (gs := [lv]) ix.hs .least (.cons .layer ix.h0 .nil) nZ4 nG4 nq4
    refine heap_eq eA4 ?_
    replace ix := ix.same sA4
    clear eA4 nZ4 nG4 nq4
    refine ⟨(by show 1 ≤ sizeLine; decide), fun Z5 nZ5 => ⟨_, rfl, (by show 1 ≤ sizeLine; decide), fun G5 nG5 => ⟨(by show 3 ≤ sizeLine; decide), fun q5 nq5 => ?_⟩⟩⟩
    obtain ⟨A5, eA5, sA5, rA5⟩ := row_new (K := K) (z := "turns") (zs := ["sheet"]) (gs := [sv]) ix.hs .turns (.cons .sheet ix.h2 .nil) nZ5 nG5 nq5
    refine heap_eq eA5 ?_
    replace ix := ix.same sA5
    clear eA5 nZ5 nG5 nq5
    refine ⟨(by show 1 ≤ sizeLine; decide), fun Z6 nZ6 => ⟨_, rfl, (by show 1 ≤ sizeLine; decide), fun G6 nG6 => ⟨(by show 3 ≤ sizeLine; decide), fun q6 nq6 => ?_⟩⟩⟩
    obtain ⟨A6, eA6, sA6, rA6⟩ := row_new (K := K) (z := "round") (zs := ["layer"]) (gs := [lv]) ix.hs .round (.cons .layer ix.h0 .nil) nZ6 nG6 nq6
    refine heap_eq eA6 ?_
    replace ix := ix.same sA6
    clear eA6 nZ6 nG6 nq6
    refine ⟨(by show 3 ≤ sizeLine; decide), fun L1 nL1 => ?_⟩
    obtain ⟨sL1, eL1⟩ := new_at (.lst [.ref q4, .ref q5, .ref q6]) nL1
    have mL1 := st_ne ix.hs nL1
    generalize upd A6 L1 (.lst [.ref q4, .ref q5, .ref q6]) = B1 at sL1 eL1 ⊢
    have tL1 : Same B0 B1 := (((sA4.trans sA5).trans sA6).trans sL1)
    have wL1 : ∀ u ∈ ([.ref q4, .ref q5, .ref q6] : List V), RowK K st B1 u := fun u hu => by
      rcases mem3 hu with rfl | rfl | rfl
      · exact rA4.same ((sA5.trans sA6).trans sL1)
      · exact rA5.same (sA6.trans sL1)
      · exact rA6.same sL1
    clear rA4 rA5 rA6
    replace ix := ix.same sL1
    replace s7 : Same H7 B1 := s7.trans tL1
    refine ⟨L0, L1, _, _, rfl, rfl, tL1 _ _ eR, eL1, (by show us0.length + 3 ≤ sizeLine; rw [ln0]; decide), fun R1 nR1 => ?_⟩
    obtain ⟨sR1, eR1⟩ := new_at (.lst (us0 ++ [.ref q4, .ref q5, .ref q6])) nR1
    generalize upd B1 R1 (.lst (us0 ++ [.ref q4, .ref q5, .ref q6])) = C1 at sR1 eR1 ⊢
    have wR1 := rows_app (tL1.trans sR1) wR (fun u hu => (wL1 u hu).same sR1)
    replace nR := st_ne ix.hs nR1
    replace ix := ix.same sR1
    replace s7 : Same H7 C1 := s7.trans sR1
    clear eR wR
    obtain ⟨us1, eu1⟩ : ∃ us1, us0 ++ [.ref q4, .ref q5, .ref q6] = us1 := ⟨_, rfl⟩
    have ln1 : us1.length = 6 := by rw [← eu1, List.length_append, ln0]; rfl
    rw [eu1] at eR1 wR1
    have eR := eR1
    have wR := wR1
    clear eu1
    refine ⟨_, rfl, (by show 2 ≤ sizeLine; decide), fun Z7 nZ7 => ⟨_, rfl, _, rfl, (by show 2 ≤ sizeLine; decide), fun G7 nG7 => ⟨(by show 3 ≤ sizeLine; decide), fun q7 nq7 => ?_⟩⟩⟩
    obtain ⟨A7, eA7, sA7, rA7⟩ := row_new (K := K) (z := "drawing") (zs := ["layer", "moment"]) (gs := [lv, .int t]) ix.hs .drawing (.cons .layer ix.h0 (.cons .moment ix.h4 .nil)) nZ7 nG7 nq7
    refine heap_eq eA7 ?_
    replace ix := ix.same sA7
    clear eA7 nZ7 nG7 nq7
    refine ⟨(by show 2 ≤ sizeLine; decide), fun Z8 nZ8 => ⟨_, rfl, _, rfl, (by show 2 ≤ sizeLine; decide), fun G8 nG8 => ⟨(by show 3 ≤ sizeLine; decide), fun q8 nq8 => ?_⟩⟩⟩
    obtain ⟨A8, eA8, sA8, rA8⟩ := row_new (K := K) (z := "laid") (zs := ["layer", "number"]) (gs := [lv, .int m]) ix.hs .laid (.cons .layer ix.h0 (.cons .number ix.h5 .nil)) nZ8 nG8 nq8
    refine heap_eq eA8 ?_
    replace ix := ix.same sA8
    clear eA8 nZ8 nG8 nq8
    refine ⟨(by show 2 ≤ sizeLine; decide), fun L2 nL2 => ?_⟩
    obtain ⟨sL2, eL2⟩ := new_at (.lst [.ref q7, .ref q8]) nL2
    have mL2 := st_ne ix.hs nL2
    generalize upd A8 L2 (.lst [.ref q7, .ref q8]) = B2 at sL2 eL2 ⊢
    have tL2 : Same C1 B2 := ((sA7.trans sA8).trans sL2)
    have wL2 : ∀ u ∈ ([.ref q7, .ref q8] : List V), RowK K st B2 u := fun u hu => by
      rcases mem2 hu with rfl | rfl
      · exact rA7.same (sA8.trans sL2)
      · exact rA8.same sL2
    clear rA7 rA8
    replace ix := ix.same sL2
    replace s7 : Same H7 B2 := s7.trans tL2
    refine ⟨R1, L2, _, _, rfl, rfl, tL2 _ _ eR, eL2, (by show us1.length + 2 ≤ sizeLine; rw [ln1]; decide), fun R2 nR2 => ?_⟩
    obtain ⟨sR2, eR2⟩ := new_at (.lst (us1 ++ [.ref q7, .ref q8])) nR2
    generalize upd B2 R2 (.lst (us1 ++ [.ref q7, .ref q8])) = C2 at sR2 eR2 ⊢
    have wR2 := rows_app (tL2.trans sR2) wR (fun u hu => (wL2 u hu).same sR2)
    replace nR := st_ne ix.hs nR2
    replace ix := ix.same sR2
    replace s7 : Same H7 C2 := s7.trans sR2
    clear eR wR
    obtain ⟨us2, eu2⟩ : ∃ us2, us1 ++ [.ref q7, .ref q8] = us2 := ⟨_, rfl⟩
    have ln2 : us2.length = 8 := by rw [← eu2, List.length_append, ln1]; rfl
    rw [eu2] at eR2 wR2
    have eR := eR2
    have wR := wR2
    clear eu2
    refine ⟨_, rfl, (by show 2 ≤ sizeLine; decide), fun Z9 nZ9 => ⟨_, rfl, _, rfl, (by show 2 ≤ sizeLine; decide), fun G9 nG9 => ⟨(by show 3 ≤ sizeLine; decide), fun q9 nq9 => ?_⟩⟩⟩
    obtain ⟨A9, eA9, sA9, rA9⟩ := row_new (K := K) (z := "place") (zs := ["window", "moment"]) (gs := [wv, .int t]) ix.hs .place (.cons .window ix.h1 (.cons .moment ix.h4 .nil)) nZ9 nG9 nq9
    refine heap_eq eA9 ?_
    replace ix := ix.same sA9
    clear eA9 nZ9 nG9 nq9
    refine ⟨(by show 1 ≤ sizeLine; decide), fun L3 nL3 => ?_⟩
    obtain ⟨sL3, eL3⟩ := new_at (.lst [.ref q9]) nL3
    have mL3 := st_ne ix.hs nL3
    generalize upd A9 L3 (.lst [.ref q9]) = B3 at sL3 eL3 ⊢
    have tL3 : Same C2 B3 := (sA9.trans sL3)
    have wL3 : ∀ u ∈ ([.ref q9] : List V), RowK K st B3 u := fun u hu => by
      rw [List.mem_singleton.mp hu]
      exact rA9.same sL3
    clear rA9
    replace ix := ix.same sL3
    replace s7 : Same H7 B3 := s7.trans tL3
    refine ⟨R2, L3, _, _, rfl, rfl, tL3 _ _ eR, eL3, (by show us2.length + 1 ≤ sizeLine; rw [ln2]; decide), fun R3 nR3 => ?_⟩
    obtain ⟨sR3, eR3⟩ := new_at (.lst (us2 ++ [.ref q9])) nR3
    generalize upd B3 R3 (.lst (us2 ++ [.ref q9])) = C3 at sR3 eR3 ⊢
    have wR3 := rows_app (tL3.trans sR3) wR (fun u hu => (wL3 u hu).same sR3)
    replace nR := st_ne ix.hs nR3
    replace ix := ix.same sR3
    replace s7 : Same H7 C3 := s7.trans sR3
    clear eR wR
    obtain ⟨us3, eu3⟩ : ∃ us3, us2 ++ [.ref q9] = us3 := ⟨_, rfl⟩
    have ln3 : us3.length = 9 := by rw [← eu3, List.length_append, ln2]; rfl
    rw [eu3] at eR3 wR3
    have eR := eR3
    have wR := wR3
    clear eu3
    refine ⟨_, rfl, (by show 2 ≤ sizeLine; decide), fun Z10 nZ10 => ⟨_, rfl, _, rfl, (by show 2 ≤ sizeLine; decide), fun G10 nG10 => ⟨(by show 3 ≤ sizeLine; decide), fun q10 nq10 => ?_⟩⟩⟩
    obtain ⟨A10, eA10, sA10, rA10⟩ := row_new (K := K) (z := "picture") (zs := ["sheet", "moment"]) (gs := [sv, .int t]) ix.hs .picture (.cons .sheet ix.h2 (.cons .moment ix.h4 .nil)) nZ10 nG10 nq10
    refine heap_eq eA10 ?_
    replace ix := ix.same sA10
    clear eA10 nZ10 nG10 nq10
    refine ⟨(by show 1 ≤ sizeLine; decide), fun L4 nL4 => ?_⟩
    obtain ⟨sL4, eL4⟩ := new_at (.lst [.ref q10]) nL4
    have mL4 := st_ne ix.hs nL4
    generalize upd A10 L4 (.lst [.ref q10]) = B4 at sL4 eL4 ⊢
    have tL4 : Same C3 B4 := (sA10.trans sL4)
    have wL4 : ∀ u ∈ ([.ref q10] : List V), RowK K st B4 u := fun u hu => by
      rw [List.mem_singleton.mp hu]
      exact rA10.same sL4
    clear rA10
    replace ix := ix.same sL4
    replace s7 : Same H7 B4 := s7.trans tL4
    refine ⟨R3, L4, _, _, rfl, rfl, tL4 _ _ eR, eL4, (by show us3.length + 1 ≤ sizeLine; rw [ln3]; decide), fun R4 nR4 => ?_⟩
    obtain ⟨sR4, eR4⟩ := new_at (.lst (us3 ++ [.ref q10])) nR4
    generalize upd B4 R4 (.lst (us3 ++ [.ref q10])) = C4 at sR4 eR4 ⊢
    have wR4 := rows_app (tL4.trans sR4) wR (fun u hu => (wL4 u hu).same sR4)
    replace nR := st_ne ix.hs nR4
    replace ix := ix.same sR4
    replace s7 : Same H7 C4 := s7.trans sR4
    clear eR wR
    obtain ⟨us4, eu4⟩ : ∃ us4, us3 ++ [.ref q10] = us4 := ⟨_, rfl⟩
    have ln4 : us4.length = 10 := by rw [← eu4, List.length_append, ln3]; rfl
    rw [eu4] at eR4 wR4
    have eR := eR4
    have wR := wR4
    clear eu4
    refine ⟨_, rfl, (by show 3 ≤ sizeLine; decide), fun Z11 nZ11 => ⟨_, rfl, _, rfl, _, rfl, (by show 3 ≤ sizeLine; decide), fun G11 nG11 => ⟨(by show 3 ≤ sizeLine; decide), fun q11 nq11 => ?_⟩⟩⟩
    obtain ⟨A11, eA11, sA11, rA11⟩ := row_new (K := K) (z := "list") (zs := ["sheet", "moment", "number"]) (gs := [sv, .int t, .int m]) ix.hs .list (.cons .sheet ix.h2 (.cons .moment ix.h4 (.cons .number ix.h5 .nil))) nZ11 nG11 nq11
    refine heap_eq eA11 ?_
    replace ix := ix.same sA11
    clear eA11 nZ11 nG11 nq11
    refine ⟨(by show 1 ≤ sizeLine; decide), fun L5 nL5 => ?_⟩
    obtain ⟨sL5, eL5⟩ := new_at (.lst [.ref q11]) nL5
    have mL5 := st_ne ix.hs nL5
    generalize upd A11 L5 (.lst [.ref q11]) = B5 at sL5 eL5 ⊢
    have tL5 : Same C4 B5 := (sA11.trans sL5)
    have wL5 : ∀ u ∈ ([.ref q11] : List V), RowK K st B5 u := fun u hu => by
      rw [List.mem_singleton.mp hu]
      exact rA11.same sL5
    clear rA11
    replace ix := ix.same sL5
    replace s7 : Same H7 B5 := s7.trans tL5
    refine ⟨R4, L5, _, _, rfl, rfl, tL5 _ _ eR, eL5, (by show us4.length + 1 ≤ sizeLine; rw [ln4]; decide), fun R5 nR5 => ?_⟩
    obtain ⟨sR5, eR5⟩ := new_at (.lst (us4 ++ [.ref q11])) nR5
    generalize upd B5 R5 (.lst (us4 ++ [.ref q11])) = C5 at sR5 eR5 ⊢
    have wR5 := rows_app (tL5.trans sR5) wR (fun u hu => (wL5 u hu).same sR5)
    replace nR := st_ne ix.hs nR5
    replace ix := ix.same sR5
    replace s7 : Same H7 C5 := s7.trans sR5
    clear eR wR
    obtain ⟨us5, eu5⟩ : ∃ us5, us4 ++ [.ref q11] = us5 := ⟨_, rfl⟩
    have ln5 : us5.length = 11 := by rw [← eu5, List.length_append, ln4]; rfl
    rw [eu5] at eR5 wR5
    have eR := eR5
    have wR := wR5
    clear eu5
    refine ⟨_, rfl, (by show 2 ≤ sizeLine; decide), fun Z12 nZ12 => ⟨_, rfl, _, rfl, (by show 2 ≤ sizeLine; decide), fun G12 nG12 => ⟨(by show 3 ≤ sizeLine; decide), fun q12 nq12 => ?_⟩⟩⟩
    obtain ⟨A12, eA12, sA12, rA12⟩ := row_new (K := K) (z := "parting") (zs := ["sheet", "sheet"]) (gs := [sv, mv]) ix.hs .parting (.cons .sheet ix.h2 (.cons .sheet ix.h3 .nil)) nZ12 nG12 nq12
    refine heap_eq eA12 ?_
    replace ix := ix.same sA12
    clear eA12 nZ12 nG12 nq12
    refine ⟨(by show 2 ≤ sizeLine; decide), fun Z13 nZ13 => ⟨_, rfl, _, rfl, (by show 2 ≤ sizeLine; decide), fun G13 nG13 => ⟨(by show 3 ≤ sizeLine; decide), fun q13 nq13 => ?_⟩⟩⟩
    obtain ⟨A13, eA13, sA13, rA13⟩ := row_new (K := K) (z := "alike") (zs := ["sheet", "sheet"]) (gs := [sv, mv]) ix.hs .alike (.cons .sheet ix.h2 (.cons .sheet ix.h3 .nil)) nZ13 nG13 nq13
    refine heap_eq eA13 ?_
    replace ix := ix.same sA13
    clear eA13 nZ13 nG13 nq13
    refine ⟨(by show 2 ≤ sizeLine; decide), fun L6 nL6 => ?_⟩
    obtain ⟨sL6, eL6⟩ := new_at (.lst [.ref q12, .ref q13]) nL6
    have mL6 := st_ne ix.hs nL6
    generalize upd A13 L6 (.lst [.ref q12, .ref q13]) = B6 at sL6 eL6 ⊢
    have tL6 : Same C5 B6 := ((sA12.trans sA13).trans sL6)
    have wL6 : ∀ u ∈ ([.ref q12, .ref q13] : List V), RowK K st B6 u := fun u hu => by
      rcases mem2 hu with rfl | rfl
      · exact rA12.same (sA13.trans sL6)
      · exact rA13.same sL6
    clear rA12 rA13
    replace ix := ix.same sL6
    replace s7 : Same H7 B6 := s7.trans tL6
    refine ⟨R5, L6, _, _, rfl, rfl, tL6 _ _ eR, eL6, (by show us5.length + 2 ≤ sizeLine; rw [ln5]; decide), fun R6 nR6 => ?_⟩
    obtain ⟨sR6, eR6⟩ := new_at (.lst (us5 ++ [.ref q12, .ref q13])) nR6
    generalize upd B6 R6 (.lst (us5 ++ [.ref q12, .ref q13])) = C6 at sR6 eR6 ⊢
    have wR6 := rows_app (tL6.trans sR6) wR (fun u hu => (wL6 u hu).same sR6)
    replace nR := st_ne ix.hs nR6
    replace ix := ix.same sR6
    replace s7 : Same H7 C6 := s7.trans sR6
    clear eR wR
    obtain ⟨us6, eu6⟩ : ∃ us6, us5 ++ [.ref q12, .ref q13] = us6 := ⟨_, rfl⟩
    have ln6 : us6.length = 13 := by rw [← eu6, List.length_append, ln5]; rfl
    rw [eu6] at eR6 wR6
    have eR := eR6
    have wR := wR6
    clear eu6
    have gv7 : Gv TS st H1 C6 := (g17.v hs1).trans (gv_same s7)
    have hT7 := gv7.2.2 (o0.t.ext s1)
    have hsE := ix.hs
    refine ⟨_, rfl, R6, rfl, ⟨_, .inl (.inl eR)⟩, for_list (K := K) (a := R6) (xs := us6) (fun j σ H' => Gv TS st C6 H' ∧ ∃ y10 y11 y12, σ = [some (.ref a), some (.int (0 + (i : Int))), some (.ref st), some lv, some wv, some sv, some mv, some (.int t), some (.int m), some (.ref R6), y10, y11, y12])
      ⟨Gv.refl, _, _, _, rfl⟩ (fun j σ H' _ z => .inl (.inl (z.1.lst nR eR))) ?_ ?_⟩
    · rintro j u σ H8 hu ⟨g8, z10, z11, z12, rfl⟩
      obtain ⟨q', z, Z, G, zs, ks, gs, rfl, hq, nZ, nG, eZ, eG, hc, gvk⟩ := (wR u (List.mem_of_getElem? hu)).gv g8 hsE
      refine ⟨q', _, rfl, hq, rfl, _, _, rfl, _, _, rfl, _, _, rfl, rfl, ?_⟩
      refine ⟨_, rfl, _, rfl, _, rfl, _, rfl, st, z, Z, G, zs, ks, gs, rfl, g8.2.1 hsE, g8.2.2 hT7, nZ, nG, eZ, eG, hc, gvk, fun H9 g9 => ?_⟩
      exact ⟨true, rfl, iteF ⟨g8.trans g9, _, _, _, rfl⟩⟩
    rintro σ H8 ⟨g8, z10, z11, z12, rfl⟩
    exact ⟨(gv7.trans g8).go o0 s1 n1, _, _, _, _, _, _, _, _, _, _, _, _, rfl⟩
end

theorem all_mk {l : PySem.W.OpenLaw} {w : World} {K : PySem.W.Frag} {h : Heap} {mg : Str → Option Value} {fa : Addr} {q : Program} (X : K.In h) (G : h.Ns mainGlobals mg) (hfa : mg "law" = some (.ref fa)) (TQ : TabsIn q K h)
    {f0 f1 f2 f3 f4 f5 f6 f7 f8 f9 f10 f11 f12 f13 f14 f15 f16 f17 f18 f19 f20 f21 f22 f23 f24 f25 f26 f27 f28 f29 f30 f31 f32 f33 f34 f35 f36 f37 f38 f39 f40 f41 f42 f43 C0 C1 C2 C3 C4 C5 C6 C7 C8 C9 C10 C11 C12 C13 C14 C15 LE cc42 PP42 : Addr} {od0 an0 od1 an1 od2 an2 od3 an3 od4 an4 od5 an5 od6 an6 od7 an7 od8 an8 od9 an9 od10 an10 od11 an11 od12 an12 od13 an13 od14 an14 od15 an15 od16 an16 od17 an17 od18 an18 od19 an19 od20 an20 od21 an21 od22 an22 od23 an23 od24 an24 od25 an25 od26 an26 od27 an27 od28 an28 od29 an29 od30 an30 od31 an31 od32 an32 od33 an33 od34 an34 od35 an35 od36 an36 od37 an37 od38 an38 od39 an39 od40 an40 od41 an41 od42 an42 od43 an43 dc_42 : Option Addr} {sl0 sl1 sl2 sl3 sl4 sl5 sl6 sl7 sl8 sl9 sl10 sl11 sl12 sl13 sl14 sl15 sl16 sl17 sl18 sl19 sl20 sl21 sl22 sl23 sl24 sl25 sl26 sl27 sl28 sl29 sl30 sl31 sl32 sl33 sl34 sl35 sl36 sl37 sl38 sl39 sl40 sl41 sl42 sl43 slc42 : Array (Option Value)} {oc0 kV0 dc0 pm0 ct0 cd0 oc1 kV1 dc1 pm1 ct1 cd1 oc2 kV2 dc2 pm2 ct2 cd2 oc3 kV3 dc3 pm3 ct3 cd3 oc4 kV4 dc4 pm4 ct4 cd4 oc5 kV5 dc5 pm5 ct5 cd5 oc6 kV6 dc6 pm6 ct6 cd6 oc7 kV7 dc7 pm7 ct7 cd7 oc8 kV8 dc8 pm8 ct8 cd8 oc9 kV9 dc9 pm9 ct9 cd9 oc10 kV10 dc10 pm10 ct10 cd10 oc11 kV11 dc11 pm11 ct11 cd11 oc12 kV12 dc12 pm12 ct12 cd12 oc13 kV13 dc13 pm13 ct13 cd13 oc14 kV14 dc14 pm14 ct14 cd14 oc15 kV15 dc15 pm15 ct15 cd15 oc16 kV16 dc16 pm16 ct16 cd16 oc17 kV17 dc17 pm17 ct17 cd17 oc18 kV18 dc18 pm18 ct18 cd18 oc19 kV19 dc19 pm19 ct19 cd19 oc20 kV20 dc20 pm20 ct20 cd20 oc21 kV21 dc21 pm21 ct21 cd21 oc22 kV22 dc22 pm22 ct22 cd22 oc23 kV23 dc23 pm23 ct23 cd23 oc24 kV24 dc24 pm24 ct24 cd24 oc25 kV25 dc25 pm25 ct25 cd25 oc26 kV26 dc26 pm26 ct26 cd26 oc27 kV27 dc27 pm27 ct27 cd27 oc28 kV28 dc28 pm28 ct28 cd28 oc29 kV29 dc29 pm29 ct29 cd29 oc30 kV30 dc30 pm30 ct30 cd30 oc31 kV31 dc31 pm31 ct31 cd31 oc32 kV32 dc32 pm32 ct32 cd32 oc33 kV33 dc33 pm33 ct33 cd33 oc34 kV34 dc34 pm34 ct34 cd34 oc35 kV35 dc35 pm35 ct35 cd35 oc36 kV36 dc36 pm36 ct36 cd36 oc37 kV37 dc37 pm37 ct37 cd37 oc38 kV38 dc38 pm38 ct38 cd38 oc39 kV39 dc39 pm39 ct39 cd39 oc40 kV40 dc40 pm40 ct40 cd40 oc41 kV41 dc41 pm41 ct41 cd41 oc42 kV42 dc42 pm42 ct42 oc43 kV43 dc43 pm43 ct43 cd43 ec42 : Value} {vc42 : Array Value} {t0 t1 t2 t3 t4 t5 t6 t7 t8 : Tok}
    (a0 : PySem.W.nsIn K mainGlobals "_law_refused" = some (some (.ref f0))) (l0 : K.lookup f0 = some ⟨oc0, od0, .func (PySem.W.fnOf "_law_refused" "_law_refused" (defArgs s__law_refused) (defBody s__law_refused) (defScope s__law_refused) .none kV0 dc0 pm0 an0 cd0 ct0), sl0⟩) (c0 : PySem.W.codeIn K cd0 "_law_refused" = true) (k0 : PySem.W.keepIn K (.ref f0) = true)
    (a1 : PySem.W.nsIn K mainGlobals "_law_marks" = some (some (.ref f1))) (l1 : K.lookup f1 = some ⟨oc1, od1, .func (PySem.W.fnOf "_law_marks" "_law_marks" (defArgs s__law_marks) (defBody s__law_marks) (defScope s__law_marks) .none kV1 dc1 pm1 an1 cd1 ct1), sl1⟩) (c1 : PySem.W.codeIn K cd1 "_law_marks" = true) (k1 : PySem.W.keepIn K (.ref f1) = true)
    (a2 : PySem.W.nsIn K mainGlobals "is_whole_from" = some (some (.ref f2))) (l2 : K.lookup f2 = some ⟨oc2, od2, .func (PySem.W.fnOf "is_whole_from" "is_whole_from" (defArgs s_is_whole_from) (defBody s_is_whole_from) (defScope s_is_whole_from) .none kV2 dc2 pm2 an2 cd2 ct2), sl2⟩) (c2 : PySem.W.codeIn K cd2 "is_whole_from" = true) (k2 : PySem.W.keepIn K (.ref f2) = true)
    (a3 : PySem.W.nsIn K mainGlobals "is_whole" = some (some (.ref f3))) (l3 : K.lookup f3 = some ⟨oc3, od3, .func (PySem.W.fnOf "is_whole" "is_whole" (defArgs s_is_whole) (defBody s_is_whole) (defScope s_is_whole) .none kV3 dc3 pm3 an3 cd3 ct3), sl3⟩) (c3 : PySem.W.codeIn K cd3 "is_whole" = true) (k3 : PySem.W.keepIn K (.ref f3) = true)
    (a4 : PySem.W.nsIn K mainGlobals "need_moment" = some (some (.ref f4))) (l4 : K.lookup f4 = some ⟨oc4, od4, .func (PySem.W.fnOf "need_moment" "need_moment" (defArgs s_need_moment) (defBody s_need_moment) (defScope s_need_moment) .none kV4 dc4 pm4 an4 cd4 ct4), sl4⟩) (c4 : PySem.W.codeIn K cd4 "need_moment" = true) (k4 : PySem.W.keepIn K (.ref f4) = true)
    (a5 : PySem.W.nsIn K mainGlobals "need_number" = some (some (.ref f5))) (l5 : K.lookup f5 = some ⟨oc5, od5, .func (PySem.W.fnOf "need_number" "need_number" (defArgs s_need_number) (defBody s_need_number) (defScope s_need_number) .none kV5 dc5 pm5 an5 cd5 ct5), sl5⟩) (c5 : PySem.W.codeIn K cd5 "need_number" = true) (k5 : PySem.W.keepIn K (.ref f5) = true)
    (a6 : PySem.W.nsIn K mainGlobals "is_tuple" = some (some (.ref f6))) (l6 : K.lookup f6 = some ⟨oc6, od6, .func (PySem.W.fnOf "is_tuple" "is_tuple" (defArgs s_is_tuple) (defBody s_is_tuple) (defScope s_is_tuple) .none kV6 dc6 pm6 an6 cd6 ct6), sl6⟩) (c6 : PySem.W.codeIn K cd6 "is_tuple" = true) (k6 : PySem.W.keepIn K (.ref f6) = true)
    (a7 : PySem.W.nsIn K mainGlobals "is_drawing" = some (some (.ref f7))) (l7 : K.lookup f7 = some ⟨oc7, od7, .func (PySem.W.fnOf "is_drawing" "is_drawing" (defArgs s_is_drawing) (defBody s_is_drawing) (defScope s_is_drawing) .none kV7 dc7 pm7 an7 cd7 ct7), sl7⟩) (c7 : PySem.W.codeIn K cd7 "is_drawing" = true) (k7 : PySem.W.keepIn K (.ref f7) = true)
    (a8 : PySem.W.nsIn K mainGlobals "is_hold" = some (some (.ref f8))) (l8 : K.lookup f8 = some ⟨oc8, od8, .func (PySem.W.fnOf "is_hold" "is_hold" (defArgs s_is_hold) (defBody s_is_hold) (defScope s_is_hold) .none kV8 dc8 pm8 an8 cd8 ct8), sl8⟩) (c8 : PySem.W.codeIn K cd8 "is_hold" = true) (k8 : PySem.W.keepIn K (.ref f8) = true)
    (a9 : PySem.W.nsIn K mainGlobals "is_row" = some (some (.ref f9))) (l9 : K.lookup f9 = some ⟨oc9, od9, .func (PySem.W.fnOf "is_row" "is_row" (defArgs s_is_row) (defBody s_is_row) (defScope s_is_row) .none kV9 dc9 pm9 an9 cd9 ct9), sl9⟩) (c9 : PySem.W.codeIn K cd9 "is_row" = true) (k9 : PySem.W.keepIn K (.ref f9) = true)
    (a10 : PySem.W.nsIn K mainGlobals "is_layer" = some (some (.ref f10))) (l10 : K.lookup f10 = some ⟨oc10, od10, .func (PySem.W.fnOf "is_layer" "is_layer" (defArgs s_is_layer) (defBody s_is_layer) (defScope s_is_layer) .none kV10 dc10 pm10 an10 cd10 ct10), sl10⟩) (c10 : PySem.W.codeIn K cd10 "is_layer" = true) (k10 : PySem.W.keepIn K (.ref f10) = true)
    (a11 : PySem.W.nsIn K mainGlobals "is_way" = some (some (.ref f11))) (l11 : K.lookup f11 = some ⟨oc11, od11, .func (PySem.W.fnOf "is_way" "is_way" (defArgs s_is_way) (defBody s_is_way) (defScope s_is_way) .none kV11 dc11 pm11 an11 cd11 ct11), sl11⟩) (c11 : PySem.W.codeIn K cd11 "is_way" = true) (k11 : PySem.W.keepIn K (.ref f11) = true)
    (a12 : PySem.W.nsIn K mainGlobals "is_many" = some (some (.ref f12))) (l12 : K.lookup f12 = some ⟨oc12, od12, .func (PySem.W.fnOf "is_many" "is_many" (defArgs s_is_many) (defBody s_is_many) (defScope s_is_many) .none kV12 dc12 pm12 an12 cd12 ct12), sl12⟩) (c12 : PySem.W.codeIn K cd12 "is_many" = true) (k12 : PySem.W.keepIn K (.ref f12) = true)
    (a13 : PySem.W.nsIn K mainGlobals "is_move" = some (some (.ref f13))) (l13 : K.lookup f13 = some ⟨oc13, od13, .func (PySem.W.fnOf "is_move" "is_move" (defArgs s_is_move) (defBody s_is_move) (defScope s_is_move) .none kV13 dc13 pm13 an13 cd13 ct13), sl13⟩) (c13 : PySem.W.codeIn K cd13 "is_move" = true) (k13 : PySem.W.keepIn K (.ref f13) = true)
    (a14 : PySem.W.nsIn K mainGlobals "is_window" = some (some (.ref f14))) (l14 : K.lookup f14 = some ⟨oc14, od14, .func (PySem.W.fnOf "is_window" "is_window" (defArgs s_is_window) (defBody s_is_window) (defScope s_is_window) .none kV14 dc14 pm14 an14 cd14 ct14), sl14⟩) (c14 : PySem.W.codeIn K cd14 "is_window" = true) (k14 : PySem.W.keepIn K (.ref f14) = true)
    (a15 : PySem.W.nsIn K mainGlobals "is_sheet" = some (some (.ref f15))) (l15 : K.lookup f15 = some ⟨oc15, od15, .func (PySem.W.fnOf "is_sheet" "is_sheet" (defArgs s_is_sheet) (defBody s_is_sheet) (defScope s_is_sheet) .none kV15 dc15 pm15 an15 cd15 ct15), sl15⟩) (c15 : PySem.W.codeIn K cd15 "is_sheet" = true) (k15 : PySem.W.keepIn K (.ref f15) = true)
    (a16 : PySem.W.nsIn K mainGlobals "need_layer" = some (some (.ref f16))) (l16 : K.lookup f16 = some ⟨oc16, od16, .func (PySem.W.fnOf "need_layer" "need_layer" (defArgs s_need_layer) (defBody s_need_layer) (defScope s_need_layer) .none kV16 dc16 pm16 an16 cd16 ct16), sl16⟩) (c16 : PySem.W.codeIn K cd16 "need_layer" = true) (k16 : PySem.W.keepIn K (.ref f16) = true)
    (a17 : PySem.W.nsIn K mainGlobals "need_window" = some (some (.ref f17))) (l17 : K.lookup f17 = some ⟨oc17, od17, .func (PySem.W.fnOf "need_window" "need_window" (defArgs s_need_window) (defBody s_need_window) (defScope s_need_window) .none kV17 dc17 pm17 an17 cd17 ct17), sl17⟩) (c17 : PySem.W.codeIn K cd17 "need_window" = true) (k17 : PySem.W.keepIn K (.ref f17) = true)
    (a18 : PySem.W.nsIn K mainGlobals "need_sheet" = some (some (.ref f18))) (l18 : K.lookup f18 = some ⟨oc18, od18, .func (PySem.W.fnOf "need_sheet" "need_sheet" (defArgs s_need_sheet) (defBody s_need_sheet) (defScope s_need_sheet) .none kV18 dc18 pm18 an18 cd18 ct18), sl18⟩) (c18 : PySem.W.codeIn K cd18 "need_sheet" = true) (k18 : PySem.W.keepIn K (.ref f18) = true)
    (a19 : PySem.W.nsIn K mainGlobals "layer_length" = some (some (.ref f19))) (l19 : K.lookup f19 = some ⟨oc19, od19, .func (PySem.W.fnOf "layer_length" "layer_length" (defArgs s_layer_length) (defBody s_layer_length) (defScope s_layer_length) .none kV19 dc19 pm19 an19 cd19 ct19), sl19⟩) (c19 : PySem.W.codeIn K cd19 "layer_length" = true) (k19 : PySem.W.keepIn K (.ref f19) = true)
    (a20 : PySem.W.nsIn K mainGlobals "window_length" = some (some (.ref f20))) (l20 : K.lookup f20 = some ⟨oc20, od20, .func (PySem.W.fnOf "window_length" "window_length" (defArgs s_window_length) (defBody s_window_length) (defScope s_window_length) .none kV20 dc20 pm20 an20 cd20 ct20), sl20⟩) (c20 : PySem.W.codeIn K cd20 "window_length" = true) (k20 : PySem.W.keepIn K (.ref f20) = true)
    (a21 : PySem.W.nsIn K mainGlobals "sheet_length" = some (some (.ref f21))) (l21 : K.lookup f21 = some ⟨oc21, od21, .func (PySem.W.fnOf "sheet_length" "sheet_length" (defArgs s_sheet_length) (defBody s_sheet_length) (defScope s_sheet_length) .none kV21 dc21 pm21 an21 cd21 ct21), sl21⟩) (c21 : PySem.W.codeIn K cd21 "sheet_length" = true) (k21 : PySem.W.keepIn K (.ref f21) = true)
    (a22 : PySem.W.nsIn K mainGlobals "drawing_at" = some (some (.ref f22))) (l22 : K.lookup f22 = some ⟨oc22, od22, .func (PySem.W.fnOf "drawing_at" "drawing_at" (defArgs s_drawing_at) (defBody s_drawing_at) (defScope s_drawing_at) .none kV22 dc22 pm22 an22 cd22 ct22), sl22⟩) (c22 : PySem.W.codeIn K cd22 "drawing_at" = true) (k22 : PySem.W.keepIn K (.ref f22) = true)
    (a23 : PySem.W.nsIn K mainGlobals "place_at" = some (some (.ref f23))) (l23 : K.lookup f23 = some ⟨oc23, od23, .func (PySem.W.fnOf "place_at" "place_at" (defArgs s_place_at) (defBody s_place_at) (defScope s_place_at) .none kV23 dc23 pm23 an23 cd23 ct23), sl23⟩) (c23 : PySem.W.codeIn K cd23 "place_at" = true) (k23 : PySem.W.keepIn K (.ref f23) = true)
    (a24 : PySem.W.nsIn K mainGlobals "picture_at" = some (some (.ref f24))) (l24 : K.lookup f24 = some ⟨oc24, od24, .func (PySem.W.fnOf "picture_at" "picture_at" (defArgs s_picture_at) (defBody s_picture_at) (defScope s_picture_at) .none kV24 dc24 pm24 an24 cd24 ct24), sl24⟩) (c24 : PySem.W.codeIn K cd24 "picture_at" = true) (k24 : PySem.W.keepIn K (.ref f24) = true)
    (a25 : PySem.W.nsIn K mainGlobals "pictures_from" = some (some (.ref f25))) (l25 : K.lookup f25 = some ⟨oc25, od25, .func (PySem.W.fnOf "pictures_from" "pictures_from" (defArgs s_pictures_from) (defBody s_pictures_from) (defScope s_pictures_from) .none kV25 dc25 pm25 an25 cd25 ct25), sl25⟩) (c25 : PySem.W.codeIn K cd25 "pictures_from" = true) (k25 : PySem.W.keepIn K (.ref f25) = true)
    (a26 : PySem.W.nsIn K mainGlobals "laid" = some (some (.ref f26))) (l26 : K.lookup f26 = some ⟨oc26, od26, .func (PySem.W.fnOf "laid" "laid" (defArgs s_laid) (defBody s_laid) (defScope s_laid) .none kV26 dc26 pm26 an26 cd26 ct26), sl26⟩) (c26 : PySem.W.codeIn K cd26 "laid" = true) (k26 : PySem.W.keepIn K (.ref f26) = true)
    (a27 : PySem.W.nsIn K mainGlobals "is_round" = some (some (.ref f27))) (l27 : K.lookup f27 = some ⟨oc27, od27, .func (PySem.W.fnOf "is_round" "is_round" (defArgs s_is_round) (defBody s_is_round) (defScope s_is_round) .none kV27 dc27 pm27 an27 cd27 ct27), sl27⟩) (c27 : PySem.W.codeIn K cd27 "is_round" = true) (k27 : PySem.W.keepIn K (.ref f27) = true)
    (a28 : PySem.W.nsIn K mainGlobals "least_round" = some (some (.ref f28))) (l28 : K.lookup f28 = some ⟨oc28, od28, .func (PySem.W.fnOf "least_round" "least_round" (defArgs s_least_round) (defBody s_least_round) (defScope s_least_round) .none kV28 dc28 pm28 an28 cd28 ct28), sl28⟩) (c28 : PySem.W.codeIn K cd28 "least_round" = true) (k28 : PySem.W.keepIn K (.ref f28) = true)
    (a29 : PySem.W.nsIn K mainGlobals "sheet_round" = some (some (.ref f29))) (l29 : K.lookup f29 = some ⟨oc29, od29, .func (PySem.W.fnOf "sheet_round" "sheet_round" (defArgs s_sheet_round) (defBody s_sheet_round) (defScope s_sheet_round) .none kV29 dc29 pm29 an29 cd29 ct29), sl29⟩) (c29 : PySem.W.codeIn K cd29 "sheet_round" = true) (k29 : PySem.W.keepIn K (.ref f29) = true)
    (a30 : PySem.W.nsIn K mainGlobals "parting" = some (some (.ref f30))) (l30 : K.lookup f30 = some ⟨oc30, od30, .func (PySem.W.fnOf "parting" "parting" (defArgs s_parting) (defBody s_parting) (defScope s_parting) .none kV30 dc30 pm30 an30 cd30 ct30), sl30⟩) (c30 : PySem.W.codeIn K cd30 "parting" = true) (k30 : PySem.W.keepIn K (.ref f30) = true)
    (a31 : PySem.W.nsIn K mainGlobals "are_alike" = some (some (.ref f31))) (l31 : K.lookup f31 = some ⟨oc31, od31, .func (PySem.W.fnOf "are_alike" "are_alike" (defArgs s_are_alike) (defBody s_are_alike) (defScope s_are_alike) .none kV31 dc31 pm31 an31 cd31 ct31), sl31⟩) (c31 : PySem.W.codeIn K cd31 "are_alike" = true) (k31 : PySem.W.keepIn K (.ref f31) = true)
    (a32 : PySem.W.nsIn K mainGlobals "_law_cell_at" = some (some (.ref f32))) (l32 : K.lookup f32 = some ⟨oc32, od32, .func (PySem.W.fnOf "_law_cell_at" "_law_cell_at" (defArgs s__law_cell_at) (defBody s__law_cell_at) (defScope s__law_cell_at) .none kV32 dc32 pm32 an32 cd32 ct32), sl32⟩) (c32 : PySem.W.codeIn K cd32 "_law_cell_at" = true) (k32 : PySem.W.keepIn K (.ref f32) = true)
    (a33 : PySem.W.nsIn K mainGlobals "_law_state" = some (some (.ref f33))) (l33 : K.lookup f33 = some ⟨oc33, od33, .func (PySem.W.fnOf "_law_state" "_law_state" (defArgs s__law_state) (defBody s__law_state) (defScope s__law_state) .none kV33 dc33 pm33 an33 cd33 ct33), sl33⟩) (c33 : PySem.W.codeIn K cd33 "_law_state" = true) (k33 : PySem.W.keepIn K (.ref f33) = true)
    (a34 : PySem.W.nsIn K mainGlobals "_law_take" = some (some (.ref f34))) (l34 : K.lookup f34 = some ⟨oc34, od34, .func (PySem.W.fnOf "_law_take" "_law_take" (defArgs s__law_take) (defBody s__law_take) (defScope s__law_take) .none kV34 dc34 pm34 an34 cd34 ct34), sl34⟩) (c34 : PySem.W.codeIn K cd34 "_law_take" = true) (k34 : PySem.W.keepIn K (.ref f34) = true)
    (a35 : PySem.W.nsIn K mainGlobals "_law_odd" = some (some (.ref f35))) (l35 : K.lookup f35 = some ⟨oc35, od35, .func (PySem.W.fnOf "_law_odd" "_law_odd" (defArgs s__law_odd) (defBody s__law_odd) (defScope s__law_odd) .none kV35 dc35 pm35 an35 cd35 ct35), sl35⟩) (c35 : PySem.W.codeIn K cd35 "_law_odd" = true) (k35 : PySem.W.keepIn K (.ref f35) = true)
    (a36 : PySem.W.nsIn K mainGlobals "_law_row" = some (some (.ref f36))) (l36 : K.lookup f36 = some ⟨oc36, od36, .func (PySem.W.fnOf "_law_row" "_law_row" (defArgs s__law_row) (defBody s__law_row) (defScope s__law_row) .none kV36 dc36 pm36 an36 cd36 ct36), sl36⟩) (c36 : PySem.W.codeIn K cd36 "_law_row" = true) (k36 : PySem.W.keepIn K (.ref f36) = true)
    (a37 : PySem.W.nsIn K mainGlobals "_law_layer" = some (some (.ref f37))) (l37 : K.lookup f37 = some ⟨oc37, od37, .func (PySem.W.fnOf "_law_layer" "_law_layer" (defArgs s__law_layer) (defBody s__law_layer) (defScope s__law_layer) .none kV37 dc37 pm37 an37 cd37 ct37), sl37⟩) (c37 : PySem.W.codeIn K cd37 "_law_layer" = true) (k37 : PySem.W.keepIn K (.ref f37) = true)
    (a38 : PySem.W.nsIn K mainGlobals "_law_window" = some (some (.ref f38))) (l38 : K.lookup f38 = some ⟨oc38, od38, .func (PySem.W.fnOf "_law_window" "_law_window" (defArgs s__law_window) (defBody s__law_window) (defScope s__law_window) .none kV38 dc38 pm38 an38 cd38 ct38), sl38⟩) (c38 : PySem.W.codeIn K cd38 "_law_window" = true) (k38 : PySem.W.keepIn K (.ref f38) = true)
    (a39 : PySem.W.nsIn K mainGlobals "_law_sheet" = some (some (.ref f39))) (l39 : K.lookup f39 = some ⟨oc39, od39, .func (PySem.W.fnOf "_law_sheet" "_law_sheet" (defArgs s__law_sheet) (defBody s__law_sheet) (defScope s__law_sheet) .none kV39 dc39 pm39 an39 cd39 ct39), sl39⟩) (c39 : PySem.W.codeIn K cd39 "_law_sheet" = true) (k39 : PySem.W.keepIn K (.ref f39) = true)
    (a40 : PySem.W.nsIn K mainGlobals "_law_bad" = some (some (.ref f40))) (l40 : K.lookup f40 = some ⟨oc40, od40, .func (PySem.W.fnOf "_law_bad" "_law_bad" (defArgs s__law_bad) (defBody s__law_bad) (defScope s__law_bad) .none kV40 dc40 pm40 an40 cd40 ct40), sl40⟩) (c40 : PySem.W.codeIn K cd40 "_law_bad" = true) (k40 : PySem.W.keepIn K (.ref f40) = true)
    (a41 : PySem.W.nsIn K mainGlobals "_law_call" = some (some (.ref f41))) (l41 : K.lookup f41 = some ⟨oc41, od41, .func (PySem.W.fnOf "_law_call" "_law_call" (defArgs s__law_call) (defBody s__law_call) (defScope s__law_call) .none kV41 dc41 pm41 an41 cd41 ct41), sl41⟩) (c41 : PySem.W.codeIn K cd41 "_law_call" = true) (k41 : PySem.W.keepIn K (.ref f41) = true)
    (a42 : PySem.W.nsIn K mainGlobals "_law_right" = some (some (.ref f42))) (l42 : K.lookup f42 = some ⟨oc42, od42, .func (PySem.W.fnOf "_law_right" "_law_right" (defArgs s__law_right) (defBody s__law_right) (defScope s__law_right) .none kV42 dc42 pm42 an42 (.ref cc42) ct42), sl42⟩) (c42 : PySem.W.codeIn K (.ref cc42) "_law_right" = true) (k42 : PySem.W.keepIn K (.ref f42) = true)
    (lc42 : K.lookup cc42 = some ⟨ec42, dc_42, .fields vc42, slc42⟩) (v1142 : vc42[11]? = some (.ref PP42)) (tq42 : ((recsOf q).find? fun e => e.name == ("_law_right" : Str)).isSome = true) (tt42 : PySem.W.tabIn K "_law_right" = some (cc42, PP42)) (tn42 : K.lookup PP42 = none)
    (a43 : PySem.W.nsIn K mainGlobals "law" = some (some (.ref f43))) (l43 : K.lookup f43 = some ⟨oc43, od43, .func (PySem.W.fnOf "law" "law" (defArgs s_law) (defBody s_law) (defScope s_law) .none kV43 dc43 pm43 an43 cd43 ct43), sl43⟩) (c43 : PySem.W.codeIn K cd43 "law" = true) (k43 : PySem.W.keepIn K (.ref f43) = true)
    (z_ValueError : PySem.W.nsIn K mainGlobals "ValueError" = some none)
    (z_len : PySem.W.nsIn K mainGlobals "len" = some none)
    (z_isinstance : PySem.W.nsIn K mainGlobals "isinstance" = some none)
    (z_max : PySem.W.nsIn K mainGlobals "max" = some none)
    (z_min : PySem.W.nsIn K mainGlobals "min" = some none)
    (z_sum : PySem.W.nsIn K mainGlobals "sum" = some none)
    (z_all : PySem.W.nsIn K mainGlobals "all" = some none)
    (z_tuple : PySem.W.nsIn K mainGlobals "tuple" = some none)
    (z_list : PySem.W.nsIn K mainGlobals "list" = some none)
    (z_abs : PySem.W.nsIn K mainGlobals "abs" = some none)
    (z_range : PySem.W.nsIn K mainGlobals "range" = some none)
    (z_zip : PySem.W.nsIn K mainGlobals "zip" = some none)
    (z_enumerate : PySem.W.nsIn K mainGlobals "enumerate" = some none)
    (z_bool : PySem.W.nsIn K mainGlobals "bool" = some none)
    (z_int : PySem.W.nsIn K mainGlobals "int" = some none)
    (z_repr : PySem.W.nsIn K mainGlobals "repr" = some none)
    (z_sorted : PySem.W.nsIn K mainGlobals "sorted" = some none)
    (z_set : PySem.W.nsIn K mainGlobals "set" = some none)
    (v_LAST_MOMENT : PySem.W.nsIn K mainGlobals "LAST_MOMENT" = some (some (.int 1000000000 t0)))
    (v_MOST_DRAWING : PySem.W.nsIn K mainGlobals "MOST_DRAWING" = some (some (.int 9 t1)))
    (v_MOST_HOLD : PySem.W.nsIn K mainGlobals "MOST_HOLD" = some (some (.int 24 t2)))
    (v_MOST_ROWS : PySem.W.nsIn K mainGlobals "MOST_ROWS" = some (some (.int 8 t3)))
    (v_MOST_WAY : PySem.W.nsIn K mainGlobals "MOST_WAY" = some (some (.int 20 t4)))
    (v_MOST_MANY : PySem.W.nsIn K mainGlobals "MOST_MANY" = some (some (.int 24 t5)))
    (v_MOST_MOVES : PySem.W.nsIn K mainGlobals "MOST_MOVES" = some (some (.int 8 t6)))
    (v_MOST_LAYERS : PySem.W.nsIn K mainGlobals "MOST_LAYERS" = some (some (.int 4 t7)))
    (v_MOST_PICTURES : PySem.W.nsIn K mainGlobals "MOST_PICTURES" = some (some (.int 200 t8)))
    (x0 : PySem.W.nsIn K mainGlobals "NoLayer" = some (some (.ref C0)))
    (x1 : PySem.W.nsIn K mainGlobals "NoWindow" = some (some (.ref C1)))
    (x2 : PySem.W.nsIn K mainGlobals "NoSheet" = some (some (.ref C2)))
    (x3 : PySem.W.nsIn K mainGlobals "NoMoment" = some (some (.ref C3)))
    (x4 : PySem.W.nsIn K mainGlobals "NoRow" = some (some (.ref C4)))
    (x5 : PySem.W.nsIn K mainGlobals "NoNumber" = some (some (.ref C5)))
    (x6 : PySem.W.nsIn K mainGlobals "NoDrawings" = some (some (.ref C6)))
    (x7 : PySem.W.nsIn K mainGlobals "Unlike" = some (some (.ref C7)))
    (x8 : PySem.W.nsIn K mainGlobals "Endless" = some (some (.ref C8)))
    (x9 : PySem.W.nsIn K mainGlobals "Squeezed" = some (some (.ref C9)))
    (x10 : PySem.W.nsIn K mainGlobals "NoPaper" = some (some (.ref C10)))
    (x11 : PySem.W.nsIn K mainGlobals "NoDeed" = some (some (.ref C11)))
    (x12 : PySem.W.nsIn K mainGlobals "NoText" = some (some (.ref C12)))
    (x13 : PySem.W.nsIn K mainGlobals "NoWords" = some (some (.ref C13)))
    (x14 : PySem.W.nsIn K mainGlobals "TooMany" = some (some (.ref C14)))
    (x15 : PySem.W.nsIn K mainGlobals "Leaned" = some (some (.ref C15)))
    (xL : PySem.W.nsIn K mainGlobals "LanternError" = some (some (.ref LE)))
    (xb : excTB K (fun i => [C0, C1, C2, C3, C4, C5, C6, C7, C8, C9, C10, C11, C12, C13, C14, C15].getD i 0) LE = true) (nm1 : PySem.W.findIn K (.ref C14) "many" = some none) (nm2 : PySem.W.findIn K (.ref C14) "most" = some none) (nm3 : PySem.W.findIn K (.ref C15) "numbers" = some none) :
    LawAtG l w K 14 63 "_law_script" mg fa h := by
  have e := hfa.symm.trans (PySem.W.mg_of X G a43)
  cases e
  have T : Txt K mg := ⟨PySem.W.mg_none_of X G z_ValueError, PySem.W.mg_none_of X G z_len, PySem.W.mg_none_of X G z_isinstance, PySem.W.mg_none_of X G z_max, PySem.W.mg_none_of X G z_min, PySem.W.mg_none_of X G z_sum, PySem.W.mg_none_of X G z_all, PySem.W.mg_none_of X G z_tuple, PySem.W.mg_none_of X G z_list, PySem.W.mg_none_of X G z_abs, PySem.W.mg_none_of X G z_range, PySem.W.mg_none_of X G z_zip, PySem.W.mg_none_of X G z_enumerate, PySem.W.mg_none_of X G z_bool, PySem.W.mg_none_of X G z_int, PySem.W.mg_none_of X G z_repr, PySem.W.mg_none_of X G z_sorted, PySem.W.mg_none_of X G z_set, ⟨_, PySem.W.mg_of X G v_LAST_MOMENT⟩, ⟨_, PySem.W.mg_of X G v_MOST_DRAWING⟩, ⟨_, PySem.W.mg_of X G v_MOST_HOLD⟩, ⟨_, PySem.W.mg_of X G v_MOST_ROWS⟩, ⟨_, PySem.W.mg_of X G v_MOST_WAY⟩, ⟨_, PySem.W.mg_of X G v_MOST_MANY⟩, ⟨_, PySem.W.mg_of X G v_MOST_MOVES⟩, ⟨_, PySem.W.mg_of X G v_MOST_LAYERS⟩, ⟨_, PySem.W.mg_of X G v_MOST_PICTURES⟩⟩
  have gX : ∀ i n, clsN[i]? = some n → mg n = some (.ref ((fun i => [C0, C1, C2, C3, C4, C5, C6, C7, C8, C9, C10, C11, C12, C13, C14, C15].getD i 0) i)) := fun i n hn => match i, hn with
    | 0, h => by cases (show some ("NoLayer" : Str) = some n from h); exact PySem.W.mg_of X G x0
    | 1, h => by cases (show some ("NoWindow" : Str) = some n from h); exact PySem.W.mg_of X G x1
    | 2, h => by cases (show some ("NoSheet" : Str) = some n from h); exact PySem.W.mg_of X G x2
    | 3, h => by cases (show some ("NoMoment" : Str) = some n from h); exact PySem.W.mg_of X G x3
    | 4, h => by cases (show some ("NoRow" : Str) = some n from h); exact PySem.W.mg_of X G x4
    | 5, h => by cases (show some ("NoNumber" : Str) = some n from h); exact PySem.W.mg_of X G x5
    | 6, h => by cases (show some ("NoDrawings" : Str) = some n from h); exact PySem.W.mg_of X G x6
    | 7, h => by cases (show some ("Unlike" : Str) = some n from h); exact PySem.W.mg_of X G x7
    | 8, h => by cases (show some ("Endless" : Str) = some n from h); exact PySem.W.mg_of X G x8
    | 9, h => by cases (show some ("Squeezed" : Str) = some n from h); exact PySem.W.mg_of X G x9
    | 10, h => by cases (show some ("NoPaper" : Str) = some n from h); exact PySem.W.mg_of X G x10
    | 11, h => by cases (show some ("NoDeed" : Str) = some n from h); exact PySem.W.mg_of X G x11
    | 12, h => by cases (show some ("NoText" : Str) = some n from h); exact PySem.W.mg_of X G x12
    | 13, h => by cases (show some ("NoWords" : Str) = some n from h); exact PySem.W.mg_of X G x13
    | 14, h => by cases (show some ("TooMany" : Str) = some n from h); exact PySem.W.mg_of X G x14
    | 15, h => by cases (show some ("Leaned" : Str) = some n from h); exact PySem.W.mg_of X G x15
    | k + 16, h => by simp [clsN] at h
  have TX : ExcN K mg (fun i => [C0, C1, C2, C3, C4, C5, C6, C7, C8, C9, C10, C11, C12, C13, C14, C15].getD i 0) LE := ⟨excT_of xb, gX, PySem.W.mg_of X G xL, nm1, nm2, nm3⟩
  refine ⟨(PySem.W.fnOf "law" "law" (defArgs s_law) (defBody s_law) (defScope s_law) .none kV43 dc43 pm43 an43 cd43 ct43), [(cc42, PP42)], sp_law K [(PP42, qLam "_law_right")], ?_, ?_, ?_, fun s v => .of_eq rfl, fun H a ns hl hT hS => ⟨a, ns, rfl, hS, hl, ?_, fun _ => rfl⟩, fun base kb gb tb => ?_⟩
  · intro p hp
    simp only [List.mem_cons, List.not_mem_nil, or_false] at hp
    rcases hp with rfl
    · exact (TQ _ _ _ tq42 tt42).2
  · intro p hp
    simp only [List.mem_cons, List.not_mem_nil, or_false] at hp
    rcases hp with rfl
    · exact tn42
  · intro p hp
    simp only [List.mem_cons, List.not_mem_nil, or_false] at hp
    rcases hp with rfl
    · exact (TQ _ _ _ tq42 tt42).1
  · intro p hp
    simp only [List.mem_cons, List.not_mem_nil, or_false] at hp
    rcases hp with rfl
    · exact LamX.TabS.nil (hT (cc42, PP42) (by simp))
  have F0 := fun_mk (st := s__law_refused) l0 c0 k0
  have b0 := F0.binds (ps := ["_law_call_here"]) fun _ _ _ _ _ _ us hl => match us, hl with | [_], _ => rfl
  have F1 := fun_mk (st := s__law_marks) l1 c1 k1
  have b1 := F1.binds (ps := ["_law_error"]) fun _ _ _ _ _ _ us hl => match us, hl with | [_], _ => rfl
  have DM : ClE l.prog w K mg base 1 "_law_marks" ["_law_error"] (spMrk (fun i => [C0, C1, C2, C3, C4, C5, C6, C7, C8, C9, C10, C11, C12, C13, C14, C15].getD i 0)) := ⟨_, _, ok__law_marks F1 T TX, k1, b1, PySem.W.mg_of X G a1⟩
  have F2 := fun_mk (st := s_is_whole_from) l2 c2 k2
  have b2 := F2.binds (ps := ["thing", "least"]) fun _ _ _ _ _ _ us hl => match us, hl with | [_, _], _ => rfl
  have D_is_whole_from : Cl l.prog w K mg base 1 "is_whole_from" ["thing", "least"] (sp_is_whole_from K) := ⟨_, _, ok_is_whole_from F2 T , k2, b2, PySem.W.mg_of X G a2⟩
  have F3 := fun_mk (st := s_is_whole) l3 c3 k3
  have b3 := F3.binds (ps := ["thing", "least", "most"]) fun _ _ _ _ _ _ us hl => match us, hl with | [_, _, _], _ => rfl
  have D_is_whole : Cl l.prog w K mg base 2 "is_whole" ["thing", "least", "most"] (sp_is_whole K) := ⟨_, _, ok_is_whole F3 T D_is_whole_from, k3, b3, PySem.W.mg_of X G a3⟩
  have F4 := fun_mk (st := s_need_moment) l4 c4 k4
  have b4 := F4.binds (ps := ["thing"]) fun _ _ _ _ _ _ us hl => match us, hl with | [_], _ => rfl
  have D_need_moment : ClX l.prog w K mg base 3 "need_moment" ["thing"] (sp_need_moment K (fun i => [C0, C1, C2, C3, C4, C5, C6, C7, C8, C9, C10, C11, C12, C13, C14, C15].getD i 0)) := ⟨_, _, ok_need_moment F4 T TX  D_is_whole, k4, b4, PySem.W.mg_of X G a4⟩
  have F5 := fun_mk (st := s_need_number) l5 c5 k5
  have b5 := F5.binds (ps := ["thing", "least", "most"]) fun _ _ _ _ _ _ us hl => match us, hl with | [_, _, _], _ => rfl
  have D_need_number : ClX l.prog w K mg base 3 "need_number" ["thing", "least", "most"] (sp_need_number K (fun i => [C0, C1, C2, C3, C4, C5, C6, C7, C8, C9, C10, C11, C12, C13, C14, C15].getD i 0)) := ⟨_, _, ok_need_number F5 T TX  D_is_whole, k5, b5, PySem.W.mg_of X G a5⟩
  have F6 := fun_mk (st := s_is_tuple) l6 c6 k6
  have b6 := F6.binds (ps := ["thing", "least", "most"]) fun _ _ _ _ _ _ us hl => match us, hl with | [_, _, _], _ => rfl
  have D_is_tuple : Cl l.prog w K mg base 1 "is_tuple" ["thing", "least", "most"] (sp_is_tuple K) := ⟨_, _, ok_is_tuple F6 T , k6, b6, PySem.W.mg_of X G a6⟩
  have F7 := fun_mk (st := s_is_drawing) l7 c7 k7
  have b7 := F7.binds (ps := ["thing"]) fun _ _ _ _ _ _ us hl => match us, hl with | [_], _ => rfl
  have D_is_drawing : Cl l.prog w K mg base 3 "is_drawing" ["thing"] (sp_is_drawing K) := ⟨_, _, ok_is_drawing F7 T D_is_whole, k7, b7, PySem.W.mg_of X G a7⟩
  have F8 := fun_mk (st := s_is_hold) l8 c8 k8
  have b8 := F8.binds (ps := ["thing"]) fun _ _ _ _ _ _ us hl => match us, hl with | [_], _ => rfl
  have D_is_hold : Cl l.prog w K mg base 3 "is_hold" ["thing"] (sp_is_hold K) := ⟨_, _, ok_is_hold F8 T D_is_whole, k8, b8, PySem.W.mg_of X G a8⟩
  have F9 := fun_mk (st := s_is_row) l9 c9 k9
  have b9 := F9.binds (ps := ["thing"]) fun _ _ _ _ _ _ us hl => match us, hl with | [_], _ => rfl
  have D_is_row : Cl l.prog w K mg base 4 "is_row" ["thing"] (sp_is_row K) := ⟨_, _, ok_is_row F9 T D_is_tuple D_is_drawing D_is_hold, k9, b9, PySem.W.mg_of X G a9⟩
  have F10 := fun_mk (st := s_is_layer) l10 c10 k10
  have b10 := F10.binds (ps := ["thing"]) fun _ _ _ _ _ _ us hl => match us, hl with | [_], _ => rfl
  have D_is_layer : Cl l.prog w K mg base 5 "is_layer" ["thing"] (sp_is_layer K) := ⟨_, _, ok_is_layer F10 T D_is_tuple D_is_row D_is_whole, k10, b10, PySem.W.mg_of X G a10⟩
  have F11 := fun_mk (st := s_is_way) l11 c11 k11
  have b11 := F11.binds (ps := ["thing"]) fun _ _ _ _ _ _ us hl => match us, hl with | [_], _ => rfl
  have D_is_way : Cl l.prog w K mg base 3 "is_way" ["thing"] (sp_is_way K) := ⟨_, _, ok_is_way F11 T D_is_whole, k11, b11, PySem.W.mg_of X G a11⟩
  have F12 := fun_mk (st := s_is_many) l12 c12 k12
  have b12 := F12.binds (ps := ["thing"]) fun _ _ _ _ _ _ us hl => match us, hl with | [_], _ => rfl
  have D_is_many : Cl l.prog w K mg base 3 "is_many" ["thing"] (sp_is_many K) := ⟨_, _, ok_is_many F12 T D_is_whole, k12, b12, PySem.W.mg_of X G a12⟩
  have F13 := fun_mk (st := s_is_move) l13 c13 k13
  have b13 := F13.binds (ps := ["thing"]) fun _ _ _ _ _ _ us hl => match us, hl with | [_], _ => rfl
  have D_is_move : Cl l.prog w K mg base 4 "is_move" ["thing"] (sp_is_move K) := ⟨_, _, ok_is_move F13 T D_is_tuple D_is_way D_is_many, k13, b13, PySem.W.mg_of X G a13⟩
  have F14 := fun_mk (st := s_is_window) l14 c14 k14
  have b14 := F14.binds (ps := ["thing"]) fun _ _ _ _ _ _ us hl => match us, hl with | [_], _ => rfl
  have D_is_window : Cl l.prog w K mg base 5 "is_window" ["thing"] (sp_is_window K) := ⟨_, _, ok_is_window F14 T D_is_tuple D_is_way D_is_move, k14, b14, PySem.W.mg_of X G a14⟩
  have F15 := fun_mk (st := s_is_sheet) l15 c15 k15
  have b15 := F15.binds (ps := ["thing"]) fun _ _ _ _ _ _ us hl => match us, hl with | [_], _ => rfl
  have D_is_sheet : Cl l.prog w K mg base 6 "is_sheet" ["thing"] (sp_is_sheet K) := ⟨_, _, ok_is_sheet F15 T D_is_tuple D_is_window D_is_layer, k15, b15, PySem.W.mg_of X G a15⟩
  have F16 := fun_mk (st := s_need_layer) l16 c16 k16
  have b16 := F16.binds (ps := ["thing"]) fun _ _ _ _ _ _ us hl => match us, hl with | [_], _ => rfl
  have D_need_layer : ClX l.prog w K mg base 6 "need_layer" ["thing"] (sp_need_layer K (fun i => [C0, C1, C2, C3, C4, C5, C6, C7, C8, C9, C10, C11, C12, C13, C14, C15].getD i 0)) := ⟨_, _, ok_need_layer F16 T TX  D_is_layer, k16, b16, PySem.W.mg_of X G a16⟩
  have F17 := fun_mk (st := s_need_window) l17 c17 k17
  have b17 := F17.binds (ps := ["thing"]) fun _ _ _ _ _ _ us hl => match us, hl with | [_], _ => rfl
  have D_need_window : ClX l.prog w K mg base 6 "need_window" ["thing"] (sp_need_window K (fun i => [C0, C1, C2, C3, C4, C5, C6, C7, C8, C9, C10, C11, C12, C13, C14, C15].getD i 0)) := ⟨_, _, ok_need_window F17 T TX  D_is_window, k17, b17, PySem.W.mg_of X G a17⟩
  have F18 := fun_mk (st := s_need_sheet) l18 c18 k18
  have b18 := F18.binds (ps := ["thing"]) fun _ _ _ _ _ _ us hl => match us, hl with | [_], _ => rfl
  have D_need_sheet : ClX l.prog w K mg base 7 "need_sheet" ["thing"] (sp_need_sheet K (fun i => [C0, C1, C2, C3, C4, C5, C6, C7, C8, C9, C10, C11, C12, C13, C14, C15].getD i 0)) := ⟨_, _, ok_need_sheet F18 T TX  D_is_sheet, k18, b18, PySem.W.mg_of X G a18⟩
  have F19 := fun_mk (st := s_layer_length) l19 c19 k19
  have b19 := F19.binds (ps := ["layer"]) fun _ _ _ _ _ _ us hl => match us, hl with | [_], _ => rfl
  have D_layer_length : ClX l.prog w K mg base 7 "layer_length" ["layer"] (sp_layer_length K (fun i => [C0, C1, C2, C3, C4, C5, C6, C7, C8, C9, C10, C11, C12, C13, C14, C15].getD i 0)) := ⟨_, _, ok_layer_length F19 T TX  D_need_layer, k19, b19, PySem.W.mg_of X G a19⟩
  have F20 := fun_mk (st := s_window_length) l20 c20 k20
  have b20 := F20.binds (ps := ["window"]) fun _ _ _ _ _ _ us hl => match us, hl with | [_], _ => rfl
  have D_window_length : ClX l.prog w K mg base 7 "window_length" ["window"] (sp_window_length K (fun i => [C0, C1, C2, C3, C4, C5, C6, C7, C8, C9, C10, C11, C12, C13, C14, C15].getD i 0)) := ⟨_, _, ok_window_length F20 T TX  D_need_window, k20, b20, PySem.W.mg_of X G a20⟩
  have F21 := fun_mk (st := s_sheet_length) l21 c21 k21
  have b21 := F21.binds (ps := ["sheet"]) fun _ _ _ _ _ _ us hl => match us, hl with | [_], _ => rfl
  have D_sheet_length : ClX l.prog w K mg base 8 "sheet_length" ["sheet"] (sp_sheet_length K (fun i => [C0, C1, C2, C3, C4, C5, C6, C7, C8, C9, C10, C11, C12, C13, C14, C15].getD i 0)) := ⟨_, _, ok_sheet_length F21 T TX  D_need_sheet, k21, b21, PySem.W.mg_of X G a21⟩
  have F22 := fun_mk (st := s_drawing_at) l22 c22 k22
  have b22 := F22.binds (ps := ["layer", "moment"]) fun _ _ _ _ _ _ us hl => match us, hl with | [_, _], _ => rfl
  have D_drawing_at : ClX l.prog w K mg base 7 "drawing_at" ["layer", "moment"] (sp_drawing_at K (fun i => [C0, C1, C2, C3, C4, C5, C6, C7, C8, C9, C10, C11, C12, C13, C14, C15].getD i 0)) := ⟨_, _, ok_drawing_at F22 T TX  D_need_layer D_need_moment, k22, b22, PySem.W.mg_of X G a22⟩
  have F23 := fun_mk (st := s_place_at) l23 c23 k23
  have b23 := F23.binds (ps := ["window", "moment"]) fun _ _ _ _ _ _ us hl => match us, hl with | [_, _], _ => rfl
  have D_place_at : ClX l.prog w K mg base 7 "place_at" ["window", "moment"] (sp_place_at K (fun i => [C0, C1, C2, C3, C4, C5, C6, C7, C8, C9, C10, C11, C12, C13, C14, C15].getD i 0)) := ⟨_, _, ok_place_at F23 T TX  D_need_window D_need_moment, k23, b23, PySem.W.mg_of X G a23⟩
  have F24 := fun_mk (st := s_picture_at) l24 c24 k24
  have b24 := F24.binds (ps := ["sheet", "moment"]) fun _ _ _ _ _ _ us hl => match us, hl with | [_, _], _ => rfl
  have D_picture_at : ClX l.prog w K mg base 8 "picture_at" ["sheet", "moment"] (sp_picture_at K (fun i => [C0, C1, C2, C3, C4, C5, C6, C7, C8, C9, C10, C11, C12, C13, C14, C15].getD i 0)) := ⟨_, _, ok_picture_at F24 T TX  D_need_sheet D_need_moment, k24, b24, PySem.W.mg_of X G a24⟩
  have F25 := fun_mk (st := s_pictures_from) l25 c25 k25
  have b25 := F25.binds (ps := ["sheet", "moment", "many"]) fun _ _ _ _ _ _ us hl => match us, hl with | [_, _, _], _ => rfl
  have D_pictures_from : ClX l.prog w K mg base 8 "pictures_from" ["sheet", "moment", "many"] (sp_pictures_from K (fun i => [C0, C1, C2, C3, C4, C5, C6, C7, C8, C9, C10, C11, C12, C13, C14, C15].getD i 0)) := ⟨_, _, ok_pictures_from F25 T TX  D_need_sheet D_need_moment D_need_number, k25, b25, PySem.W.mg_of X G a25⟩
  have F26 := fun_mk (st := s_laid) l26 c26 k26
  have b26 := F26.binds (ps := ["layer", "many"]) fun _ _ _ _ _ _ us hl => match us, hl with | [_, _], _ => rfl
  have D_laid : ClX l.prog w K mg base 7 "laid" ["layer", "many"] (sp_laid K (fun i => [C0, C1, C2, C3, C4, C5, C6, C7, C8, C9, C10, C11, C12, C13, C14, C15].getD i 0)) := ⟨_, _, ok_laid F26 T TX  D_need_layer D_need_number, k26, b26, PySem.W.mg_of X G a26⟩
  have F27 := fun_mk (st := s_is_round) l27 c27 k27
  have b27 := F27.binds (ps := ["layer", "thing"]) fun _ _ _ _ _ _ us hl => match us, hl with | [_, _], _ => rfl
  have D_is_round : ClX l.prog w K mg base 7 "is_round" ["layer", "thing"] (sp_is_round K (fun i => [C0, C1, C2, C3, C4, C5, C6, C7, C8, C9, C10, C11, C12, C13, C14, C15].getD i 0)) := ⟨_, _, ok_is_round F27 T TX  D_need_layer, k27, b27, PySem.W.mg_of X G a27⟩
  have F28 := fun_mk (st := s_least_round) l28 c28 k28
  have b28 := F28.binds (ps := ["layer"]) fun _ _ _ _ _ _ us hl => match us, hl with | [_], _ => rfl
  have D_least_round : ClX l.prog w K mg base 7 "least_round" ["layer"] (sp_least_round K (fun i => [C0, C1, C2, C3, C4, C5, C6, C7, C8, C9, C10, C11, C12, C13, C14, C15].getD i 0)) := ⟨_, _, ok_least_round F28 T TX  D_need_layer, k28, b28, PySem.W.mg_of X G a28⟩
  have F29 := fun_mk (st := s_sheet_round) l29 c29 k29
  have b29 := F29.binds (ps := ["sheet"]) fun _ _ _ _ _ _ us hl => match us, hl with | [_], _ => rfl
  have D_sheet_round : ClX l.prog w K mg base 8 "sheet_round" ["sheet"] (sp_sheet_round K (fun i => [C0, C1, C2, C3, C4, C5, C6, C7, C8, C9, C10, C11, C12, C13, C14, C15].getD i 0)) := ⟨_, _, ok_sheet_round F29 T TX  D_need_sheet, k29, b29, PySem.W.mg_of X G a29⟩
  have F30 := fun_mk (st := s_parting) l30 c30 k30
  have b30 := F30.binds (ps := ["one", "other"]) fun _ _ _ _ _ _ us hl => match us, hl with | [_, _], _ => rfl
  have D_parting : ClX l.prog w K mg base 8 "parting" ["one", "other"] (sp_parting K (fun i => [C0, C1, C2, C3, C4, C5, C6, C7, C8, C9, C10, C11, C12, C13, C14, C15].getD i 0)) := ⟨_, _, ok_parting F30 T TX  D_need_sheet, k30, b30, PySem.W.mg_of X G a30⟩
  have F31 := fun_mk (st := s_are_alike) l31 c31 k31
  have b31 := F31.binds (ps := ["one", "other"]) fun _ _ _ _ _ _ us hl => match us, hl with | [_, _], _ => rfl
  have D_are_alike : ClX l.prog w K mg base 9 "are_alike" ["one", "other"] (sp_are_alike K (fun i => [C0, C1, C2, C3, C4, C5, C6, C7, C8, C9, C10, C11, C12, C13, C14, C15].getD i 0)) := ⟨_, _, ok_are_alike F31 T TX  D_parting, k31, b31, PySem.W.mg_of X G a31⟩
  have F32 := fun_mk (st := s__law_cell_at) l32 c32 k32
  have b32 := F32.binds (ps := ["_law_script", "_law_k"]) fun _ _ _ _ _ _ us hl => match us, hl with | [_, _], _ => rfl
  have D__law_cell_at : Cl l.prog w K mg base 1 "_law_cell_at" ["_law_script", "_law_k"] (sp__law_cell_at K) := ⟨_, _, ok__law_cell_at F32 T , k32, b32, PySem.W.mg_of X G a32⟩
  have F33 := fun_mk (st := s__law_state) l33 c33 k33
  have b33 := F33.binds (ps := ["_law_script", "_law_k"]) fun _ _ _ _ _ _ us hl => match us, hl with | [_, _], _ => rfl
  have D__law_state : Cl l.prog w K mg base 2 "_law_state" ["_law_script", "_law_k"] (sp__law_state K) := ⟨_, _, ok__law_state F33 T D__law_cell_at, k33, b33, PySem.W.mg_of X G a33⟩
  have F34 := fun_mk (st := s__law_take) l34 c34 k34
  have b34 := F34.binds (ps := ["_law_state_here", "_law_many"]) fun _ _ _ _ _ _ us hl => match us, hl with | [_, _], _ => rfl
  have D__law_take : Cl l.prog w K mg base 1 "_law_take" ["_law_state_here", "_law_many"] (sp__law_take K) := ⟨_, _, ok__law_take F34 T , k34, b34, PySem.W.mg_of X G a34⟩
  have F35 := fun_mk (st := s__law_odd) l35 c35 k35
  have b35 := F35.binds (ps := ["_law_state_here"]) fun _ _ _ _ _ _ us hl => match us, hl with | [_], _ => rfl
  have D__law_odd : Cl l.prog w K mg base 2 "_law_odd" ["_law_state_here"] (sp__law_odd K) := ⟨_, _, ok__law_odd F35 T D__law_take, k35, b35, PySem.W.mg_of X G a35⟩
  have F36 := fun_mk (st := s__law_row) l36 c36 k36
  have b36 := F36.binds (ps := ["_law_state_here", "_law_way"]) fun _ _ _ _ _ _ us hl => match us, hl with | [_, _], _ => rfl
  have D__law_row : Cl l.prog w K mg base 2 "_law_row" ["_law_state_here", "_law_way"] (sp__law_row K) := ⟨_, _, ok__law_row F36 T D__law_take, k36, b36, PySem.W.mg_of X G a36⟩
  have F37 := fun_mk (st := s__law_layer) l37 c37 k37
  have b37 := F37.binds (ps := ["_law_state_here"]) fun _ _ _ _ _ _ us hl => match us, hl with | [_], _ => rfl
  have D__law_layer : Cl l.prog w K mg base 3 "_law_layer" ["_law_state_here"] (sp__law_layer K) := ⟨_, _, ok__law_layer F37 T D__law_take D__law_row, k37, b37, PySem.W.mg_of X G a37⟩
  have F38 := fun_mk (st := s__law_window) l38 c38 k38
  have b38 := F38.binds (ps := ["_law_state_here"]) fun _ _ _ _ _ _ us hl => match us, hl with | [_], _ => rfl
  have D__law_window : Cl l.prog w K mg base 2 "_law_window" ["_law_state_here"] (sp__law_window K) := ⟨_, _, ok__law_window F38 T D__law_take, k38, b38, PySem.W.mg_of X G a38⟩
  have F39 := fun_mk (st := s__law_sheet) l39 c39 k39
  have b39 := F39.binds (ps := ["_law_state_here"]) fun _ _ _ _ _ _ us hl => match us, hl with | [_], _ => rfl
  have D__law_sheet : Cl l.prog w K mg base 4 "_law_sheet" ["_law_state_here"] (sp__law_sheet K) := ⟨_, _, ok__law_sheet F39 T D__law_window D__law_layer D__law_take, k39, b39, PySem.W.mg_of X G a39⟩
  have F40 := fun_mk (st := s__law_bad) l40 c40 k40
  have b40 := F40.binds (ps := ["_law_state_here", "_law_kind", "_law_good"]) fun _ _ _ _ _ _ us hl => match us, hl with | [_, _, _], _ => rfl
  have D__law_bad : Cl l.prog w K mg base 3 "_law_bad" ["_law_state_here", "_law_kind", "_law_good"] (sp__law_bad K) := ⟨_, _, ok__law_bad F40 T D__law_odd D__law_take, k40, b40, PySem.W.mg_of X G a40⟩
  have F41 := fun_mk (st := s__law_call) l41 c41 k41
  have b41 := F41.binds (ps := ["_law_name", "_law_some"]) fun _ _ _ _ _ _ us hl => match us, hl with | [_, _], _ => rfl
  have D__law_call : ClX l.prog w K mg base 10 "_law_call" ["_law_name", "_law_some"] (sp__law_call K (fun i => [C0, C1, C2, C3, C4, C5, C6, C7, C8, C9, C10, C11, C12, C13, C14, C15].getD i 0)) := ⟨_, _, ok__law_call F41 T TX  D_is_round D_pictures_from D_layer_length D_window_length D_sheet_length D_least_round D_sheet_round D_drawing_at D_place_at D_picture_at D_laid D_parting D_are_alike, k41, b41, PySem.W.mg_of X G a41⟩
  have F42 := funC_mk (st := s__law_right) l42 c42
  have F42b := fun_mk (st := s__law_right) l42 c42 k42
  have b42 := F42b.binds (ps := ["_law_state_here", "_law_name", "_law_kinds", "_law_good"]) fun _ _ _ _ _ _ us hl => match us, hl with | [_, _, _, _], _ => rfl
  have MR42 : Mkr base mg cc42 PP42 "_law_right" [(PP42, qLam "_law_right")] := ⟨tb (cc42, PP42) (by simp), by simp, fun p hp e => by
    simp only [List.mem_cons, List.not_mem_nil, or_false] at hp
    rcases hp with rfl
    · rfl⟩
  have D__law_right : ClG l.prog w K mg base 13 "_law_right" ["_law_state_here", "_law_name", "_law_kinds", "_law_good"] (sp__law_right K [(PP42, qLam "_law_right")]) := ⟨_, _, ok__law_right F42 T TX MR42 F0 (PySem.W.mg_of X G a0) b0 DM D__law_take D__law_bad D__law_call, k42, b42, PySem.W.mg_of X G a42⟩
  have F43 := fun_mk (st := s_law) l43 c43 k43
  exact ok_law F43 T D__law_state D__law_layer D__law_window D__law_sheet D__law_take D__law_right

end Lan
open PySem PySem.W PyProof.Rows
set_option maxRecDepth 100000 in
set_option maxHeartbeats 0 in
theorem PySem.Challenge.cw_lanternrows_k14_refusals_of_the_first_st_holds : PySem.Challenge.rw_lanternrows_k14_refusals_of_the_first_st.Holds := by
  w_on; o_law; k_head; (case hw => w_witness2)
  k_fill
  refine Lan.walk_ofLG (l := PySem.Challenge.rw_lanternrows_k14_refusals_of_the_first_st) (n := 63) (k := 14) (x := "_law_script") rfl (by decide) rfl ⟨rfl, by decide, by decide⟩ (fun w h Y => PySem.W.km_in_of Y) ?F
  case F =>
    intro w mg fa h KX G hmg TQ
    refine' Lan.all_mk KX G hmg TQ ?a0 ?l0 ?c0 ?k0 ?a1 ?l1 ?c1 ?k1 ?a2 ?l2 ?c2 ?k2 ?a3 ?l3 ?c3 ?k3 ?a4 ?l4 ?c4 ?k4 ?a5 ?l5 ?c5 ?k5 ?a6 ?l6 ?c6 ?k6 ?a7 ?l7 ?c7 ?k7 ?a8 ?l8 ?c8 ?k8 ?a9 ?l9 ?c9 ?k9 ?a10 ?l10 ?c10 ?k10 ?a11 ?l11 ?c11 ?k11 ?a12 ?l12 ?c12 ?k12 ?a13 ?l13 ?c13 ?k13 ?a14 ?l14 ?c14 ?k14 ?a15 ?l15 ?c15 ?k15 ?a16 ?l16 ?c16 ?k16 ?a17 ?l17 ?c17 ?k17 ?a18 ?l18 ?c18 ?k18 ?a19 ?l19 ?c19 ?k19 ?a20 ?l20 ?c20 ?k20 ?a21 ?l21 ?c21 ?k21 ?a22 ?l22 ?c22 ?k22 ?a23 ?l23 ?c23 ?k23 ?a24 ?l24 ?c24 ?k24 ?a25 ?l25 ?c25 ?k25 ?a26 ?l26 ?c26 ?k26 ?a27 ?l27 ?c27 ?k27 ?a28 ?l28 ?c28 ?k28 ?a29 ?l29 ?c29 ?k29 ?a30 ?l30 ?c30 ?k30 ?a31 ?l31 ?c31 ?k31 ?a32 ?l32 ?c32 ?k32 ?a33 ?l33 ?c33 ?k33 ?a34 ?l34 ?c34 ?k34 ?a35 ?l35 ?c35 ?k35 ?a36 ?l36 ?c36 ?k36 ?a37 ?l37 ?c37 ?k37 ?a38 ?l38 ?c38 ?k38 ?a39 ?l39 ?c39 ?k39 ?a40 ?l40 ?c40 ?k40 ?a41 ?l41 ?c41 ?k41 ?a42 ?l42 ?c42 ?k42 ?lc42 ?v1142 ?tq42 ?tt42 ?tn42 ?a43 ?l43 ?c43 ?k43 ?z_ValueError ?z_len ?z_isinstance ?z_max ?z_min ?z_sum ?z_all ?z_tuple ?z_list ?z_abs ?z_range ?z_zip ?z_enumerate ?z_bool ?z_int ?z_repr ?z_sorted ?z_set ?v_LAST_MOMENT ?v_MOST_DRAWING ?v_MOST_HOLD ?v_MOST_ROWS ?v_MOST_WAY ?v_MOST_MANY ?v_MOST_MOVES ?v_MOST_LAYERS ?v_MOST_PICTURES ?x0 ?x1 ?x2 ?x3 ?x4 ?x5 ?x6 ?x7 ?x8 ?x9 ?x10 ?x11 ?x12 ?x13 ?x14 ?x15 ?xL ?xb ?nm1 ?nm2 ?nm3
    (case a0 => k_is)
    (case l0 => k_is)
    (case c0 => k_is)
    (case k0 => k_is)
    (case a1 => k_is)
    (case l1 => k_is)
    (case c1 => k_is)
    (case k1 => k_is)
    (case a2 => k_is)
    (case l2 => k_is)
    (case c2 => k_is)
    (case k2 => k_is)
    (case a3 => k_is)
    (case l3 => k_is)
    (case c3 => k_is)
    (case k3 => k_is)
    (case a4 => k_is)
    (case l4 => k_is)
    (case c4 => k_is)
    (case k4 => k_is)
    (case a5 => k_is)
    (case l5 => k_is)
    (case c5 => k_is)
    (case k5 => k_is)
    (case a6 => k_is)
    (case l6 => k_is)
    (case c6 => k_is)
    (case k6 => k_is)
    (case a7 => k_is)
    (case l7 => k_is)
    (case c7 => k_is)
    (case k7 => k_is)
    (case a8 => k_is)
    (case l8 => k_is)
    (case c8 => k_is)
    (case k8 => k_is)
    (case a9 => k_is)
    (case l9 => k_is)
    (case c9 => k_is)
    (case k9 => k_is)
    (case a10 => k_is)
    (case l10 => k_is)
    (case c10 => k_is)
    (case k10 => k_is)
    (case a11 => k_is)
    (case l11 => k_is)
    (case c11 => k_is)
    (case k11 => k_is)
    (case a12 => k_is)
    (case l12 => k_is)
    (case c12 => k_is)
    (case k12 => k_is)
    (case a13 => k_is)
    (case l13 => k_is)
    (case c13 => k_is)
    (case k13 => k_is)
    (case a14 => k_is)
    (case l14 => k_is)
    (case c14 => k_is)
    (case k14 => k_is)
    (case a15 => k_is)
    (case l15 => k_is)
    (case c15 => k_is)
    (case k15 => k_is)
    (case a16 => k_is)
    (case l16 => k_is)
    (case c16 => k_is)
    (case k16 => k_is)
    (case a17 => k_is)
    (case l17 => k_is)
    (case c17 => k_is)
    (case k17 => k_is)
    (case a18 => k_is)
    (case l18 => k_is)
    (case c18 => k_is)
    (case k18 => k_is)
    (case a19 => k_is)
    (case l19 => k_is)
    (case c19 => k_is)
    (case k19 => k_is)
    (case a20 => k_is)
    (case l20 => k_is)
    (case c20 => k_is)
    (case k20 => k_is)
    (case a21 => k_is)
    (case l21 => k_is)
    (case c21 => k_is)
    (case k21 => k_is)
    (case a22 => k_is)
    (case l22 => k_is)
    (case c22 => k_is)
    (case k22 => k_is)
    (case a23 => k_is)
    (case l23 => k_is)
    (case c23 => k_is)
    (case k23 => k_is)
    (case a24 => k_is)
    (case l24 => k_is)
    (case c24 => k_is)
    (case k24 => k_is)
    (case a25 => k_is)
    (case l25 => k_is)
    (case c25 => k_is)
    (case k25 => k_is)
    (case a26 => k_is)
    (case l26 => k_is)
    (case c26 => k_is)
    (case k26 => k_is)
    (case a27 => k_is)
    (case l27 => k_is)
    (case c27 => k_is)
    (case k27 => k_is)
    (case a28 => k_is)
    (case l28 => k_is)
    (case c28 => k_is)
    (case k28 => k_is)
    (case a29 => k_is)
    (case l29 => k_is)
    (case c29 => k_is)
    (case k29 => k_is)
    (case a30 => k_is)
    (case l30 => k_is)
    (case c30 => k_is)
    (case k30 => k_is)
    (case a31 => k_is)
    (case l31 => k_is)
    (case c31 => k_is)
    (case k31 => k_is)
    (case a32 => k_is)
    (case l32 => k_is)
    (case c32 => k_is)
    (case k32 => k_is)
    (case a33 => k_is)
    (case l33 => k_is)
    (case c33 => k_is)
    (case k33 => k_is)
    (case a34 => k_is)
    (case l34 => k_is)
    (case c34 => k_is)
    (case k34 => k_is)
    (case a35 => k_is)
    (case l35 => k_is)
    (case c35 => k_is)
    (case k35 => k_is)
    (case a36 => k_is)
    (case l36 => k_is)
    (case c36 => k_is)
    (case k36 => k_is)
    (case a37 => k_is)
    (case l37 => k_is)
    (case c37 => k_is)
    (case k37 => k_is)
    (case a38 => k_is)
    (case l38 => k_is)
    (case c38 => k_is)
    (case k38 => k_is)
    (case a39 => k_is)
    (case l39 => k_is)
    (case c39 => k_is)
    (case k39 => k_is)
    (case a40 => k_is)
    (case l40 => k_is)
    (case c40 => k_is)
    (case k40 => k_is)
    (case a41 => k_is)
    (case l41 => k_is)
    (case c41 => k_is)
    (case k41 => k_is)
    (case a42 => k_is)
    (case l42 => k_is)
    (case c42 => k_is)
    (case k42 => k_is)
    (case lc42 => k_is)
    (case v1142 => rfl)
    (case tq42 => kernel_rfl)
    (case tt42 => kernel_rfl)
    (case tn42 => kernel_rfl)
    (case a43 => k_is)
    (case l43 => k_is)
    (case c43 => k_is)
    (case k43 => k_is)
    (case z_ValueError => k_is)
    (case z_len => k_is)
    (case z_isinstance => k_is)
    (case z_max => k_is)
    (case z_min => k_is)
    (case z_sum => k_is)
    (case z_all => k_is)
    (case z_tuple => k_is)
    (case z_list => k_is)
    (case z_abs => k_is)
    (case z_range => k_is)
    (case z_zip => k_is)
    (case z_enumerate => k_is)
    (case z_bool => k_is)
    (case z_int => k_is)
    (case z_repr => k_is)
    (case z_sorted => k_is)
    (case z_set => k_is)
    (case v_LAST_MOMENT => k_is)
    (case v_MOST_DRAWING => k_is)
    (case v_MOST_HOLD => k_is)
    (case v_MOST_ROWS => k_is)
    (case v_MOST_WAY => k_is)
    (case v_MOST_MANY => k_is)
    (case v_MOST_MOVES => k_is)
    (case v_MOST_LAYERS => k_is)
    (case v_MOST_PICTURES => k_is)
    (case x0 => k_is)
    (case x1 => k_is)
    (case x2 => k_is)
    (case x3 => k_is)
    (case x4 => k_is)
    (case x5 => k_is)
    (case x6 => k_is)
    (case x7 => k_is)
    (case x8 => k_is)
    (case x9 => k_is)
    (case x10 => k_is)
    (case x11 => k_is)
    (case x12 => k_is)
    (case x13 => k_is)
    (case x14 => k_is)
    (case x15 => k_is)
    (case xL => k_is)
    (case xb => kernel_rfl)
    (case nm1 => k_is)
    (case nm2 => k_is)
    (case nm3 => k_is)
