import PyProof.Rows.All
import Wide.All
import OpenK.AllK
import Wide.FinOn
import HandS.ForMost
import HandS.IsInst
import HandS.TupAny
import HandS.TupMul
import HandS.Conv
import HandS.Style
import HandS.Flow
import HandS.Codes
import PySem.Challenge.RW_lanternrows_k03_lengths_told
set_option Elab.async false
set_option linter.all false
set_option maxRecDepth 100000
set_option maxHeartbeats 4000000
namespace Lan
open PySem PySem.Spec PyProof.Rows L2
/-! ### short rules -/
def bkV : Option Int → V
  | none => .non
  | some i => .int i
structure Cl (P : Program) (w : World) (K : PySem.W.Frag) (mg : Str → Option Value) (base : Heap) (k : Nat) (x : Str) (ps : List Str) (sp : Sp) : Prop where
  ex : ∃ (f : Addr) (fd : FuncData), FnOk P w K mg base CX0 k f fd ps sp ∧ PySem.W.keepIn K (.ref f) = true ∧ Binds K fd ps [] ∧ mg x = some (.ref f)
section
variable {X : Cx}
theorem pe_gint {x : Str} {pos : Pos} {n : Int} (hg : Gl X x) (h : ∃ t, X.mg x = some (.int n t)) (hd : (x == ("__debug__" : Str)) = false := by decide) : PE X (.Name x pos) (tC (.int n)) := by
  obtain ⟨t, h⟩ := h
  exact pe_glob hg h ⟨_, rfl⟩ hd
theorem pe_own {k : Nat} {x : Str} {ps : List Str} {sp : Sp} {e : Expr} {es : List Expr} {t : TA} {p pos : Pos} (C : Cl X.prog X.w X.K X.mg X.base k x ps sp) (hr : Room k X.A) (hg : Gl X x) (ha : PA X (e :: es) t)
    (hdb : (x == ("__debug__" : Str)) = false := by decide) (he : starEach (e :: es) X.env = (false, eval e X.env) :: starEach es X.env := by rfl) (hpl : (backTo pos (starEach es X.env)).any (·.1) = false := by rfl) :
    PE X (.Call (.Name x p) (e :: es) [] pos) (tCall sp [] E0 t) := by
  obtain ⟨f, fd, F, hk, hb, hm⟩ := C.ex
  exact pe_call F hr hg hm hk hb .nil pass0 ha hdb he hpl
def tPartN (t : TE) : TO := fun σ H Q => t σ H fun x H1 => ∃ o : Option Int, x = bkV o ∧ Q o H1
theorem po_opt {e : Expr} {te : TE} (h : PE X e te) : PO X (some e) (tPartN te) := by
  refine ⟨fun pins s σ H Q I hw => ?_⟩
  rw [evalPart_some]
  refine thn (h.run pins s σ H _ I hw) fun u s1 ⟨x, H1, I1, r1, q1⟩ => ?_
  obtain ⟨o, rfl, q⟩ := q1
  cases o with
  | none =>
    cases r1
    exact ⟨none, H1, I1, .none, q⟩
  | some i =>
    obtain ⟨t, rfl⟩ := r1
    exact ⟨some i, H1, I1, .int i t, q⟩
end
/-! ### heaps -/
theorem same_upd {H : Hp} {p : Addr} {o : HO} (h : H p = none) : Same H (upd H p o) := fun b x e => by
  rw [upd_ne (ne_of_none e h)]
  exact e
theorem new_at {H : Hp} {p : Addr} (o : HO) (h : H p = none) : Same H (upd H p o) ∧ (upd H p o) p = some o := ⟨same_upd h, upd_same⟩
theorem Same.sqT {K : PySem.W.Frag} {H H' : Hp} {a : Addr} {xs : List V} (e : Same H H') (h : SqT K H a xs) : SqT K H' a xs := by
  rcases h with (h | ⟨o, h⟩) | h
  · exact .inl (.inl (e _ _ h))
  · exact .inl (.inr ⟨o, e _ _ h⟩)
  · exact .inr h
def IsSt (H : Hp) (st : Addr) : Prop := ∃ a b : Int, H st = some (.lst [.int a, .int b]) ∧ 0 ≤ a ∧ 0 ≤ b ∧ b < 2147483647
/-- all but the state at st stands, and st holds a state as before -/
def Gr (st : Addr) (H H' : Hp) : Prop := (∀ b o, b ≠ st → H b = some o → H' b = some o) ∧ (IsSt H st → IsSt H' st)
theorem Gr.refl {st : Addr} {H : Hp} : Gr st H H := ⟨fun _ _ _ h => h, id⟩
theorem Gr.trans {st : Addr} {H H1 H2 : Hp} (a : Gr st H H1) (b : Gr st H1 H2) : Gr st H H2 := ⟨fun c o n h => b.1 c o n (a.1 c o n h), fun h => b.2 (a.2 h)⟩
theorem gr_same {st : Addr} {H H' : Hp} (s : Same H H') : Gr st H H' := ⟨fun b o _ h => s b o h, fun ⟨a, b, h, r⟩ => ⟨a, b, s _ _ h, r⟩⟩
theorem gr_set {st : Addr} {H : Hp} {a b : Int} (h0 : 0 ≤ a) (h1 : 0 ≤ b) (h2 : b < 2147483647) : Gr st H (upd H st (.lst [.int a, .int b])) :=
  ⟨fun c o n h => by rw [upd_ne n]; exact h, fun _ => ⟨a, b, upd_same, h0, h1, h2⟩⟩
theorem Gr.sqT {st : Addr} {K : PySem.W.Frag} {H H' : Hp} {a : Addr} {xs : List V} (g : Gr st H H') (s : IsSt H st) (h : SqT K H a xs) : SqT K H' a xs := by
  obtain ⟨u, v, hs, _⟩ := s
  rcases h with (h | ⟨o, h⟩) | h
  · exact .inl (.inl (g.1 _ _ (ne_of h hs (by intro z; cases z)) h))
  · exact .inl (.inr ⟨o, g.1 _ _ (ne_of h hs (by intro z; cases z)) h⟩)
  · exact .inr h
/-- behind a state that was not there before -/
theorem Gr.same {st : Addr} {H H1 H2 : Hp} (g : Gr st H1 H2) (s : Same H H1) (n : H st = none) : Same H H2 := fun b o h => g.1 b o (ne_of_none h n) (s b o h)
theorem tyT {K : PySem.W.Frag} {H : Hp} {a : Addr} {xs : List V} (h : SqT K H a xs) : TyX K H (.ref a) (.type "tuple") := by
  rcases h with (h | ⟨o, h⟩) | ⟨o, its, n, h, c, _⟩
  · exact .base (.tup h)
  · exact .fTuple h
  · exact .kTuple h c
theorem yes_ok {σ : L2.St} {H : Hp} {te : TE} {R : VK} {Z : Hp → Prop} (h : te σ H R) : tYes σ H (fun b H3 => if b = true then te σ H3 R else Z H3) := by
  show if true = true then te σ H R else Z H
  rw [if_pos rfl]
  exact h
/-! ### comprehensions that make one value an item and leave the heap -/
theorem lcmap_tup {K : PySem.W.Frag} {a : Addr} {xs : List V} {g : TG} {tt : TT} {te : TE} {vs : List Nat} {σ : L2.St} {H1 : Hp} {D : Addr} {Qd : Hp → Prop} (ys : List V) (hl : ys.length = xs.length) (hz : xs.length ≤ 1000) (hS : SqT K H1 a xs) (hD : H1 D = none)
    (hs : ∀ (i : Nat) (x y : V) (H : Hp) (R : V → Hp → Prop) (Z : Hp → Prop), xs[i]? = some x → ys[i]? = some y → Same H1 H → (∀ H4, Same H H4 → R y H4) → g x (wipe σ vs) H fun σ2 H2 => wipe σ2 vs = wipe σ vs ∧ tt σ2 H2 fun b H3 => if b = true then te σ2 H3 R else Z H3)
    (hd : ∀ H, Same H1 H → H D = some (.lst ys) → Qd H) :
    ∃ W : Nat → Nat → Hp → Prop, (∃ m, W 0 m (upd H1 D (.lst []))) ∧ ∀ i m H, W i m H →
      ((Itt K a).stop i H ∧ Qd H) ∨ ((Itt K a).go i H ∧ ∃ Nx : Hp → Prop, (∀ H', Nx H' → ∃ m', m' < m ∧ W (i + 1) m' H') ∧ ∀ x H', (Itt K a).yld i H x H' → g x (wipe σ vs) H' fun σ2 H2 => wipe σ2 vs = wipe σ vs ∧ tt σ2 H2 fun b H3 =>
        if b = true then te σ2 H3 fun y H4 => ∃ acc, H4 D = some (.lst acc) ∧ acc.length < sizeLine ∧ Nx (upd H4 D (.lst (acc ++ [y]))) else Nx H3) := by
  refine lc_tup (K := K) (a := a) (xs := xs) (fun i H => Same H1 H ∧ H D = some (.lst (ys.take i))) ⟨same_upd hD, upd_same⟩ (fun i H _ p => Same.sqT p.1 hS) (fun i x H hx p => ?_) (fun H p => ?_)
  · have hi : i < xs.length := (List.getElem?_eq_some_iff.mp hx).1
    obtain ⟨y, hy⟩ : ∃ y, ys[i]? = some y := ⟨_, List.getElem?_eq_getElem (by omega)⟩
    refine hs i x y H _ _ hx hy p.1 (fun H4 s4 => ⟨ys.take i, s4 _ _ p.2, ?_, ?_, ?_⟩)
    · rw [List.length_take]
      exact Nat.lt_of_le_of_lt (Nat.min_le_left _ _) (small1000 (by omega))
    · intro b o e
      rw [upd_ne (ne_of_none e hD)]
      exact s4 _ _ (p.1 _ _ e)
    · rw [upd_same, List.take_add_one, hy]
      rfl
  · refine hd H p.1 ?_
    rw [p.2, List.take_of_length_le (by omega)]
/-! ### paired lists -/
theorem Paired.mono {α β : Type} {F G : α → β → Prop} {l₁ : List α} {l₂ : List β} (p : Paired F l₁ l₂) (f : ∀ a b, F a b → G a b) : Paired G l₁ l₂ := Paired.mapP p f
theorem Paired.takeP {α β : Type} {F : α → β → Prop} : ∀ {l₁ : List α} {l₂ : List β} (n : Nat), Paired F l₁ l₂ → Paired F (l₁.take n) (l₂.take n)
  | _, _, 0, _ => .nil
  | _, _, _ + 1, .nil => .nil
  | _, _, n + 1, .cons r t => .cons r (Paired.takeP n t)
theorem Paired.dropP {α β : Type} {F : α → β → Prop} : ∀ {l₁ : List α} {l₂ : List β} (n : Nat), Paired F l₁ l₂ → Paired F (l₁.drop n) (l₂.drop n)
  | _, _, 0, p => p
  | _, _, _ + 1, .nil => .nil
  | _, _, n + 1, .cons _ t => Paired.dropP n t
theorem Paired.at {α β : Type} {F : α → β → Prop} : ∀ {l₁ : List α} {l₂ : List β} {i : Nat} {x : α}, Paired F l₁ l₂ → l₁[i]? = some x → ∃ y, l₂[i]? = some y ∧ F x y
  | _, _, i, x, .nil, h => by simp at h
  | _, _, 0, x, .cons (a := a) r t, h => by
    have e : _ = x := Option.some.inj h
    subst e
    exact ⟨_, rfl, r⟩
  | _, _, i + 1, x, .cons r t, h => Paired.at (i := i) t h
theorem Paired.at2 {α β : Type} {F : α → β → Prop} : ∀ {l₁ : List α} {l₂ : List β} {i : Nat} {y : β}, Paired F l₁ l₂ → l₂[i]? = some y → ∃ x, l₁[i]? = some x ∧ F x y
  | _, _, i, y, .nil, h => by simp at h
  | _, _, 0, y, .cons r t, h => by
    have e : _ = y := Option.some.inj h
    subst e
    exact ⟨_, rfl, r⟩
  | _, _, i + 1, y, .cons r t, h => Paired.at2 (i := i) t h
theorem Paired.snocP {α β : Type} {F : α → β → Prop} : ∀ {l₁ : List α} {l₂ : List β} {x : α} {y : β}, Paired F l₁ l₂ → F x y → Paired F (l₁ ++ [x]) (l₂ ++ [y])
  | _, _, _, _, .nil, h => .cons h .nil
  | _, _, _, _, .cons r t, h => .cons r (Paired.snocP t h)
/-! ### rows, layers as they lie in the heap -/
abbrev RW := Int × Int
def RowAt (K : PySem.W.Frag) (H : Hp) (v : V) (r : RW) : Prop := ∃ p, v = .ref p ∧ SqT K H p [.int r.1, .int r.2]
def RowsAt (K : PySem.W.Frag) (H : Hp) (v : V) (rs : List RW) : Prop := ∃ p vs, v = .ref p ∧ SqT K H p vs ∧ Paired (RowAt K H) vs rs
def LayAt (K : PySem.W.Frag) (H : Hp) (v : V) (rs : List RW) (bk : Option Int) : Prop := ∃ p rv, v = .ref p ∧ SqT K H p [rv, bkV bk] ∧ RowsAt K H rv rs
def VRow (r : RW) : Prop := 0 ≤ r.1 ∧ r.1 ≤ 9 ∧ 1 ≤ r.2 ∧ r.2 ≤ 24
def VRows (rs : List RW) : Prop := rs.length ≤ 8 ∧ ∀ r ∈ rs, VRow r
def VBack (rs : List RW) (bk : Option Int) : Prop := ∀ i, bk = some i → 0 ≤ i ∧ i < rs.length
abbrev TKeep (K : PySem.W.Frag) (H H' : Hp) : Prop := ∀ a xs, SqT K H a xs → SqT K H' a xs
theorem Same.tk {K : PySem.W.Frag} {H H' : Hp} (s : Same H H') : TKeep K H H' := fun _ _ h => Same.sqT s h
theorem Gr.tk {st : Addr} {K : PySem.W.Frag} {H H' : Hp} (g : Gr st H H') (s : IsSt H st) : TKeep K H H' := fun _ _ h => g.sqT s h
theorem RowAt.keep {K : PySem.W.Frag} {H H' : Hp} {v : V} {r : RW} (k : TKeep K H H') : RowAt K H v r → RowAt K H' v r := fun ⟨p, e, h⟩ => ⟨p, e, k _ _ h⟩
theorem RowsAt.keep {K : PySem.W.Frag} {H H' : Hp} {v : V} {rs : List RW} (k : TKeep K H H') : RowsAt K H v rs → RowsAt K H' v rs := fun ⟨p, vs, e, h, q⟩ => ⟨p, vs, e, k _ _ h, Paired.mono q fun _ _ => RowAt.keep k⟩
theorem LayAt.keep {K : PySem.W.Frag} {H H' : Hp} {v : V} {rs : List RW} {bk : Option Int} (k : TKeep K H H') : LayAt K H v rs bk → LayAt K H' v rs bk := fun ⟨p, rv, e, h, q⟩ => ⟨p, rv, e, k _ _ h, q.keep k⟩

/-! ### what a layer shows -/
def tot (rs : List RW) : Int := (rs.map (·.2)).sum
theorem tot_nil : tot [] = 0 := rfl
theorem tot_cons (r : RW) (rs : List RW) : tot (r :: rs) = r.2 + tot rs := by
  unfold tot
  rw [List.map_cons, List.sum_cons]
theorem tot_append (rs qs : List RW) : tot (rs ++ qs) = tot rs + tot qs := by
  induction rs with
  | nil => simp [tot_nil]
  | cons r t ih =>
    rw [List.cons_append, tot_cons, tot_cons, ih]
    omega
theorem tot_split (rs : List RW) (k : Nat) : tot rs = tot (rs.take k) + tot (rs.drop k) := by
  rw [← tot_append, List.take_append_drop]
theorem tot_nonneg : ∀ {rs : List RW}, (∀ r ∈ rs, VRow r) → (rs.length : Int) ≤ tot rs ∧ tot rs ≤ 24 * rs.length
  | [], _ => by
    rw [tot_nil]
    exact ⟨Int.le_refl _, Int.le_refl _⟩
  | r :: t, h => by
    have h1 := h r (List.mem_cons_self ..)
    have ih := tot_nonneg (rs := t) fun q hq => h q (List.mem_cons_of_mem _ hq)
    rw [tot_cons, List.length_cons]
    obtain ⟨_, _, h3, h4⟩ := h1
    obtain ⟨i1, i2⟩ := ih
    constructor <;> omega
def walk : List RW → Int → Int
  | [], _ => 0
  | r :: t, m => if m < r.2 then r.1 else walk t (m - r.2)
def near (rs : List RW) (bk : Option Int) (m : Int) : Int := match bk with
  | none => m
  | some b => if m < tot (rs.take b.toNat) then m else tot (rs.take b.toNat) + (m - tot (rs.take b.toNat)) % tot (rs.drop b.toNat)
def shown (rs : List RW) (bk : Option Int) (m : Int) : Int := walk rs (near rs bk m)
theorem walk_out : ∀ (rs : List RW) (m : Int), tot rs ≤ m → (∀ r ∈ rs, VRow r) → walk rs m = 0
  | [], _, _, _ => rfl
  | r :: t, m, h, v => by
    have v1 := v r (List.mem_cons_self ..)
    have vt : ∀ q ∈ t, VRow q := fun q hq => v q (List.mem_cons_of_mem _ hq)
    have t0 := (tot_nonneg vt).1
    rw [tot_cons] at h
    unfold walk
    rw [if_neg (by omega)]
    exact walk_out t _ (by omega) vt
theorem walk_at : ∀ (rs : List RW) (p : Nat) (r : RW) (j : Int), rs[p]? = some r → (∀ r ∈ rs, VRow r) → 0 ≤ j → j < r.2 → walk rs (tot (rs.take p) + j) = r.1
  | [], p, r, j, h, _, _, _ => by simp at h
  | q :: t, 0, r, j, h, _, h0, h1 => by
    have e : q = r := Option.some.inj h
    subst e
    rw [List.take_zero, tot_nil]
    unfold walk
    rw [if_pos (by omega)]
  | q :: t, p + 1, r, j, h, v, h0, h1 => by
    have vq := v q (List.mem_cons_self ..)
    have vt : ∀ q ∈ t, VRow q := fun q hq => v q (List.mem_cons_of_mem _ hq)
    have tp : 0 ≤ tot (t.take p) := by
      have := (tot_nonneg (rs := t.take p) fun q hq => vt q (List.mem_of_mem_take hq)).1
      omega
    rw [List.take_succ_cons, tot_cons]
    unfold walk
    rw [if_neg (by omega), show q.2 + tot (t.take p) + j - q.2 = tot (t.take p) + j by omega]
    exact walk_at t p r j h vt h0 h1
theorem tot_take_le {rs : List RW} (v : ∀ r ∈ rs, VRow r) {p : Nat} {r : RW} (h : rs[p]? = some r) : tot (rs.take p) + r.2 ≤ tot rs := by
  have hp : p < rs.length := (List.getElem?_eq_some_iff.mp h).1
  have e : rs.take (p + 1) = rs.take p ++ [r] := by
    rw [List.take_add_one, h]
    rfl
  have s := tot_split rs (p + 1)
  rw [e, tot_append] at s
  have e1 : tot [r] = r.2 := by
    rw [tot_cons, tot_nil]
    omega
  have := (tot_nonneg (rs := rs.drop (p + 1)) fun q hq => v q (List.mem_of_mem_drop hq)).1
  omega
/-- the j-th picture of the row p, behind k more rounds -/
theorem shown_at {rs : List RW} {bk : Option Int} (v : ∀ r ∈ rs, VRow r) (vb : VBack rs bk) {p k : Nat} {r : RW} {j c : Int} (h : rs[p]? = some r) (h0 : 0 ≤ j) (h1 : j < r.2)
    (hc : ∀ b, bk = some b → c = tot (rs.drop b.toNat)) (hk : 0 < k → ∃ b, bk = some b ∧ b ≤ p) : shown rs bk (tot (rs.take p) + k * c + j) = r.1 := by
  have w := walk_at rs p r j h v h0 h1
  have tp : 0 ≤ tot (rs.take p) := by
    have := (tot_nonneg (rs := rs.take p) fun q hq => v q (List.mem_of_mem_take hq)).1
    omega
  unfold shown near
  cases bk with
  | none =>
    have k0 : k = 0 := by
      rcases Nat.eq_zero_or_pos k with z | z
      · exact z
      · obtain ⟨b, e, _⟩ := hk z
        cases e
    subst k0
    dsimp only
    rw [show tot (rs.take p) + ((0 : Nat) : Int) * c + j = tot (rs.take p) + j by simp]
    exact w
  | some b =>
    have hb := vb b rfl
    have ec := hc b rfl
    have s := tot_split rs b.toNat
    have le := tot_take_le v h
    rw [← ec] at s
    dsimp only
    rw [← ec]
    have cpos : 0 < c := by
      have := (tot_nonneg (rs := rs.drop b.toNat) fun q hq => v q (List.mem_of_mem_drop hq)).1
      rw [← ec, List.length_drop] at this
      omega
    rcases Nat.eq_zero_or_pos k with z | z
    · subst z
      rw [show tot (rs.take p) + ((0 : Nat) : Int) * c + j = tot (rs.take p) + j by simp]
      by_cases hm : tot (rs.take p) + j < tot (rs.take b.toNat)
      · rw [if_pos hm]
        exact w
      · rw [if_neg hm, Int.emod_eq_of_lt (by omega) (by omega)]
        rw [show tot (rs.take b.toNat) + (tot (rs.take p) + j - tot (rs.take b.toNat)) = tot (rs.take p) + j by omega]
        exact w
    · obtain ⟨b', e, hbp⟩ := hk z
      have e' : b = b' := Option.some.inj e
      subst e'
      have bp : b.toNat ≤ p := by omega
      have tb : tot (rs.take b.toNat) ≤ tot (rs.take p) := by
        have e1 : rs.take b.toNat = (rs.take p).take b.toNat := by
          rw [List.take_take, Nat.min_eq_left bp]
        have s1 := tot_split (rs.take p) b.toNat
        rw [← e1] at s1
        have := (tot_nonneg (rs := (rs.take p).drop b.toNat) fun q hq => v q (List.mem_of_mem_take (List.mem_of_mem_drop hq))).1
        omega
      have kc : 0 ≤ (k : Int) * c := Int.mul_nonneg (by omega) (by omega)
      rw [if_neg (by omega)]
      rw [show tot (rs.take p) + (k : Int) * c + j - tot (rs.take b.toNat) = (tot (rs.take p) + j - tot (rs.take b.toNat)) + c * k by rw [Int.mul_comm c]; omega, Int.add_mul_emod_self_left, Int.emod_eq_of_lt (by omega) (by omega)]
      rw [show tot (rs.take b.toNat) + (tot (rs.take p) + j - tot (rs.take b.toNat)) = tot (rs.take p) + j by omega]
      exact w
theorem shown_end {rs : List RW} (v : ∀ r ∈ rs, VRow r) {m : Int} (h : tot rs ≤ m) : shown rs none m = 0 := walk_out rs m h v
/-- a great moment is as the one so many whole rounds ahead -/
theorem shown_far {rs : List RW} {bk : Option Int} (v : ∀ r ∈ rs, VRow r) (vb : VBack rs bk) {m s : Int} (hs : s = match bk with | none => 1 | some b => tot (rs.drop b.toNat)) (h : tot rs ≤ m) :
    shown rs bk (tot rs + (m - tot rs) % s) = shown rs bk m := by
  cases bk with
  | none =>
    dsimp only at hs
    subst hs
    rw [shown_end v h, shown_end v (by omega)]
  | some b =>
    dsimp only at hs
    have hb := vb b rfl
    have e := tot_split rs b.toNat
    have spos : 0 < s := by
      have := (tot_nonneg (rs := rs.drop b.toNat) fun q hq => v q (List.mem_of_mem_drop hq)).1
      rw [← hs, List.length_drop] at this
      omega
    have hm := Int.emod_nonneg (m - tot rs) (show s ≠ 0 by omega)
    unfold shown near
    dsimp only
    rw [← hs] at e ⊢
    rw [if_neg (by omega), if_neg (by omega)]
    congr 2
    rw [show tot rs + (m - tot rs) % s - tot (rs.take b.toNat) = (m - tot rs) % s + s * 1 by omega, Int.add_mul_emod_self_left, Int.emod_emod,
      show m - tot (rs.take b.toNat) = (m - tot rs) + s * 1 by omega, Int.add_mul_emod_self_left]
theorem shown_walk_none (rs : List RW) (m : Int) : shown rs none m = walk rs m := rfl
/-! ### slices -/
theorem cut_to (xs : List V) (k : Nat) : cutV xs none (some (k : Int)) = xs.take k := by
  unfold cutV
  rw [HT.sIx_none, HT.sIx_nat, List.drop_zero, Nat.sub_zero]
  rcases Nat.le_total k xs.length with h | h
  · rw [Nat.min_eq_left h]
  · rw [Nat.min_eq_right h, List.take_length, List.take_of_length_le h]
theorem cut_from (xs : List V) (k : Nat) : cutV xs (some (k : Int)) none = xs.drop k := by
  unfold cutV
  rw [HT.sIx_none, HT.sIx_nat]
  rcases Nat.le_total k xs.length with h | h
  · rw [Nat.min_eq_left h, List.take_of_length_le (by rw [List.length_drop]; omega)]
  · rw [Nat.min_eq_right h, Nat.sub_self, List.take_zero, List.drop_of_length_le h]
theorem cut_all (xs : List V) : cutV xs none none = xs := by
  unfold cutV
  rw [HT.sIx_none, HT.sIx_none, List.drop_zero, Nat.sub_zero, List.take_length]
theorem cut_whole {xs : List V} {lo hi : Option Int} (h : HT.sIx xs.length 0 lo = 0 ∧ HT.sIx xs.length xs.length hi = xs.length) : cutV xs lo hi = xs := by
  unfold cutV
  rw [h.1, h.2, List.drop_zero, Nat.sub_zero, List.take_length]
theorem sl_rows {K : PySem.W.Frag} {H : Hp} {a : Addr} {xs : List V} {lo hi : Option Int} (rs : List RW) {R : VK} (hS : SqT K H a xs) (hp : Paired (RowAt K H) (cutV xs lo hi) rs) (h : ∀ H' v, Same H H' → RowsAt K H' v rs → R v H') :
    rSlA K (.ref a) lo hi H R := by
  refine ⟨a, xs, rfl, hS, fun w => h H _ (Same.refl _) ⟨a, xs, rfl, hS, ?_⟩, fun _ p np => ?_⟩
  · rw [cut_whole w] at hp
    exact hp
  · have s := same_upd (o := .tup (cutV xs lo hi)) np
    exact h _ _ s ⟨p, _, rfl, .inl (.inl upd_same), Paired.mono hp fun _ _ => RowAt.keep (Same.tk s)⟩

/-! ### the text -/
def topS (i : Nat) : Stmt := PySem.Challenge.pw_lanternrows_k03_lengths_told.main.body.getD i (.Pass ⟨0, 0, 0, 0⟩)
abbrev s_is_whole : Stmt := topS 6
theorem sc_is_whole : FnScope ["thing", "least", "most"] ["thing", "least", "most"] (defScope s_is_whole) := ⟨rfl, rfl, rfl, by decide +kernel, rfl, by decide +kernel, by decide +kernel⟩
abbrev s_is_tuple : Stmt := topS 15
theorem sc_is_tuple : FnScope ["thing", "least", "most"] ["thing", "least", "most"] (defScope s_is_tuple) := ⟨rfl, rfl, rfl, by decide +kernel, rfl, by decide +kernel, by decide +kernel⟩
abbrev s_is_row : Stmt := topS 16
theorem sc_is_row : FnScope ["thing", "drawing", "hold"] ["thing"] (defScope s_is_row) := ⟨rfl, rfl, rfl, by decide +kernel, rfl, by decide +kernel, by decide +kernel⟩
abbrev s_is_layer : Stmt := topS 17
theorem sc_is_layer : FnScope ["thing", "rows", "back", "row"] ["thing"] (defScope s_is_layer) := ⟨rfl, rfl, rfl, by decide +kernel, rfl, by decide +kernel, by decide +kernel⟩
abbrev s_is_spot : Stmt := topS 18
theorem sc_is_spot : FnScope ["x", "y"] ["x", "y"] (defScope s_is_spot) := ⟨rfl, rfl, rfl, by decide +kernel, rfl, by decide +kernel, by decide +kernel⟩
abbrev s_is_move : Stmt := topS 19
theorem sc_is_move : FnScope ["thing", "x", "y", "many"] ["thing"] (defScope s_is_move) := ⟨rfl, rfl, rfl, by decide +kernel, rfl, by decide +kernel, by decide +kernel⟩
abbrev s_is_window : Stmt := topS 20
theorem sc_is_window : FnScope ["thing", "x", "y", "moves", "move"] ["thing"] (defScope s_is_window) := ⟨rfl, rfl, rfl, by decide +kernel, rfl, by decide +kernel, by decide +kernel⟩
abbrev s_is_sheet : Stmt := topS 21
theorem sc_is_sheet : FnScope ["thing", "layers", "window", "layer"] ["thing"] (defScope s_is_sheet) := ⟨rfl, rfl, rfl, by decide +kernel, rfl, by decide +kernel, by decide +kernel⟩
abbrev s_need_layer : Stmt := topS 22
theorem sc_need_layer : FnScope ["thing"] ["thing"] (defScope s_need_layer) := ⟨rfl, rfl, rfl, by decide +kernel, rfl, by decide +kernel, by decide +kernel⟩
abbrev s_need_window : Stmt := topS 23
theorem sc_need_window : FnScope ["thing"] ["thing"] (defScope s_need_window) := ⟨rfl, rfl, rfl, by decide +kernel, rfl, by decide +kernel, by decide +kernel⟩
abbrev s_need_sheet : Stmt := topS 24
theorem sc_need_sheet : FnScope ["thing"] ["thing"] (defScope s_need_sheet) := ⟨rfl, rfl, rfl, by decide +kernel, rfl, by decide +kernel, by decide +kernel⟩
abbrev s_held : Stmt := topS 25
theorem sc_held : FnScope ["rows", "drawing", "hold"] ["rows"] (defScope s_held) := ⟨rfl, rfl, rfl, by decide +kernel, rfl, by decide +kernel, by decide +kernel⟩
abbrev s_length_of : Stmt := topS 26
theorem sc_length_of : FnScope ["layer", "rows", "back"] ["layer"] (defScope s_length_of) := ⟨rfl, rfl, rfl, by decide +kernel, rfl, by decide +kernel, by decide +kernel⟩
abbrev s_moved : Stmt := topS 27
theorem sc_moved : FnScope ["window", "x", "y", "moves", "goal_x", "goal_y", "many"] ["window"] (defScope s_moved) := ⟨rfl, rfl, rfl, by decide +kernel, rfl, by decide +kernel, by decide +kernel⟩
abbrev s_layer_length : Stmt := topS 28
theorem sc_layer_length : FnScope ["layer"] ["layer"] (defScope s_layer_length) := ⟨rfl, rfl, rfl, by decide +kernel, rfl, by decide +kernel, by decide +kernel⟩
abbrev s_window_length : Stmt := topS 29
theorem sc_window_length : FnScope ["window"] ["window"] (defScope s_window_length) := ⟨rfl, rfl, rfl, by decide +kernel, rfl, by decide +kernel, by decide +kernel⟩
abbrev s_sheet_length : Stmt := topS 30
theorem sc_sheet_length : FnScope ["sheet", "layers", "window", "lengths", "layer"] ["sheet"] (defScope s_sheet_length) := ⟨rfl, rfl, rfl, by decide +kernel, rfl, by decide +kernel, by decide +kernel⟩
abbrev s__law_cell_at : Stmt := topS 32
theorem sc__law_cell_at : FnScope ["_law_script", "_law_k"] ["_law_script", "_law_k"] (defScope s__law_cell_at) := ⟨rfl, rfl, rfl, by decide +kernel, rfl, by decide +kernel, by decide +kernel⟩
abbrev s__law_state : Stmt := topS 33
theorem sc__law_state : FnScope ["_law_script", "_law_k", "_law_cell"] ["_law_script", "_law_k"] (defScope s__law_state) := ⟨rfl, rfl, rfl, by decide +kernel, rfl, by decide +kernel, by decide +kernel⟩
abbrev s__law_take : Stmt := topS 34
theorem sc__law_take : FnScope ["_law_state_here", "_law_many", "_law_found", "_law_stirred"] ["_law_state_here", "_law_many"] (defScope s__law_take) := ⟨rfl, rfl, rfl, by decide +kernel, rfl, by decide +kernel, by decide +kernel⟩
abbrev s__law_same : Stmt := topS 35
theorem sc__law_same : FnScope ["_law_found", "_law_due", "_law_one", "_law_other"] ["_law_found", "_law_due"] (defScope s__law_same) := ⟨rfl, rfl, rfl, by decide +kernel, rfl, by decide +kernel, by decide +kernel⟩
abbrev s__law_row : Stmt := topS 36
theorem sc__law_row : FnScope ["_law_state_here", "_law_way", "_law_drawing"] ["_law_state_here", "_law_way"] (defScope s__law_row) := ⟨rfl, rfl, rfl, by decide +kernel, rfl, by decide +kernel, by decide +kernel⟩
abbrev s__law_layer : Stmt := topS 37
theorem sc__law_layer : FnScope ["_law_state_here", "_law_way", "_law_many", "_law_rows", "_law_back", "_law_turn"] ["_law_state_here"] (defScope s__law_layer) := ⟨rfl, rfl, rfl, by decide +kernel, rfl, by decide +kernel, by decide +kernel⟩
abbrev s__law_window : Stmt := topS 38
theorem sc__law_window : FnScope ["_law_state_here", "_law_moves", "_law_many", "_law_x", "_law_y", "_law_place", "_law_turn"] ["_law_state_here"] (defScope s__law_window) := ⟨rfl, rfl, rfl, by decide +kernel, rfl, by decide +kernel, by decide +kernel⟩
abbrev s__law_sheet : Stmt := topS 39
theorem sc__law_sheet : FnScope ["_law_state_here", "_law_turn"] ["_law_state_here"] (defScope s__law_sheet) := ⟨rfl, rfl, rfl, by decide +kernel, rfl, by decide +kernel, by decide +kernel⟩
abbrev s_law : Stmt := topS 40
theorem sc_law : FnScope ["_law_script", "_law_k", "_law_state_here", "_law_layers", "_law_window_here", "_law_ends", "_law_rows", "_law_back", "_law_end", "_law_drawing", "_law_hold", "_law_last", "_law_x", "_law_y", "_law_many", "_law_due"] ["_law_script"] (defScope s_law) := ⟨rfl, rfl, rfl, by decide +kernel, rfl, by decide +kernel, by decide +kernel⟩
structure Txt (K : PySem.W.Frag) (mg : Str → Option Value) : Prop where
  b_len : mg "len" = none
  b_isinstance : mg "isinstance" = none
  b_max : mg "max" = none
  b_min : mg "min" = none
  b_sum : mg "sum" = none
  b_all : mg "all" = none
  b_tuple : mg "tuple" = none
  b_list : mg "list" = none
  b_range : mg "range" = none
  b_zip : mg "zip" = none
  b_bool : mg "bool" = none
  b_int : mg "int" = none
  c_MOST_DRAWING : ∃ t, mg "MOST_DRAWING" = some (Value.int 9 t)
  c_MOST_HOLD : ∃ t, mg "MOST_HOLD" = some (Value.int 24 t)
  c_MOST_ROWS : ∃ t, mg "MOST_ROWS" = some (Value.int 8 t)
  c_MOST_WAY : ∃ t, mg "MOST_WAY" = some (Value.int 20 t)
  c_MOST_MANY : ∃ t, mg "MOST_MANY" = some (Value.int 24 t)
  c_MOST_MOVES : ∃ t, mg "MOST_MOVES" = some (Value.int 8 t)
  c_MOST_LAYERS : ∃ t, mg "MOST_LAYERS" = some (Value.int 4 t)

section
variable {P : Program} {w : World} {K : PySem.W.Frag} {mg : Str → Option Value} {base : Heap}
def sp_is_whole (K : PySem.W.Frag) : Sp := fun vs H Q _ => ∃ n l m : Int, vs = [.int n, .int l, .int m] ∧ Q (.bl (decide (l ≤ n ∧ n ≤ m))) H
theorem ok_is_whole {f : Addr} {fd : FuncData} (F : Fun K "is_whole" "is_whole" s_is_whole f fd) (T : Txt K mg) : FnOk P w K mg base CX0 1 f fd ["thing", "least", "most"] (sp_is_whole K) := by
  refine F.ok sc_is_whole (fun vs H Q E h => ?_) (fun cdv A outer s H vs Q E hr h => ?_)
  · obtain ⟨n, l, m, rfl, q⟩ := h
    rfl
  · obtain ⟨n, l, m, rfl, q⟩ := h
    refine ⟨_, (pss_cons (ps_if (PW.pt (pw_or (pt_val (pe_callB call_isi (by rfl) T.b_isinstance (by decide +kernel) (pa_cons (pv 0) (pa_cons (pe_bltn (v := .ty "bool") (by rfl) T.b_bool (by decide +kernel) rfl) pa_nil)))) (pw_or1 (pt_not (pt_val (pe_callB call_isi (by rfl) T.b_isinstance (by decide +kernel) (pa_cons (pv 0) (pa_cons (pe_bltn (v := .ty "int") (by rfl) T.b_int (by decide +kernel) rfl) pa_nil)))))))) (pss_one (ps_ret pe_bl)) pss_nil)
      (pss_one (ps_ret (pe_chain op_le op_le (pv 1) (pv 0) (pv 2))))), ?_⟩
    refine ⟨_, rfl, _, _, _, _, false, rfl, .ty _, .base (.int n), kit_ty (by decide +kernel), _, rfl, iteF ?_⟩
    refine ⟨_, rfl, _, _, _, _, true, rfl, .ty _, .base (.int n), kit_ty (by decide +kernel), _, rfl, iteF ?_⟩
    refine ⟨_, rfl, _, rfl, l, n, rfl, rfl, _, rfl, ite2 (fun e => ?_) (fun e => ?_)⟩
    · refine ⟨_, rfl, n, m, rfl, rfl, ?_⟩
      have e1 : l ≤ n := of_decide_eq_true e
      rw [show decide (l ≤ n ∧ n ≤ m) = decide (n ≤ m) by simp [e1]] at q
      exact q
    · have e1 : ¬ l ≤ n := fun z => e (decide_eq_true z)
      rw [show decide (l ≤ n ∧ n ≤ m) = false by simp [e1]] at q
      exact q
def sp_is_tuple (K : PySem.W.Frag) : Sp := fun vs H Q _ => ∃ (a : Addr) (xs : List V) (l m : Int), vs = [.ref a, .int l, .int m] ∧ SqT K H a xs ∧ Q (.bl (decide (l ≤ (xs.length : Int) ∧ (xs.length : Int) ≤ m))) H
theorem ok_is_tuple {f : Addr} {fd : FuncData} (F : Fun K "is_tuple" "is_tuple" s_is_tuple f fd) (T : Txt K mg) : FnOk P w K mg base CX0 1 f fd ["thing", "least", "most"] (sp_is_tuple K) := by
  refine F.ok sc_is_tuple (fun vs H Q E h => ?_) (fun cdv A outer s H vs Q E hr h => ?_)
  · obtain ⟨a, xs, l, m, rfl, _⟩ := h
    rfl
  · obtain ⟨a, xs, l, m, rfl, ha, q⟩ := h
    refine ⟨_, (pss_one (ps_ret (pe_and (pe_callB call_isi (by rfl) T.b_isinstance (by decide +kernel) (pa_cons (pv 0) (pa_cons (pe_bltn (v := .ty "tuple") (by rfl) T.b_tuple (by decide +kernel) rfl) pa_nil))) (pe_one (pe_chain op_le op_le (pv 1) (pe_callB call_len_seq (by rfl) T.b_len (by decide +kernel) (pa_cons (pv 0) pa_nil)) (pv 2)))))), ?_⟩
    refine ⟨_, rfl, _, _, _, _, true, rfl, .ty _, tyT ha, kit_ty (by decide +kernel), _, rfl, iteT ?_⟩
    refine ⟨_, rfl, _, rfl, a, xs, rfl, .inr ha, l, _, rfl, rfl, _, rfl, ite2 (fun e => ?_) (fun e => ?_)⟩
    · refine ⟨_, rfl, _, m, rfl, rfl, ?_⟩
      have e1 : l ≤ (xs.length : Int) := of_decide_eq_true e
      rw [show decide (l ≤ (xs.length : Int) ∧ (xs.length : Int) ≤ m) = decide ((xs.length : Int) ≤ m) by simp [e1]] at q
      exact q
    · have e1 : ¬ l ≤ (xs.length : Int) := fun z => e (decide_eq_true z)
      rw [show decide (l ≤ (xs.length : Int) ∧ (xs.length : Int) ≤ m) = false by simp [e1]] at q
      exact q
def sp_is_row (K : PySem.W.Frag) : Sp := fun vs H Q _ => ∃ (v : V) (r : RW), vs = [v] ∧ RowAt K H v r ∧ VRow r ∧ Q (.bl true) H
theorem ok_is_row {f : Addr} {fd : FuncData} (F : Fun K "is_row" "is_row" s_is_row f fd) (T : Txt K mg) (D_is_tuple : Cl P w K mg base 1 "is_tuple" ["thing", "least", "most"] (sp_is_tuple K)) (D_is_whole : Cl P w K mg base 1 "is_whole" ["thing", "least", "most"] (sp_is_whole K)) : FnOk P w K mg base CX0 2 f fd ["thing"] (sp_is_row K) := by
  refine F.ok sc_is_row (fun vs H Q E h => ?_) (fun cdv A outer s H vs Q E hr h => ?_)
  · obtain ⟨v, r, rfl, _⟩ := h
    rfl
  · obtain ⟨v, ⟨d, n⟩, rfl, ⟨p, rfl, hp⟩, ⟨v1, v2, v3, v4⟩, q⟩ := h
    refine ⟨_, (pss_cons (ps_if (pt_not (pt_val (pe_own D_is_tuple (hr.mono (by decide)) (by rfl) (pa_cons (pv 0) (pa_cons pe_int (pa_cons pe_int pa_nil)))))) (pss_one (ps_ret pe_bl)) pss_nil)
      (pss_cons (ps_asg (pv 0) (pg_tup (by rfl) (pgs_cons (pg_name (i := 1) sc_is_row.nd rfl (Or.inl rfl)) (pgs_cons (pg_name (i := 2) sc_is_row.nd rfl (Or.inl rfl)) pgs_nil))))
      (pss_one (ps_ret (pe_and (pe_own D_is_whole (hr.mono (by decide)) (by rfl) (pa_cons (pv 1) (pa_cons pe_int (pa_cons (pe_gint (by rfl) T.c_MOST_DRAWING) pa_nil)))) (pe_one (pe_own D_is_whole (hr.mono (by decide)) (by rfl) (pa_cons (pv 2) (pa_cons pe_int (pa_cons (pe_gint (by rfl) T.c_MOST_HOLD) pa_nil)))))))))), ?_⟩
    refine ⟨_, rfl, p, _, 2, 2, rfl, hp, _, rfl, iteF ?_⟩
    refine ⟨_, rfl, p, _, rfl, hp, rfl, _, _, rfl, _, _, rfl, rfl, ?_⟩
    refine ⟨_, rfl, d, 0, 9, rfl, true, ?_, iteT ?_⟩
    · rw [show decide ((0 : Int) ≤ d ∧ d ≤ 9) = true from decide_eq_true ⟨v1, v2⟩]
    · refine ⟨_, rfl, n, 1, 24, rfl, ?_⟩
      rw [show decide ((1 : Int) ≤ n ∧ n ≤ 24) = true from decide_eq_true ⟨v3, v4⟩]
      exact q
end

section
variable {P : Program} {w : World} {K : PySem.W.Frag} {mg : Str → Option Value} {base : Heap}
def sp_is_layer (K : PySem.W.Frag) : Sp := fun vs H Q _ => ∃ (v : V) (rs : List RW) (bk : Option Int), vs = [v] ∧ LayAt K H v rs bk ∧ VRows rs ∧ VBack rs bk ∧ ∀ H', Same H H' → Q (.bl true) H'
theorem ok_is_layer {f : Addr} {fd : FuncData} (F : Fun K "is_layer" "is_layer" s_is_layer f fd) (T : Txt K mg) (D_is_tuple : Cl P w K mg base 1 "is_tuple" ["thing", "least", "most"] (sp_is_tuple K)) (D_is_row : Cl P w K mg base 2 "is_row" ["thing"] (sp_is_row K)) (D_is_whole : Cl P w K mg base 1 "is_whole" ["thing", "least", "most"] (sp_is_whole K)) : FnOk P w K mg base CX0 3 f fd ["thing"] (sp_is_layer K) := by
  refine F.ok sc_is_layer (fun vs H Q E h => ?_) (fun cdv A outer s H vs Q E hr h => ?_)
  · obtain ⟨v, rs, bk, rfl, _⟩ := h
    rfl
  · obtain ⟨v, rs, bk, rfl, ⟨p, rv, rfl, hp, pr, vs, rfl, hq, pd⟩, ⟨v8, vr⟩, vb, q⟩ := h
    have hl : vs.length = rs.length := Paired.length pd
    refine ⟨_, (pss_cons (ps_if (pt_not (pt_val (pe_own D_is_tuple (hr.mono (by decide)) (by rfl) (pa_cons (pv 0) (pa_cons pe_int (pa_cons pe_int pa_nil)))))) (pss_one (ps_ret pe_bl)) pss_nil)
      (pss_cons (ps_asg (pv 0) (pg_tup (by rfl) (pgs_cons (pg_name (i := 1) sc_is_layer.nd rfl (Or.inl rfl)) (pgs_cons (pg_name (i := 2) sc_is_layer.nd rfl (Or.inl rfl)) pgs_nil))))
      (pss_cons (ps_if (PW.pt (pw_or (pt_not (pt_val (pe_own D_is_tuple (hr.mono (by decide)) (by rfl) (pa_cons (pv 1) (pa_cons pe_int (pa_cons (pe_gint (by rfl) T.c_MOST_ROWS) pa_nil)))))) (pw_or1 (pt_not (pt_val (pe_callB (cr_all rfl) (by rfl) T.b_all (by decide +kernel) (pa_cons (pe_lc (own := [("row", 3)]) (g := (gName 3)) (tt := tYes) (by rfl) sc_is_layer.nd (pi_tup (pv 1)) (blkOk_by (own := [("row", 3)]) (N := ["thing", "rows", "back", "row"]) (sc := defScope s_is_layer) (by decide +kernel)) (fun _ _ _ _ _ => (pg_name (i := 3) sc_is_layer.nd rfl (Or.inl rfl))) (fun _ _ _ _ _ => pts_nil) (fun _ _ _ _ _ => (pe_own D_is_row (hr.mono (by decide)) (by rfl) (pa_cons (pv 3) pa_nil)))) pa_nil))))))) (pss_one (ps_ret pe_bl)) pss_nil)
      (pss_one (ps_ret (pe_or (pe_cmpR op_isN (pv 2) pe_non (nomark _)) (pe_one (pe_own D_is_whole (hr.mono (by decide)) (by rfl) (pa_cons (pv 2) (pa_cons pe_int (pa_cons (pe_op op_sub (pe_callB call_len_seq (by rfl) T.b_len (by decide +kernel) (pa_cons (pv 1) pa_nil)) pe_int) pa_nil))))))))))), ?_⟩
    refine ⟨_, rfl, p, _, 2, 2, rfl, hp, _, rfl, iteF ?_⟩
    refine ⟨_, rfl, p, _, rfl, hp, rfl, _, _, rfl, _, _, rfl, rfl, ?_⟩
    refine ⟨_, rfl, pr, vs, 0, 8, rfl, hq, _, rfl, ?_⟩
    rw [show decide ((0 : Int) ≤ (vs.length : Int) ∧ (vs.length : Int) ≤ 8) = true from decide_eq_true ⟨by omega, by omega⟩]
    refine iteF ?_
    refine ⟨_, rfl, pr, rfl, ⟨_, hq⟩, fun D hD => ?_⟩
    refine lcmap_tup ((vs.map fun _ => true).map V.bl) (by simp) (by omega) hq hD (fun i x y H2 R Z hx hy s2 hR => ?_) (fun H2 s2 hL => ?_)
    · obtain ⟨r, hr1, hrow⟩ := Paired.at pd hx
      have ey : y = .bl true := by
        rw [List.map_map, List.getElem?_map, hx] at hy
        exact (Option.some.inj hy).symm
      subst ey
      exact ⟨rfl, yes_ok ⟨_, rfl, x, r, rfl, hrow.keep (Same.tk s2), vr r (List.mem_of_getElem? hr1), hR _ (Same.refl _)⟩⟩
    · refine ⟨D, _, rfl, .inl (.inl hL), _, rfl, ?_⟩
      rw [show ((vs.map fun _ => true).all id) = true by simp]
      refine iteF ?_
      refine ⟨_, rfl, rfl, _, rfl, ?_⟩
      cases bk with
      | none => exact ite2 (fun _ => q _ s2) (fun e => absurd (decide_eq_true rfl) e)
      | some b =>
        refine ite2 (fun e => nomatch (of_decide_eq_true e)) (fun _ => ?_)
        have hb := vb b rfl
        refine ⟨_, rfl, _, rfl, pr, vs, rfl, .inr (Same.sqT s2 hq), _, _, rfl, rfl, b, 0, _, rfl, ?_⟩
        rw [show decide ((0 : Int) ≤ b ∧ b ≤ (vs.length : Int) - 1) = true from decide_eq_true ⟨by omega, by omega⟩]
        exact q _ s2
def sp_need_layer (K : PySem.W.Frag) : Sp := fun vs H Q _ => ∃ (v : V) (rs : List RW) (bk : Option Int), vs = [v] ∧ LayAt K H v rs bk ∧ VRows rs ∧ VBack rs bk ∧ ∀ H', Same H H' → Q .non H'
theorem ok_need_layer {f : Addr} {fd : FuncData} (F : Fun K "need_layer" "need_layer" s_need_layer f fd) (T : Txt K mg) (D_is_layer : Cl P w K mg base 3 "is_layer" ["thing"] (sp_is_layer K)) : FnOk P w K mg base CX0 4 f fd ["thing"] (sp_need_layer K) := by
  refine F.ok sc_need_layer (fun vs H Q E h => ?_) (fun cdv A outer s H vs Q E hr h => ?_)
  · obtain ⟨v, rs, bk, rfl, _⟩ := h
    rfl
  · obtain ⟨v, rs, bk, rfl, hl, v8, vb, q⟩ := h
    refine ⟨_, (pss_one (ps_if (pt_not (pt_val (pe_own D_is_layer (hr.mono (by decide)) (by rfl) (pa_cons (pv 0) pa_nil)))) (pss_one ps_never) pss_nil)), ?_⟩
    exact ⟨_, rfl, v, rs, bk, rfl, hl, v8, vb, fun H' s' => ⟨_, rfl, iteF (q _ s')⟩⟩
end

section
variable {P : Program} {w : World} {K : PySem.W.Frag} {mg : Str → Option Value} {base : Heap}
def sp_held (K : PySem.W.Frag) : Sp := fun vs H Q _ => ∃ (v : V) (rs : List RW), vs = [v] ∧ RowsAt K H v rs ∧ rs.length ≤ 1000 ∧ ∀ H', Same H H' → Q (.int (tot rs)) H'
theorem ok_held {f : Addr} {fd : FuncData} (F : Fun K "held" "held" s_held f fd) (T : Txt K mg) : FnOk P w K mg base CX0 1 f fd ["rows"] (sp_held K) := by
  refine F.ok sc_held (fun vs H Q E h => ?_) (fun cdv A outer s H vs Q E hr h => ?_)
  · obtain ⟨v, rs, rfl, _⟩ := h
    rfl
  · obtain ⟨v, rs, rfl, ⟨pr, vs, rfl, hq, pd⟩, hz, q⟩ := h
    have hl : vs.length = rs.length := Paired.length pd
    refine ⟨_, (pss_one (ps_ret (pe_callB (cr_sum rfl) (by rfl) T.b_sum (by decide +kernel) (pa_cons (pe_lc (own := [("drawing", 1), ("hold", 2)]) (g := (gTup _ 2 (gCons (gName 1) (gCons (gName 2) gNil)))) (tt := tYes) (by rfl) sc_held.nd (pi_tup (pv 0)) (blkOk_by (own := [("drawing", 1), ("hold", 2)]) (N := ["rows", "drawing", "hold"]) (sc := defScope s_held) (by decide +kernel)) (fun _ _ _ _ _ => (pg_tup (by rfl) (pgs_cons (pg_name (i := 1) sc_held.nd rfl (Or.inl rfl)) (pgs_cons (pg_name (i := 2) sc_held.nd rfl (Or.inl rfl)) pgs_nil)))) (fun _ _ _ _ _ => pts_nil) (fun _ _ _ _ _ => (pv 2))) pa_nil)))), ?_⟩
    refine ⟨_, rfl, pr, rfl, ⟨_, hq⟩, fun D hD => ?_⟩
    refine lcmap_tup ((rs.map (·.2)).map V.int) (by simp [hl]) (by omega) hq hD (fun i x y H2 R Z hx hy s2 hR => ?_) (fun H2 s2 hL => ?_)
    · obtain ⟨r, hr1, p, rfl, hrow⟩ := Paired.at pd hx
      have ey : y = .int r.2 := by
        rw [List.map_map, List.getElem?_map, hr1] at hy
        exact (Option.some.inj hy).symm
      subst ey
      exact ⟨p, _, rfl, Same.sqT s2 hrow, rfl, _, _, rfl, _, _, rfl, rfl, rfl, yes_ok ⟨_, rfl, hR _ (Same.refl _)⟩⟩
    · exact ⟨D, _, rfl, .inl (.inl hL), q _ s2⟩
end

/-! ### the law's own helpers -/
theorem fm {x m : Int} (h : 0 < m) : 0 ≤ x.fmod m ∧ x.fmod m < m := by
  rw [Int.fmod_eq_emod_of_nonneg x (by omega)]
  exact ⟨Int.emod_nonneg _ (by omega), Int.emod_lt_of_pos _ h⟩
theorem tk_updL {K : PySem.W.Frag} {H : Hp} {D : Addr} {xs ys : List V} (h : H D = some (.lst xs)) : TKeep K H (upd H D (.lst ys)) := by
  intro a zs q
  rcases q with (q | ⟨o, q⟩) | q
  · refine .inl (.inl ?_)
    rw [upd_ne (ne_of q h (by intro z; cases z))]
    exact q
  · refine .inl (.inr ⟨o, ?_⟩)
    rw [upd_ne (ne_of q h (by intro z; cases z))]
    exact q
  · exact .inr q
inductive Fl : V → String → Bool → Prop
  | non : Fl .non "NoneType" false
  | bl (b : Bool) : Fl (.bl b) "bool" true
  | int (i : Int) : Fl (.int i) "int" false
theorem Fl.ty {K : PySem.W.Frag} {H : Hp} {x : V} {t : String} {b : Bool} (f : Fl x t b) : TyX K H x (.type t) := by
  cases f with
  | non => exact .base .non
  | bl b => exact .base (.bl b)
  | int i => exact .base (.int i)
theorem Fl.kit {x : V} {t : String} {b : Bool} (f : Fl x t b) : kitB t "bool" = some b := by
  cases f <;> decide +kernel
theorem Fl.kit2 {K : PySem.W.Frag} {x : V} {t : String} {b : Bool} (f : Fl x t b) : PySem.W.kitAny K (.type t) [.type "tuple", .type "list"] = some false := by
  cases f <;> exact kitAny_cons (kit_ty (r := false) (by decide +kernel)) (fun _ => kitAny_cons (kit_ty (r := false) (by decide +kernel)) (fun _ => kitAny_nil) (fun z => nomatch z)) (fun z => nomatch z)
theorem Fl.scal {x y : V} {t u : String} {b : Bool} (f : Fl x t b) (g : Fl y u b) : L2.scal x y = true := by
  cases f <;> cases g <;> rfl
theorem Fl.ne {x y : V} {t u : String} {b c : Bool} (f : Fl x t b) (g : Fl y u c) (h : b ≠ c) : x ≠ y := by
  cases f <;> cases g <;> first | exact absurd rfl h | (intro z; cases z)
section
variable {P : Program} {w : World} {K : PySem.W.Frag} {mg : Str → Option Value} {base : Heap}
def sp__law_cell_at (K : PySem.W.Frag) : Sp := fun vs H Q _ => ∃ (a : Addr) (ns : List Int) (k : Int), vs = [.ref a, .int k] ∧ SqL K H a (ns.map V.int) ∧ 0 ≤ k ∧ ∀ c, Q (.int c) H
theorem ok__law_cell_at {f : Addr} {fd : FuncData} (F : Fun K "_law_cell_at" "_law_cell_at" s__law_cell_at f fd) (T : Txt K mg) : FnOk P w K mg base CX0 1 f fd ["_law_script", "_law_k"] (sp__law_cell_at K) := by
  refine F.ok sc__law_cell_at (fun vs H Q E h => ?_) (fun cdv A outer s H vs Q E hr h => ?_)
  · obtain ⟨a, ns, k, rfl, _⟩ := h
    rfl
  · obtain ⟨a, ns, k, rfl, hS, hk, q⟩ := h
    refine ⟨_, (pss_cons (ps_if (pt_cmpR op_lt (pv 1) (pe_callB call_len_seq (by rfl) T.b_len (by decide +kernel) (pa_cons (pv 0) pa_nil)) (nomark _)) (pss_one (ps_ret (pe_ix ix_list (pv 0) (pv 1) (fun _ _ => rfl)))) pss_nil)
      (pss_one (ps_ret pe_int))), ?_⟩
    refine ⟨_, rfl, _, rfl, a, _, rfl, .inl hS, k, _, rfl, rfl, _, rfl, ite2 (fun e => ?_) (fun _ => q 0)⟩
    have e1 : k < ((ns.map V.int).length : Int) := of_decide_eq_true e
    rw [List.length_map] at e1
    have hj : k.toNat < ns.length := by omega
    have g : (ns.map V.int)[k.toNat]? = some (.int ns[k.toNat]) := by
      rw [List.getElem?_map, List.getElem?_eq_getElem hj]
      rfl
    exact ⟨_, rfl, _, rfl, a, _, k, _, rfl, rfl, hS, at_of (j := k.toNat) (by omega) g, q _⟩
def sp__law_state (K : PySem.W.Frag) : Sp := fun vs H Q _ => ∃ (a : Addr) (ns : List Int) (k : Int), vs = [.ref a, .int k] ∧ SqL K H a (ns.map V.int) ∧ 0 ≤ k ∧ ∀ H' p, Same H H' → H p = none → IsSt H' p → Q (.ref p) H'
theorem ok__law_state {f : Addr} {fd : FuncData} (F : Fun K "_law_state" "_law_state" s__law_state f fd) (T : Txt K mg) (D__law_cell_at : Cl P w K mg base 1 "_law_cell_at" ["_law_script", "_law_k"] (sp__law_cell_at K)) : FnOk P w K mg base CX0 2 f fd ["_law_script", "_law_k"] (sp__law_state K) := by
  refine F.ok sc__law_state (fun vs H Q E h => ?_) (fun cdv A outer s H vs Q E hr h => ?_)
  · obtain ⟨a, ns, k, rfl, _⟩ := h
    rfl
  · obtain ⟨a, ns, k, rfl, hS, hk, q⟩ := h
    refine ⟨_, (pss_cons (ps_set (i := 2) sc__law_state.nd rfl (Or.inl rfl) (pe_own D__law_cell_at (hr.mono (by decide)) (by rfl) (pa_cons (pv 0) (pa_cons (pv 1) pa_nil))))
      (pss_one (ps_ret (pe_lst (pa_cons (pe_callB (call_max2 rfl) (by rfl) T.b_max (by decide +kernel) (pa_cons pe_int (pa_cons (pe_op op_sub (pv 2) (pe_op op_pow pe_int pe_int)) pa_nil))) (pa_cons (pe_op op_modN (pv 2) pe_int) pa_nil)))))), ?_⟩
    refine ⟨_, rfl, _, rfl, a, ns, k, rfl, hS, hk, fun c => ?_⟩
    refine ⟨_, rfl, 10, 18, rfl, rfl, ⟨by decide, by decide, by decide⟩, _, _, rfl, rfl, _, _, rfl, _, rfl, _, _, rfl, rfl, (by show (2147483647 : Int) ≠ 0; decide), (by show 2 ≤ sizeLine; decide), fun p np => ?_⟩
    refine q _ p (same_upd np) np ⟨_, _, upd_same, ?_, (fm (by decide)).1, (fm (by decide)).2⟩
    split <;> omega
def sp__law_take (K : PySem.W.Frag) : Sp := fun vs H Q _ => ∃ (st : Addr) (n : Int), vs = [.ref st, .int n] ∧ IsSt H st ∧ 0 < n ∧ n < 1073741824 ∧ ∀ r H', 0 ≤ r → r < n → Gr st H H' → Q (.int r) H'
theorem ok__law_take {f : Addr} {fd : FuncData} (F : Fun K "_law_take" "_law_take" s__law_take f fd) (T : Txt K mg) : FnOk P w K mg base CX0 1 f fd ["_law_state_here", "_law_many"] (sp__law_take K) := by
  refine F.ok sc__law_take (fun vs H Q E h => ?_) (fun cdv A outer s H vs Q E hr h => ?_)
  · obtain ⟨st, n, rfl, _⟩ := h
    rfl
  · obtain ⟨st, n, rfl, ⟨a, b, hs, ha, hb0, hb1⟩, n0, n1, q⟩ := h
    refine ⟨_, (pss_cons (ps_if (pt_cmpR op_gt (pe_ix ix_list (pv 0) pe_int (fun _ _ => rfl)) pe_int (nomark _)) (pss_cons (ps_set (i := 2) sc__law_take.nd rfl (Or.inl rfl) (pe_op op_modN (pe_ix ix_list (pv 0) pe_int (fun _ _ => rfl)) (pv 1)))
      (pss_cons (ps_asg (pe_op op_fdivN (pe_ix ix_list (pv 0) pe_int (fun _ _ => rfl)) (pv 1)) (pg_sub (pv 0) pe_int set_list))
      (pss_one (ps_ret (pv 2))))) pss_nil)
      (pss_cons (ps_asg (pe_op op_modN (pe_op op_add (pe_op op_mul (pe_ix ix_list (pv 0) pe_int (fun _ _ => rfl)) pe_int) pe_int) pe_int) (pg_sub (pv 0) pe_int set_list))
      (pss_cons (ps_set (i := 3) sc__law_take.nd rfl (Or.inl rfl) (pe_op op_modN (pe_op op_add (pe_op op_add (pe_op op_mul (pe_ix ix_list (pv 0) pe_int (fun _ _ => rfl)) (pe_ix ix_list (pv 0) pe_int (fun _ _ => rfl))) (pe_op op_mul pe_int (pe_ix ix_list (pv 0) pe_int (fun _ _ => rfl)))) pe_int) pe_int))
      (pss_cons (ps_set (i := 3) sc__law_take.nd rfl (Or.inl rfl) (pe_op op_modN (pe_op op_add (pe_op op_mul (pv 3) (pv 3)) (pe_op op_mul pe_int (pv 3))) pe_int))
      (pss_one (ps_ret (pe_op op_modN (pe_op op_fdivN (pv 3) pe_int) (pv 1)))))))), ?_⟩
    refine ⟨_, rfl, st, _, 0, _, rfl, rfl, .inl (.inl hs), rfl, a, 0, rfl, rfl, _, rfl, ite2 (fun e => ?_) (fun e => ?_)⟩
    · have e1 : 0 < a := of_decide_eq_true e
      refine ⟨_, rfl, st, _, 0, _, rfl, rfl, .inl (.inl hs), rfl, _, rfl, a, n, rfl, rfl, by omega, ?_⟩
      refine ⟨_, rfl, st, _, 0, _, rfl, rfl, .inl (.inl hs), rfl, _, rfl, a, n, rfl, rfl, ⟨by omega, by omega⟩, _, rfl, st, _, 0, 0, rfl, rfl, hs, rfl, ?_⟩
      refine ⟨_, rfl, q _ _ (fm n0).1 (fm n0).2 (gr_set ?_ hb0 hb1)⟩
      rw [Int.fdiv_eq_ediv_of_nonneg _ (by omega)]
      exact Int.ediv_nonneg ha (by omega)
    · refine ⟨_, rfl, st, _, 1, _, rfl, rfl, .inl (.inl hs), rfl, b, 48271, rfl, rfl, .inl ⟨by omega, by omega⟩, _, _, rfl, rfl, _, _, rfl, rfl, (by show (2147483647 : Int) ≠ 0; decide), _, rfl, st, _, 1, 1, rfl, rfl, hs, rfl, ?_⟩
      dsimp only
      have f1 := fm (x := b * 48271 + 29) (m := 2147483647) (by decide)
      generalize (b * 48271 + 29).fmod 2147483647 = b1 at f1 ⊢
      obtain ⟨f1a, f1b⟩ := f1
      have hs1 : (upd H st (.lst [.int a, .int b1])) st = some (.lst [.int a, .int b1]) := upd_same
      refine ⟨_, rfl, st, _, 1, _, rfl, rfl, .inl (.inl hs1), rfl, _, rfl, st, _, 1, _, rfl, rfl, .inl (.inl hs1), rfl, b1, b1, rfl, rfl, .inl ⟨by omega, by omega⟩, _, rfl, st, _, 1, _, rfl, rfl, .inl (.inl hs1), rfl, 39373, b1, rfl, rfl, .inl ⟨by decide, by decide⟩, _, _, rfl, rfl, _, _, rfl, rfl, _, _, rfl, rfl, (by show (2147483629 : Int) ≠ 0; decide), ?_⟩
      dsimp only
      have f2 := fm (x := b1 * b1 + 39373 * b1 + 7) (m := 2147483629) (by decide)
      generalize (b1 * b1 + 39373 * b1 + 7).fmod 2147483629 = b2 at f2 ⊢
      obtain ⟨f2a, f2b⟩ := f2
      refine ⟨_, rfl, _, rfl, b2, b2, rfl, rfl, .inl ⟨by omega, by omega⟩, _, rfl, 16807, b2, rfl, rfl, .inl ⟨by decide, by decide⟩, _, _, rfl, rfl, _, _, rfl, rfl, (by show (2147483587 : Int) ≠ 0; decide), ?_⟩
      dsimp only
      generalize (b2 * b2 + 16807 * b2).fmod 2147483587 = b3
      refine ⟨_, rfl, b3, 8, rfl, rfl, ⟨by decide, by decide⟩, _, rfl, _, n, rfl, rfl, by omega, ?_⟩
      exact q _ _ (fm n0).1 (fm n0).2 (gr_set ha f1a f1b)
def sp__law_same (K : PySem.W.Frag) : Sp := fun vs H Q _ => ∃ (x y : V) (t u : String) (b c : Bool), vs = [x, y] ∧ Fl x t b ∧ Fl y u c ∧ ∀ H', Same H H' → Q (.bl (decide (x = y))) H'
theorem ok__law_same {f : Addr} {fd : FuncData} (F : Fun K "_law_same" "_law_same" s__law_same f fd) (T : Txt K mg) : FnOk P w K mg base CX0 1 f fd ["_law_found", "_law_due"] (sp__law_same K) := by
  refine F.ok sc__law_same (fun vs H Q E h => ?_) (fun cdv A outer s H vs Q E hr h => ?_)
  · obtain ⟨x, y, t, u, b, c, rfl, _⟩ := h
    rfl
  · obtain ⟨x, y, t, u, b, c, rfl, fx, fy, q⟩ := h
    refine ⟨_, (pss_cons (ps_if (pt_val (pe_callB call_isiT (by rfl) T.b_isinstance (by decide +kernel) (pa_cons (pv 1) (pa_cons (pe_tup (pa_cons (pe_bltn (v := .ty "tuple") (by rfl) T.b_tuple (by decide +kernel) rfl) (pa_cons (pe_bltn (v := .ty "list") (by rfl) T.b_list (by decide +kernel) rfl) pa_nil))) pa_nil)))) (pss_cons ps_never
      (pss_one ps_never)) pss_nil)
      (pss_one (ps_ret (pe_and (pe_cmpR op_eq (pe_callB call_isi (by rfl) T.b_isinstance (by decide +kernel) (pa_cons (pv 0) (pa_cons (pe_bltn (v := .ty "bool") (by rfl) T.b_bool (by decide +kernel) rfl) pa_nil))) (pe_callB call_isi (by rfl) T.b_isinstance (by decide +kernel) (pa_cons (pv 1) (pa_cons (pe_bltn (v := .ty "bool") (by rfl) T.b_bool (by decide +kernel) rfl) pa_nil))) (nomark _)) (pe_one (pe_cmpR op_eq (pv 0) (pv 1) (nomark _))))))), ?_⟩
    refine ⟨_, rfl, (by show 2 ≤ sizeLine; decide), fun p np => ⟨y, p, [.ty "tuple", .ty "list"], _, _, false, rfl, upd_same, .cons (.ty _) (.cons (.ty _) .nil), fy.ty, fy.kit2, _, rfl, iteF ?_⟩⟩
    refine ⟨_, rfl, _, _, _, _, b, rfl, .ty _, fx.ty, kit_ty fx.kit, _, rfl, _, _, _, _, c, rfl, .ty _, fy.ty, kit_ty fy.kit, rfl, _, rfl, ite2 (fun e => ?_) (fun e => ?_)⟩
    · have e1 : b = c := V.bl.inj (of_decide_eq_true e)
      subst e1
      exact ⟨_, rfl, _, rfl, Fl.scal fx fy, q _ (same_upd np)⟩
    · have e1 : b ≠ c := fun z => e (decide_eq_true (by rw [z]))
      have e2 := q _ (same_upd (o := .tup [.ty "tuple", .ty "list"]) np)
      rw [decide_eq_false (Fl.ne fx fy e1)] at e2
      exact e2
def sp__law_row (K : PySem.W.Frag) : Sp := fun vs H Q _ => ∃ (st : Addr) (n : Int), vs = [.ref st, .int n] ∧ IsSt H st ∧ 0 ≤ n ∧ n < 4 ∧ ∀ (r : RW) (p : Addr) (H' : Hp), VRow r → Gr st H H' → H' p = some (.tup [.int r.1, .int r.2]) → Q (.ref p) H'
theorem ok__law_row {f : Addr} {fd : FuncData} (F : Fun K "_law_row" "_law_row" s__law_row f fd) (T : Txt K mg) (D__law_take : Cl P w K mg base 1 "_law_take" ["_law_state_here", "_law_many"] (sp__law_take K)) : FnOk P w K mg base CX0 2 f fd ["_law_state_here", "_law_way"] (sp__law_row K) := by
  refine F.ok sc__law_row (fun vs H Q E h => ?_) (fun cdv A outer s H vs Q E hr h => ?_)
  · obtain ⟨st, n, rfl, _⟩ := h
    rfl
  · obtain ⟨st, n, rfl, hs, n0, n1, q⟩ := h
    refine ⟨_, (pss_cons (ps_set (i := 2) sc__law_row.nd rfl (Or.inl rfl) (pe_ix ix_list (pe_lst (pa_cons (pe_own D__law_take (hr.mono (by decide)) (by rfl) (pa_cons (pv 0) (pa_cons pe_int pa_nil))) (pa_cons (pe_own D__law_take (hr.mono (by decide)) (by rfl) (pa_cons (pv 0) (pa_cons pe_int pa_nil))) (pa_cons (pe_op op_add pe_int (pe_own D__law_take (hr.mono (by decide)) (by rfl) (pa_cons (pv 0) (pa_cons pe_int pa_nil)))) pa_nil)))) (pe_op op_modN (pv 1) pe_int) (fun _ _ => rfl)))
      (pss_one (ps_ret (pe_tup (pa_cons (pv 2) (pa_cons (pe_op op_add pe_int (pe_own D__law_take (hr.mono (by decide)) (by rfl) (pa_cons (pv 0) (pa_cons (pe_ix ix_list (pe_lst (pa_cons pe_int (pa_cons pe_int (pa_cons pe_int (pa_cons pe_int pa_nil))))) (pv 1) (fun _ _ => rfl)) pa_nil)))) pa_nil)))))), ?_⟩
    refine ⟨_, rfl, st, 10, rfl, hs, by decide, by decide, fun r1 H1 a1 b1 g1 => ?_⟩
    refine ⟨_, rfl, st, 2, rfl, g1.2 hs, by decide, by decide, fun r2 H2 a2 b2 g2 => ?_⟩
    have g12 := g1.trans g2
    refine ⟨_, rfl, st, 2, rfl, g12.2 hs, by decide, by decide, fun r3 H3 a3 b3 g3 => ?_⟩
    have g13 := g12.trans g3
    refine ⟨_, _, rfl, rfl, (by show 3 ≤ sizeLine; decide), fun p np => ?_⟩
    obtain ⟨s4, e4⟩ := new_at (.lst [.int r1, .int r2, .int (1 + r3)]) np
    generalize upd H3 p (.lst [.int r1, .int r2, .int (1 + r3)]) = H4 at s4 e4 ⊢
    have g14 := g13.trans (gr_same (st := st) s4)
    obtain ⟨d, d0, d1, ed⟩ : ∃ d : Int, 0 ≤ d ∧ d ≤ 9 ∧ atI [V.int r1, .int r2, .int (1 + r3)] (n.fmod 3) = some (.int d) := by
      rcases (by omega : n = 0 ∨ n = 1 ∨ n = 2 ∨ n = 3) with e | e | e | e <;> subst e
      · exact ⟨r1, by omega, by omega, rfl⟩
      · exact ⟨r2, by omega, by omega, rfl⟩
      · exact ⟨1 + r3, by omega, by omega, rfl⟩
      · exact ⟨r1, by omega, by omega, rfl⟩
    refine ⟨_, rfl, n, 3, rfl, rfl, (by show (3 : Int) ≠ 0; decide), p, _, _, _, rfl, rfl, .inl (.inl e4), ed, ?_⟩
    refine ⟨_, rfl, _, rfl, (by show 4 ≤ sizeLine; decide), fun p2 np2 => ?_⟩
    obtain ⟨s5, e5⟩ := new_at (.lst [.int 3, .int 24, .int 6, .int 1]) np2
    generalize upd H4 p2 (.lst [.int 3, .int 24, .int 6, .int 1]) = H5 at s5 e5 ⊢
    have g15 := g14.trans (gr_same (st := st) s5)
    obtain ⟨m, m0, m1, em⟩ : ∃ m : Int, 0 < m ∧ m ≤ 24 ∧ atI [V.int 3, .int 24, .int 6, .int 1] n = some (.int m) := by
      rcases (by omega : n = 0 ∨ n = 1 ∨ n = 2 ∨ n = 3) with e | e | e | e <;> subst e
      · exact ⟨3, by omega, by omega, rfl⟩
      · exact ⟨24, by omega, by omega, rfl⟩
      · exact ⟨6, by omega, by omega, rfl⟩
      · exact ⟨1, by omega, by omega, rfl⟩
    refine ⟨_, rfl, p2, _, n, _, rfl, rfl, .inl (.inl e5), em, st, m, rfl, g15.2 hs, m0, by omega, fun r6 H6 a6 b6 g6 => ?_⟩
    refine ⟨_, _, rfl, rfl, (by show 2 ≤ sizeLine; decide), fun p7 np7 => ?_⟩
    exact q (d, 1 + r6) p7 _ ⟨d0, d1, by show 1 ≤ 1 + r6; omega, by show 1 + r6 ≤ 24; omega⟩ ((g15.trans g6).trans (gr_same (same_upd np7))) upd_same
def sp__law_layer (K : PySem.W.Frag) : Sp := fun vs H Q _ => ∃ (st : Addr), vs = [.ref st] ∧ IsSt H st ∧ ∀ (v : V) (rs : List RW) (bk : Option Int) (H' : Hp), Gr st H H' → LayAt K H' v rs bk → VRows rs → VBack rs bk → Q v H'
theorem ok__law_layer {f : Addr} {fd : FuncData} (F : Fun K "_law_layer" "_law_layer" s__law_layer f fd) (T : Txt K mg) (D__law_take : Cl P w K mg base 1 "_law_take" ["_law_state_here", "_law_many"] (sp__law_take K)) (D__law_row : Cl P w K mg base 2 "_law_row" ["_law_state_here", "_law_way"] (sp__law_row K)) : FnOk P w K mg base CX0 3 f fd ["_law_state_here"] (sp__law_layer K) := by
  refine F.ok sc__law_layer (fun vs H Q E h => ?_) (fun cdv A outer s H vs Q E hr h => ?_)
  · obtain ⟨st, rfl, _⟩ := h
    rfl
  · obtain ⟨st, rfl, hs, q⟩ := h
    refine ⟨_, (pss_cons (ps_asg (pe_tup (pa_cons (pe_own D__law_take (hr.mono (by decide)) (by rfl) (pa_cons (pv 0) (pa_cons pe_int pa_nil))) (pa_cons (pe_ix ix_list (pe_lst (pa_cons (pe_own D__law_take (hr.mono (by decide)) (by rfl) (pa_cons (pv 0) (pa_cons pe_int pa_nil))) (pa_cons (pe_op op_add pe_int (pe_own D__law_take (hr.mono (by decide)) (by rfl) (pa_cons (pv 0) (pa_cons pe_int pa_nil)))) (pa_cons pe_int pa_nil)))) (pe_own D__law_take (hr.mono (by decide)) (by rfl) (pa_cons (pv 0) (pa_cons pe_int pa_nil))) (fun _ _ => rfl)) pa_nil))) (pg_tup (by rfl) (pgs_cons (pg_name (i := 1) sc__law_layer.nd rfl (Or.inr rfl)) (pgs_cons (pg_name (i := 2) sc__law_layer.nd rfl (Or.inl rfl)) pgs_nil))))
      (pss_cons (ps_set (i := 3) sc__law_layer.nd rfl (Or.inl rfl) (pe_callTy call_tuple_of (by rfl) T.b_tuple (by decide +kernel) (pa_cons (pe_lc (own := [("_law_turn", 5)]) (g := (gName 5)) (tt := tYes) (by rfl) sc__law_layer.nd (pi_range1 (by rfl) T.b_range (pa_cons (pv 2) pa_nil)) (blkOk_by (own := [("_law_turn", 5)]) (N := ["_law_state_here", "_law_way", "_law_many", "_law_rows", "_law_back", "_law_turn"]) (sc := defScope s__law_layer) (by decide +kernel)) (fun _ _ _ _ _ => (pg_name (i := 5) sc__law_layer.nd rfl (Or.inl rfl))) (fun _ _ _ _ _ => pts_nil) (fun _ _ _ _ _ => (pe_own D__law_row (hr.mono (by decide)) (by rfl) (pa_cons (pv 0) (pa_cons (pv 1) pa_nil))))) pa_nil)))
      (pss_cons (ps_set (i := 4) sc__law_layer.nd rfl (Or.inl rfl) (pe_own D__law_take (hr.mono (by decide)) (by rfl) (pa_cons (pv 0) (pa_cons (pe_op op_add (pe_callB call_len_seq (by rfl) T.b_len (by decide +kernel) (pa_cons (pv 3) pa_nil)) pe_int) pa_nil))))
      (pss_one (ps_ret (pe_tup (pa_cons (pv 3) (pa_cons (pe_ifExp (pt_cmpR op_lt (pv 4) (pe_callB call_len_seq (by rfl) T.b_len (by decide +kernel) (pa_cons (pv 3) pa_nil)) (nomark _)) (pv 4) pe_non) pa_nil)))))))), ?_⟩
    refine ⟨_, rfl, st, 4, rfl, hs, by decide, by decide, fun wy H1 a1 b1 g1 => ?_⟩
    refine ⟨_, rfl, st, 9, rfl, g1.2 hs, by decide, by decide, fun r2 H2 a2 b2 g2 => ?_⟩
    have g12 := g1.trans g2
    refine ⟨_, rfl, st, 3, rfl, g12.2 hs, by decide, by decide, fun r3 H3 a3 b3 g3 => ?_⟩
    have g13 := g12.trans g3
    refine ⟨_, _, rfl, rfl, (by show 3 ≤ sizeLine; decide), fun p np => ?_⟩
    obtain ⟨s4, e4⟩ := new_at (.lst [.int r2, .int (1 + r3), .int 8]) np
    generalize upd H3 p (.lst [.int r2, .int (1 + r3), .int 8]) = H4 at s4 e4 ⊢
    have g14 := g13.trans (gr_same (st := st) s4)
    refine ⟨_, rfl, st, 3, rfl, g14.2 hs, by decide, by decide, fun r5 H5 a5 b5 g5 => ?_⟩
    have g15 := g14.trans g5
    have np' : p ≠ st := by
      obtain ⟨x, y, hx, _⟩ := g13.2 hs
      exact fun z => by rw [z, hx] at np; cases np
    have e5 := g5.1 p _ np' e4
    obtain ⟨mn, m0, m1, em⟩ : ∃ m : Int, 0 ≤ m ∧ m ≤ 8 ∧ atI [V.int r2, .int (1 + r3), .int 8] r5 = some (.int m) := by
      rcases (by omega : r5 = 0 ∨ r5 = 1 ∨ r5 = 2) with e | e | e <;> subst e
      · exact ⟨r2, by omega, by omega, rfl⟩
      · exact ⟨1 + r3, by omega, by omega, rfl⟩
      · exact ⟨8, by omega, by omega, rfl⟩
    refine ⟨p, _, r5, _, rfl, rfl, .inl (.inl e5), em, (by show 2 ≤ sizeLine; decide), fun p6 np6 => ?_⟩
    obtain ⟨s6, e6⟩ := new_at (.tup [.int wy, .int mn]) np6
    generalize upd H5 p6 (.tup [.int wy, .int mn]) = H6 at s6 e6 ⊢
    have g16 := g15.trans (gr_same (st := st) s6)
    have hs6 := g16.2 hs
    refine ⟨p6, _, rfl, .inl (.inl e6), rfl, _, _, rfl, _, _, rfl, rfl, ?_⟩
    refine ⟨_, rfl, mn, rfl, by omega, by omega, fun D hD => ?_⟩
    have nD : D ≠ st := by
      obtain ⟨x, y, hx, _⟩ := hs6
      exact fun z => by rw [z, hx] at hD; cases hD
    refine lc_range (lo := 0) (n := mn.toNat) (fun i H' => Gr st H6 H' ∧ ∃ (vs : List V) (rs : List RW), H' D = some (.lst vs) ∧ vs.length = i ∧ Paired (RowAt K H') vs rs ∧ ∀ r ∈ rs, VRow r)
      ⟨gr_same (same_upd hD), [], [], upd_same, rfl, .nil, fun r hr => by cases hr⟩ (fun i H7 hi p7 => ?_) (fun H7 p7 => ?_)
    · obtain ⟨g7, vs, rs, hL, hlen, pd, vr⟩ := p7
      refine ⟨rfl, yes_ok ⟨_, rfl, _, rfl, st, wy, rfl, g7.2 hs6, a1, b1, fun r p8 H8 vr8 g8 e8 => ?_⟩⟩
      have hL8 := g8.1 D _ nD hL
      refine ⟨vs, hL8, ?_, ?_, vs ++ [.ref p8], rs ++ [r], upd_same, ?_, ?_, ?_⟩
      · exact small1000 (by omega)
      · refine ⟨fun b o nb e => ?_, fun hz => ?_⟩
        · rw [upd_ne (ne_of_none e hD)]
          exact (g7.trans g8).1 b o nb e
        · obtain ⟨x, y, hx, hxy⟩ := (g7.trans g8).2 hz
          refine ⟨x, y, ?_, hxy⟩
          rw [upd_ne (Ne.symm nD)]
          exact hx
      · rw [List.length_append, hlen]
        rfl
      · have k1 : TKeep K H7 (upd H8 D (.lst (vs ++ [.ref p8]))) := fun a xs h => tk_updL hL8 _ _ (g8.sqT (g7.2 hs6) h)
        exact Paired.snocP (Paired.mono pd fun _ _ => RowAt.keep k1) ⟨p8, rfl, tk_updL hL8 _ _ (.inl (.inl e8))⟩
      · intro x hx
        rcases List.mem_append.mp hx with z | z
        · exact vr x z
        · rw [List.mem_singleton.mp z]
          exact vr8
    · obtain ⟨g7, vs, rs, hL, hlen, pd, vr⟩ := p7
      have hl : vs.length = rs.length := Paired.length pd
      refine ⟨D, vs, rfl, .inl ⟨.inl (.inl hL), fun l nl => ?_⟩⟩
      obtain ⟨s8, e8⟩ := new_at (.tup vs) nl
      generalize upd H7 l (.tup vs) = H8 at s8 e8 ⊢
      have g18 := (g16.trans g7).trans (gr_same (st := st) s8)
      have hrows : RowsAt K H8 (.ref l) rs := ⟨l, vs, rfl, .inl (.inl e8), Paired.mono pd fun _ _ => RowAt.keep (Same.tk s8)⟩
      refine ⟨_, rfl, _, rfl, l, vs, rfl, .inr (.inl (.inl e8)), _, _, rfl, rfl, st, _, rfl, g18.2 hs, by omega, by omega, fun b H9 a9 b9 g9 => ?_⟩
      have k9 : TKeep K H8 H9 := g9.tk (g18.2 hs)
      have e9 : SqT K H9 l vs := k9 _ _ (.inl (.inl e8))
      refine ⟨_, rfl, _, rfl, _, rfl, l, vs, rfl, .inr e9, _, _, rfl, rfl, _, rfl, ite2 (fun e => ?_) (fun e => ?_)⟩
      · have e1 : b < (vs.length : Int) := of_decide_eq_true e
        refine ⟨_, rfl, (by show 2 ≤ sizeLine; decide), fun t nt => ?_⟩
        have st' := same_upd (o := .tup [.ref l, .int b]) nt
        refine q _ rs (some b) _ ((g18.trans g9).trans (gr_same st')) ⟨t, _, rfl, .inl (.inl upd_same), (hrows.keep k9).keep (Same.tk st')⟩ ⟨by omega, vr⟩ (fun i ei => ?_)
        have : b = i := Option.some.inj ei
        omega
      · refine ⟨(by show 2 ≤ sizeLine; decide), fun t nt => ?_⟩
        have st' := same_upd (o := .tup [.ref l, .non]) nt
        exact q _ rs none _ ((g18.trans g9).trans (gr_same st')) ⟨t, _, rfl, .inl (.inl upd_same), (hrows.keep k9).keep (Same.tk st')⟩ ⟨by omega, vr⟩ (fun i ei => nomatch ei)
end

/-! ### windows -/
abbrev MV := Int × Int × Int
def MoveAt (K : PySem.W.Frag) (H : Hp) (v : V) (m : MV) : Prop := ∃ p, v = .ref p ∧ SqT K H p [.int m.1, .int m.2.1, .int m.2.2]
def MovesAt (K : PySem.W.Frag) (H : Hp) (v : V) (ms : List MV) : Prop := ∃ p vs, v = .ref p ∧ SqT K H p vs ∧ Paired (MoveAt K H) vs ms
def WinAt (K : PySem.W.Frag) (H : Hp) (v : V) (x y : Int) (ms : List MV) : Prop := ∃ p mv, v = .ref p ∧ SqT K H p [.int x, .int y, mv] ∧ MovesAt K H mv ms
def VMove (m : MV) : Prop := (-20 ≤ m.1 ∧ m.1 ≤ 20) ∧ (-20 ≤ m.2.1 ∧ m.2.1 ≤ 20) ∧ 0 ≤ m.2.2 ∧ m.2.2 ≤ 24
def VWin (x y : Int) (ms : List MV) : Prop := (-20 ≤ x ∧ x ≤ 20) ∧ (-20 ≤ y ∧ y ≤ 20) ∧ ms.length ≤ 8 ∧ ∀ m ∈ ms, VMove m
theorem MoveAt.keep {K : PySem.W.Frag} {H H' : Hp} {v : V} {m : MV} (k : TKeep K H H') : MoveAt K H v m → MoveAt K H' v m := fun ⟨p, e, h⟩ => ⟨p, e, k _ _ h⟩
theorem MovesAt.keep {K : PySem.W.Frag} {H H' : Hp} {v : V} {ms : List MV} (k : TKeep K H H') : MovesAt K H v ms → MovesAt K H' v ms := fun ⟨p, vs, e, h, q⟩ => ⟨p, vs, e, k _ _ h, Paired.mono q fun _ _ => MoveAt.keep k⟩
theorem WinAt.keep {K : PySem.W.Frag} {H H' : Hp} {v : V} {x y : Int} {ms : List MV} (k : TKeep K H H') : WinAt K H v x y ms → WinAt K H' v x y ms := fun ⟨p, mv, e, h, q⟩ => ⟨p, mv, e, k _ _ h, q.keep k⟩
def mtot (ms : List MV) : Int := (ms.map (·.2.2)).sum
section
variable {P : Program} {w : World} {K : PySem.W.Frag} {mg : Str → Option Value} {base : Heap}
def sp_is_spot (K : PySem.W.Frag) : Sp := fun vs H Q _ => ∃ x y : Int, vs = [.int x, .int y] ∧ (-20 ≤ x ∧ x ≤ 20) ∧ (-20 ≤ y ∧ y ≤ 20) ∧ Q (.bl true) H
theorem ok_is_spot {f : Addr} {fd : FuncData} (F : Fun K "is_spot" "is_spot" s_is_spot f fd) (T : Txt K mg) (D_is_whole : Cl P w K mg base 1 "is_whole" ["thing", "least", "most"] (sp_is_whole K)) : FnOk P w K mg base CX0 2 f fd ["x", "y"] (sp_is_spot K) := by
  refine F.ok sc_is_spot (fun vs H Q E h => ?_) (fun cdv A outer s H vs Q E hr h => ?_)
  · obtain ⟨x, y, rfl, _⟩ := h
    rfl
  · obtain ⟨x, y, rfl, hx, hy, q⟩ := h
    refine ⟨_, (pss_one (ps_ret (pe_and (pe_own D_is_whole (hr.mono (by decide)) (by rfl) (pa_cons (pv 0) (pa_cons (pe_un un_neg (pe_gint (by rfl) T.c_MOST_WAY)) (pa_cons (pe_gint (by rfl) T.c_MOST_WAY) pa_nil)))) (pe_one (pe_own D_is_whole (hr.mono (by decide)) (by rfl) (pa_cons (pv 1) (pa_cons (pe_un un_neg (pe_gint (by rfl) T.c_MOST_WAY)) (pa_cons (pe_gint (by rfl) T.c_MOST_WAY) pa_nil)))))))), ?_⟩
    refine ⟨_, rfl, 20, rfl, x, -20, 20, rfl, true, ?_, iteT ?_⟩
    · rw [show decide ((-20 : Int) ≤ x ∧ x ≤ 20) = true from decide_eq_true hx]
    · refine ⟨_, rfl, 20, rfl, y, -20, 20, rfl, ?_⟩
      rw [show decide ((-20 : Int) ≤ y ∧ y ≤ 20) = true from decide_eq_true hy]
      exact q
def sp_is_move (K : PySem.W.Frag) : Sp := fun vs H Q _ => ∃ (v : V) (m : MV), vs = [v] ∧ MoveAt K H v m ∧ VMove m ∧ Q (.bl true) H
theorem ok_is_move {f : Addr} {fd : FuncData} (F : Fun K "is_move" "is_move" s_is_move f fd) (T : Txt K mg) (D_is_tuple : Cl P w K mg base 1 "is_tuple" ["thing", "least", "most"] (sp_is_tuple K)) (D_is_spot : Cl P w K mg base 2 "is_spot" ["x", "y"] (sp_is_spot K)) (D_is_whole : Cl P w K mg base 1 "is_whole" ["thing", "least", "most"] (sp_is_whole K)) : FnOk P w K mg base CX0 3 f fd ["thing"] (sp_is_move K) := by
  refine F.ok sc_is_move (fun vs H Q E h => ?_) (fun cdv A outer s H vs Q E hr h => ?_)
  · obtain ⟨v, m, rfl, _⟩ := h
    rfl
  · obtain ⟨v, ⟨x, y, n⟩, rfl, ⟨p, rfl, hp⟩, ⟨vx, vy, v3, v4⟩, q⟩ := h
    refine ⟨_, (pss_cons (ps_if (pt_not (pt_val (pe_own D_is_tuple (hr.mono (by decide)) (by rfl) (pa_cons (pv 0) (pa_cons pe_int (pa_cons pe_int pa_nil)))))) (pss_one (ps_ret pe_bl)) pss_nil)
      (pss_cons (ps_asg (pv 0) (pg_tup (by rfl) (pgs_cons (pg_name (i := 1) sc_is_move.nd rfl (Or.inl rfl)) (pgs_cons (pg_name (i := 2) sc_is_move.nd rfl (Or.inl rfl)) (pgs_cons (pg_name (i := 3) sc_is_move.nd rfl (Or.inl rfl)) pgs_nil)))))
      (pss_one (ps_ret (pe_and (pe_own D_is_spot (hr.mono (by decide)) (by rfl) (pa_cons (pv 1) (pa_cons (pv 2) pa_nil))) (pe_one (pe_own D_is_whole (hr.mono (by decide)) (by rfl) (pa_cons (pv 3) (pa_cons pe_int (pa_cons (pe_gint (by rfl) T.c_MOST_MANY) pa_nil)))))))))), ?_⟩
    refine ⟨_, rfl, p, _, 3, 3, rfl, hp, _, rfl, iteF ?_⟩
    refine ⟨_, rfl, p, _, rfl, hp, rfl, _, _, rfl, _, _, rfl, _, _, rfl, rfl, ?_⟩
    refine ⟨_, rfl, _, rfl, x, y, rfl, vx, vy, true, rfl, iteT ?_⟩
    refine ⟨_, rfl, n, 0, 24, rfl, ?_⟩
    rw [show decide ((0 : Int) ≤ n ∧ n ≤ 24) = true from decide_eq_true ⟨v3, v4⟩]
    exact q
def sp_is_window (K : PySem.W.Frag) : Sp := fun vs H Q _ => ∃ (v : V) (x y : Int) (ms : List MV), vs = [v] ∧ WinAt K H v x y ms ∧ VWin x y ms ∧ ∀ H', Same H H' → Q (.bl true) H'
theorem ok_is_window {f : Addr} {fd : FuncData} (F : Fun K "is_window" "is_window" s_is_window f fd) (T : Txt K mg) (D_is_tuple : Cl P w K mg base 1 "is_tuple" ["thing", "least", "most"] (sp_is_tuple K)) (D_is_spot : Cl P w K mg base 2 "is_spot" ["x", "y"] (sp_is_spot K)) (D_is_move : Cl P w K mg base 3 "is_move" ["thing"] (sp_is_move K)) : FnOk P w K mg base CX0 4 f fd ["thing"] (sp_is_window K) := by
  refine F.ok sc_is_window (fun vs H Q E h => ?_) (fun cdv A outer s H vs Q E hr h => ?_)
  · obtain ⟨v, x, y, ms, rfl, _⟩ := h
    rfl
  · obtain ⟨v, x, y, ms, rfl, ⟨p, mv, rfl, hp, pm, vs, rfl, hq, pd⟩, ⟨vx, vy, v8, vm⟩, q⟩ := h
    have hl : vs.length = ms.length := Paired.length pd
    refine ⟨_, (pss_cons (ps_if (pt_not (pt_val (pe_own D_is_tuple (hr.mono (by decide)) (by rfl) (pa_cons (pv 0) (pa_cons pe_int (pa_cons pe_int pa_nil)))))) (pss_one (ps_ret pe_bl)) pss_nil)
      (pss_cons (ps_asg (pv 0) (pg_tup (by rfl) (pgs_cons (pg_name (i := 1) sc_is_window.nd rfl (Or.inl rfl)) (pgs_cons (pg_name (i := 2) sc_is_window.nd rfl (Or.inl rfl)) (pgs_cons (pg_name (i := 3) sc_is_window.nd rfl (Or.inl rfl)) pgs_nil)))))
      (pss_cons (ps_if (PW.pt (pw_or (pt_not (pt_val (pe_own D_is_spot (hr.mono (by decide)) (by rfl) (pa_cons (pv 1) (pa_cons (pv 2) pa_nil))))) (pw_or1 (pt_not (pt_val (pe_own D_is_tuple (hr.mono (by decide)) (by rfl) (pa_cons (pv 3) (pa_cons pe_int (pa_cons (pe_gint (by rfl) T.c_MOST_MOVES) pa_nil))))))))) (pss_one (ps_ret pe_bl)) pss_nil)
      (pss_one (ps_ret (pe_callB (cr_all rfl) (by rfl) T.b_all (by decide +kernel) (pa_cons (pe_lc (own := [("move", 4)]) (g := (gName 4)) (tt := tYes) (by rfl) sc_is_window.nd (pi_tup (pv 3)) (blkOk_by (own := [("move", 4)]) (N := ["thing", "x", "y", "moves", "move"]) (sc := defScope s_is_window) (by decide +kernel)) (fun _ _ _ _ _ => (pg_name (i := 4) sc_is_window.nd rfl (Or.inl rfl))) (fun _ _ _ _ _ => pts_nil) (fun _ _ _ _ _ => (pe_own D_is_move (hr.mono (by decide)) (by rfl) (pa_cons (pv 4) pa_nil)))) pa_nil))))))), ?_⟩
    refine ⟨_, rfl, p, _, 3, 3, rfl, hp, _, rfl, iteF ?_⟩
    refine ⟨_, rfl, p, _, rfl, hp, rfl, _, _, rfl, _, _, rfl, _, _, rfl, rfl, ?_⟩
    refine ⟨_, rfl, _, rfl, x, y, rfl, vx, vy, _, rfl, iteF ?_⟩
    refine ⟨_, rfl, pm, vs, 0, 8, rfl, hq, _, rfl, ?_⟩
    rw [show decide ((0 : Int) ≤ (vs.length : Int) ∧ (vs.length : Int) ≤ 8) = true from decide_eq_true ⟨by omega, by omega⟩]
    refine iteF ?_
    refine ⟨_, rfl, pm, rfl, ⟨_, hq⟩, fun D hD => ?_⟩
    refine lcmap_tup ((vs.map fun _ => true).map V.bl) (by simp) (by omega) hq hD (fun i x y H2 R Z hx hy s2 hR => ?_) (fun H2 s2 hL => ?_)
    · obtain ⟨m, hm1, hm⟩ := Paired.at pd hx
      have ey : y = .bl true := by
        rw [List.map_map, List.getElem?_map, hx] at hy
        exact (Option.some.inj hy).symm
      subst ey
      exact ⟨rfl, yes_ok ⟨_, rfl, x, m, rfl, hm.keep (Same.tk s2), vm m (List.mem_of_getElem? hm1), hR _ (Same.refl _)⟩⟩
    · refine ⟨D, _, rfl, .inl (.inl hL), ?_⟩
      rw [show ((vs.map fun _ => true).all id) = true by simp]
      exact q _ s2
def sp_need_window (K : PySem.W.Frag) : Sp := fun vs H Q _ => ∃ (v : V) (x y : Int) (ms : List MV), vs = [v] ∧ WinAt K H v x y ms ∧ VWin x y ms ∧ ∀ H', Same H H' → Q .non H'
theorem ok_need_window {f : Addr} {fd : FuncData} (F : Fun K "need_window" "need_window" s_need_window f fd) (T : Txt K mg) (D_is_window : Cl P w K mg base 4 "is_window" ["thing"] (sp_is_window K)) : FnOk P w K mg base CX0 5 f fd ["thing"] (sp_need_window K) := by
  refine F.ok sc_need_window (fun vs H Q E h => ?_) (fun cdv A outer s H vs Q E hr h => ?_)
  · obtain ⟨v, x, y, ms, rfl, _⟩ := h
    rfl
  · obtain ⟨v, x, y, ms, rfl, hl, v8, q⟩ := h
    refine ⟨_, (pss_one (ps_if (pt_not (pt_val (pe_own D_is_window (hr.mono (by decide)) (by rfl) (pa_cons (pv 0) pa_nil)))) (pss_one ps_never) pss_nil)), ?_⟩
    exact ⟨_, rfl, v, x, y, ms, rfl, hl, v8, fun H' s' => ⟨_, rfl, iteF (q _ s')⟩⟩
end

section
variable {P : Program} {w : World} {K : PySem.W.Frag} {mg : Str → Option Value} {base : Heap}
def sp_moved (K : PySem.W.Frag) : Sp := fun vs H Q _ => ∃ (v : V) (x y : Int) (ms : List MV), vs = [v] ∧ WinAt K H v x y ms ∧ ms.length ≤ 8 ∧ ∀ H', Same H H' → Q (.int (mtot ms)) H'
theorem ok_moved {f : Addr} {fd : FuncData} (F : Fun K "moved" "moved" s_moved f fd) (T : Txt K mg) : FnOk P w K mg base CX0 1 f fd ["window"] (sp_moved K) := by
  refine F.ok sc_moved (fun vs H Q E h => ?_) (fun cdv A outer s H vs Q E hr h => ?_)
  · obtain ⟨v, x, y, ms, rfl, _⟩ := h
    rfl
  · obtain ⟨v, x, y, ms, rfl, ⟨p, mv, rfl, hp, pm, vs, rfl, hq, pd⟩, hz, q⟩ := h
    have hl : vs.length = ms.length := Paired.length pd
    refine ⟨_, (pss_cons (ps_asg (pv 0) (pg_tup (by rfl) (pgs_cons (pg_name (i := 1) sc_moved.nd rfl (Or.inl rfl)) (pgs_cons (pg_name (i := 2) sc_moved.nd rfl (Or.inl rfl)) (pgs_cons (pg_name (i := 3) sc_moved.nd rfl (Or.inl rfl)) pgs_nil)))))
      (pss_one (ps_ret (pe_callB (cr_sum rfl) (by rfl) T.b_sum (by decide +kernel) (pa_cons (pe_lc (own := [("goal_x", 4), ("goal_y", 5), ("many", 6)]) (g := (gTup _ 3 (gCons (gName 4) (gCons (gName 5) (gCons (gName 6) gNil))))) (tt := tYes) (by rfl) sc_moved.nd (pi_tup (pv 3)) (blkOk_by (own := [("goal_x", 4), ("goal_y", 5), ("many", 6)]) (N := ["window", "x", "y", "moves", "goal_x", "goal_y", "many"]) (sc := defScope s_moved) (by decide +kernel)) (fun _ _ _ _ _ => (pg_tup (by rfl) (pgs_cons (pg_name (i := 4) sc_moved.nd rfl (Or.inl rfl)) (pgs_cons (pg_name (i := 5) sc_moved.nd rfl (Or.inl rfl)) (pgs_cons (pg_name (i := 6) sc_moved.nd rfl (Or.inl rfl)) pgs_nil))))) (fun _ _ _ _ _ => pts_nil) (fun _ _ _ _ _ => (pv 6))) pa_nil))))), ?_⟩
    refine ⟨_, rfl, p, _, rfl, hp, rfl, _, _, rfl, _, _, rfl, _, _, rfl, rfl, ?_⟩
    refine ⟨_, rfl, pm, rfl, ⟨_, hq⟩, fun D hD => ?_⟩
    refine lcmap_tup ((ms.map (·.2.2)).map V.int) (by simp [hl]) (by omega) hq hD (fun i x y H2 R Z hx hy s2 hR => ?_) (fun H2 s2 hL => ?_)
    · obtain ⟨m, hm1, pw, rfl, hrow⟩ := Paired.at pd hx
      have ey : y = .int m.2.2 := by
        rw [List.map_map, List.getElem?_map, hm1] at hy
        exact (Option.some.inj hy).symm
      subst ey
      exact ⟨pw, _, rfl, Same.sqT s2 hrow, rfl, _, _, rfl, _, _, rfl, _, _, rfl, rfl, rfl, yes_ok ⟨_, rfl, hR _ (Same.refl _)⟩⟩
    · exact ⟨D, _, rfl, .inl (.inl hL), q _ s2⟩
end

/-! ### sheets -/
abbrev LY := List RW × Option Int
def LyAt (K : PySem.W.Frag) (H : Hp) (v : V) (l : LY) : Prop := LayAt K H v l.1 l.2
def LaysAt (K : PySem.W.Frag) (H : Hp) (v : V) (ls : List LY) : Prop := ∃ p vs, v = .ref p ∧ SqT K H p vs ∧ Paired (LyAt K H) vs ls
def VLy (l : LY) : Prop := VRows l.1 ∧ VBack l.1 l.2
def VLays (ls : List LY) : Prop := 1 ≤ ls.length ∧ ls.length ≤ 4 ∧ ∀ l ∈ ls, VLy l
def ShAt (K : PySem.W.Frag) (H : Hp) (v : V) (ls : List LY) (x y : Int) (ms : List MV) : Prop := ∃ p lv wv, v = .ref p ∧ SqT K H p [lv, wv] ∧ LaysAt K H lv ls ∧ WinAt K H wv x y ms
theorem LyAt.keep {K : PySem.W.Frag} {H H' : Hp} {v : V} {l : LY} (k : TKeep K H H') : LyAt K H v l → LyAt K H' v l := LayAt.keep k
theorem LaysAt.keep {K : PySem.W.Frag} {H H' : Hp} {v : V} {ls : List LY} (k : TKeep K H H') : LaysAt K H v ls → LaysAt K H' v ls := fun ⟨p, vs, e, h, q⟩ => ⟨p, vs, e, k _ _ h, Paired.mono q fun _ _ => LyAt.keep k⟩
theorem ShAt.keep {K : PySem.W.Frag} {H H' : Hp} {v : V} {ls : List LY} {x y : Int} {ms : List MV} (k : TKeep K H H') : ShAt K H v ls x y ms → ShAt K H' v ls x y ms := fun ⟨p, lv, wv, e, h, q, r⟩ => ⟨p, lv, wv, e, k _ _ h, q.keep k, r.keep k⟩
section
variable {P : Program} {w : World} {K : PySem.W.Frag} {mg : Str → Option Value} {base : Heap}
def sp_is_sheet (K : PySem.W.Frag) : Sp := fun vs H Q _ => ∃ (v : V) (ls : List LY) (x y : Int) (ms : List MV), vs = [v] ∧ ShAt K H v ls x y ms ∧ VLays ls ∧ VWin x y ms ∧ ∀ H', Same H H' → Q (.bl true) H'
theorem ok_is_sheet {f : Addr} {fd : FuncData} (F : Fun K "is_sheet" "is_sheet" s_is_sheet f fd) (T : Txt K mg) (D_is_tuple : Cl P w K mg base 1 "is_tuple" ["thing", "least", "most"] (sp_is_tuple K)) (D_is_window : Cl P w K mg base 4 "is_window" ["thing"] (sp_is_window K)) (D_is_layer : Cl P w K mg base 3 "is_layer" ["thing"] (sp_is_layer K)) : FnOk P w K mg base CX0 5 f fd ["thing"] (sp_is_sheet K) := by
  refine F.ok sc_is_sheet (fun vs H Q E h => ?_) (fun cdv A outer s H vs Q E hr h => ?_)
  · obtain ⟨v, ls, x, y, ms, rfl, _⟩ := h
    rfl
  · obtain ⟨v, ls, x, y, ms, rfl, ⟨p, lv, wv, rfl, hp, ⟨pl, vs, rfl, hq, pd⟩, hw⟩, ⟨v1, v4, vl⟩, vw, q⟩ := h
    have hl : vs.length = ls.length := Paired.length pd
    refine ⟨_, (pss_cons (ps_if (pt_not (pt_val (pe_own D_is_tuple (hr.mono (by decide)) (by rfl) (pa_cons (pv 0) (pa_cons pe_int (pa_cons pe_int pa_nil)))))) (pss_one (ps_ret pe_bl)) pss_nil)
      (pss_cons (ps_asg (pv 0) (pg_tup (by rfl) (pgs_cons (pg_name (i := 1) sc_is_sheet.nd rfl (Or.inl rfl)) (pgs_cons (pg_name (i := 2) sc_is_sheet.nd rfl (Or.inl rfl)) pgs_nil))))
      (pss_cons (ps_if (pt_not (pt_val (pe_own D_is_tuple (hr.mono (by decide)) (by rfl) (pa_cons (pv 1) (pa_cons pe_int (pa_cons (pe_gint (by rfl) T.c_MOST_LAYERS) pa_nil)))))) (pss_one (ps_ret pe_bl)) pss_nil)
      (pss_one (ps_ret (pe_and (pe_callB (cr_all rfl) (by rfl) T.b_all (by decide +kernel) (pa_cons (pe_lc (own := [("layer", 3)]) (g := (gName 3)) (tt := tYes) (by rfl) sc_is_sheet.nd (pi_tup (pv 1)) (blkOk_by (own := [("layer", 3)]) (N := ["thing", "layers", "window", "layer"]) (sc := defScope s_is_sheet) (by decide +kernel)) (fun _ _ _ _ _ => (pg_name (i := 3) sc_is_sheet.nd rfl (Or.inl rfl))) (fun _ _ _ _ _ => pts_nil) (fun _ _ _ _ _ => (pe_own D_is_layer (hr.mono (by decide)) (by rfl) (pa_cons (pv 3) pa_nil)))) pa_nil)) (pe_one (pe_own D_is_window (hr.mono (by decide)) (by rfl) (pa_cons (pv 2) pa_nil))))))))), ?_⟩
    refine ⟨_, rfl, p, _, 2, 2, rfl, hp, _, rfl, iteF ?_⟩
    refine ⟨_, rfl, p, _, rfl, hp, rfl, _, _, rfl, _, _, rfl, rfl, ?_⟩
    refine ⟨_, rfl, pl, vs, 1, 4, rfl, hq, _, rfl, ?_⟩
    rw [show decide ((1 : Int) ≤ (vs.length : Int) ∧ (vs.length : Int) ≤ 4) = true from decide_eq_true ⟨by omega, by omega⟩]
    refine iteF ?_
    refine ⟨_, rfl, pl, rfl, ⟨_, hq⟩, fun D hD => ?_⟩
    refine lcmap_tup ((vs.map fun _ => true).map V.bl) (by simp) (by omega) hq hD (fun i x y H2 R Z hx hy s2 hR => ?_) (fun H2 s2 hL => ?_)
    · obtain ⟨l, hl1, hly⟩ := Paired.at pd hx
      have ey : y = .bl true := by
        rw [List.map_map, List.getElem?_map, hx] at hy
        exact (Option.some.inj hy).symm
      subst ey
      have vl1 := vl l (List.mem_of_getElem? hl1)
      exact ⟨rfl, yes_ok ⟨_, rfl, x, l.1, l.2, rfl, LayAt.keep (Same.tk s2) hly, vl1.1, vl1.2, hR⟩⟩
    · refine ⟨D, _, rfl, .inl (.inl hL), true, ?_, iteT ?_⟩
      · rw [show ((vs.map fun _ => true).all id) = true by simp]
      · exact ⟨_, rfl, wv, x, y, ms, rfl, hw.keep (Same.tk s2), vw, fun H3 s3 => q _ (s2.trans s3)⟩
def sp_need_sheet (K : PySem.W.Frag) : Sp := fun vs H Q _ => ∃ (v : V) (ls : List LY) (x y : Int) (ms : List MV), vs = [v] ∧ ShAt K H v ls x y ms ∧ VLays ls ∧ VWin x y ms ∧ ∀ H', Same H H' → Q .non H'
theorem ok_need_sheet {f : Addr} {fd : FuncData} (F : Fun K "need_sheet" "need_sheet" s_need_sheet f fd) (T : Txt K mg) (D_is_sheet : Cl P w K mg base 5 "is_sheet" ["thing"] (sp_is_sheet K)) : FnOk P w K mg base CX0 6 f fd ["thing"] (sp_need_sheet K) := by
  refine F.ok sc_need_sheet (fun vs H Q E h => ?_) (fun cdv A outer s H vs Q E hr h => ?_)
  · obtain ⟨v, ls, x, y, ms, rfl, _⟩ := h
    rfl
  · obtain ⟨v, ls, x, y, ms, rfl, hl, v8, vw, q⟩ := h
    refine ⟨_, (pss_one (ps_if (pt_not (pt_val (pe_own D_is_sheet (hr.mono (by decide)) (by rfl) (pa_cons (pv 0) pa_nil)))) (pss_one ps_never) pss_nil)), ?_⟩
    exact ⟨_, rfl, v, ls, x, y, ms, rfl, hl, v8, vw, fun H' s' => ⟨_, rfl, iteF (q _ s')⟩⟩
end

/-! ### lengths -/
def lenL (l : LY) : Option Int := match l.2 with
  | none => some (tot l.1)
  | some _ => none
/-- r is the length of a sheet -/
def ShLen (ls : List LY) (last : Int) (r : Option Int) : Prop :=
  ((∃ l ∈ ls, lenL l = none) ∧ r = none) ∨ ((∀ l ∈ ls, lenL l = some (tot l.1)) ∧ ∃ m, r = some m ∧ m ∈ ls.map (fun l => tot l.1) ++ [last] ∧ ∀ y ∈ ls.map (fun l => tot l.1) ++ [last], y ≤ m)
theorem ShLen.uniq {ls : List LY} {last : Int} {r q : Option Int} (a : ShLen ls last r) (b : ShLen ls last q) : r = q := by
  rcases a with ⟨⟨l, hl, e⟩, rfl⟩ | ⟨h, m, rfl, hm, hx⟩
  · rcases b with ⟨_, rfl⟩ | ⟨h, _⟩
    · rfl
    · rw [h l hl] at e
      cases e
  · rcases b with ⟨⟨l, hl, e⟩, rfl⟩ | ⟨_, m', rfl, hm', hx'⟩
    · rw [h l hl] at e
      cases e
    · have := hx m' hm'
      have := hx' m hm
      congr 1
      omega
theorem bk_flat (o : Option Int) : flatV (bkV o) = true := by
  cases o <;> rfl
theorem in_ends (ls : List LY) : inV .non (ls.map fun l => bkV (lenL l)) = true ↔ ∃ l ∈ ls, lenL l = none := by
  unfold inV
  rw [List.any_eq_true]
  constructor
  · rintro ⟨y, hy, e⟩
    obtain ⟨l, hl, rfl⟩ := List.mem_map.mp hy
    refine ⟨l, hl, ?_⟩
    cases z : lenL l with
    | none => rfl
    | some i =>
      rw [z] at e
      cases e
  · rintro ⟨l, hl, e⟩
    exact ⟨_, List.mem_map.mpr ⟨l, hl, rfl⟩, by rw [e]; rfl⟩
theorem all_ints {ls : List LY} (h : ¬ ∃ l ∈ ls, lenL l = none) : (∀ l ∈ ls, lenL l = some (tot l.1)) ∧ (ls.map fun l => bkV (lenL l)) = (ls.map fun l => tot l.1).map V.int := by
  have h1 : ∀ l ∈ ls, lenL l = some (tot l.1) := fun l hl => by
    cases z : l.2 with
    | none =>
      unfold lenL
      rw [z]
    | some i =>
      exact absurd ⟨l, hl, by unfold lenL; rw [z]⟩ h
  refine ⟨h1, ?_⟩
  rw [List.map_map]
  exact List.map_congr_left fun l hl => by rw [h1 l hl]; rfl
section
variable {P : Program} {w : World} {K : PySem.W.Frag} {mg : Str → Option Value} {base : Heap}
def sp_length_of (K : PySem.W.Frag) : Sp := fun vs H Q _ => ∃ (v : V) (l : LY), vs = [v] ∧ LyAt K H v l ∧ VLy l ∧ ∀ H', Same H H' → Q (bkV (lenL l)) H'
theorem ok_length_of {f : Addr} {fd : FuncData} (F : Fun K "length_of" "length_of" s_length_of f fd) (T : Txt K mg) (D_held : Cl P w K mg base 1 "held" ["rows"] (sp_held K)) : FnOk P w K mg base CX0 2 f fd ["layer"] (sp_length_of K) := by
  refine F.ok sc_length_of (fun vs H Q E h => ?_) (fun cdv A outer s H vs Q E hr h => ?_)
  · obtain ⟨v, l, rfl, _⟩ := h
    rfl
  · obtain ⟨v, ⟨rs, bk⟩, rfl, ⟨p, rv, rfl, hp, hq⟩, ⟨v8, vb⟩, q⟩ := h
    refine ⟨_, (pss_cons (ps_asg (pv 0) (pg_tup (by rfl) (pgs_cons (pg_name (i := 1) sc_length_of.nd rfl (Or.inl rfl)) (pgs_cons (pg_name (i := 2) sc_length_of.nd rfl (Or.inl rfl)) pgs_nil))))
      (pss_one (ps_ret (pe_ifExp (pt_cmpR op_isN (pv 2) pe_non (nomark _)) (pe_own D_held (hr.mono (by decide)) (by rfl) (pa_cons (pv 1) pa_nil)) pe_non)))), ?_⟩
    refine ⟨_, rfl, p, _, rfl, hp, rfl, _, _, rfl, _, _, rfl, rfl, ?_⟩
    refine ⟨_, rfl, rfl, _, rfl, ?_⟩
    cases bk with
    | none =>
      refine ite2 (fun _ => ?_) (fun e => absurd (decide_eq_true rfl) e)
      have := v8.1
      exact ⟨_, rfl, rv, rs, rfl, hq, by dsimp only at this; omega, q⟩
    | some b => exact ite2 (fun e => nomatch (of_decide_eq_true e)) (fun _ => q _ (Same.refl _))
def sp_layer_length (K : PySem.W.Frag) : Sp := fun vs H Q _ => ∃ (v : V) (l : LY), vs = [v] ∧ LyAt K H v l ∧ VLy l ∧ ∀ H', Same H H' → Q (bkV (lenL l)) H'
theorem ok_layer_length {f : Addr} {fd : FuncData} (F : Fun K "layer_length" "layer_length" s_layer_length f fd) (T : Txt K mg) (D_need_layer : Cl P w K mg base 4 "need_layer" ["thing"] (sp_need_layer K)) (D_length_of : Cl P w K mg base 2 "length_of" ["layer"] (sp_length_of K)) : FnOk P w K mg base CX0 5 f fd ["layer"] (sp_layer_length K) := by
  refine F.ok sc_layer_length (fun vs H Q E h => ?_) (fun cdv A outer s H vs Q E hr h => ?_)
  · obtain ⟨v, l, rfl, _⟩ := h
    rfl
  · obtain ⟨v, l, rfl, hl, vl, q⟩ := h
    refine ⟨_, (pss_cons (ps_expr (pe_own D_need_layer (hr.mono (by decide)) (by rfl) (pa_cons (pv 0) pa_nil)))
      (pss_one (ps_ret (pe_own D_length_of (hr.mono (by decide)) (by rfl) (pa_cons (pv 0) pa_nil))))), ?_⟩
    refine ⟨_, rfl, v, l.1, l.2, rfl, hl, vl.1, vl.2, fun H1 s1 => ?_⟩
    exact ⟨_, rfl, v, l, rfl, hl.keep (Same.tk s1), vl, fun H2 s2 => q _ (s1.trans s2)⟩
def sp_window_length (K : PySem.W.Frag) : Sp := fun vs H Q _ => ∃ (v : V) (x y : Int) (ms : List MV), vs = [v] ∧ WinAt K H v x y ms ∧ VWin x y ms ∧ ∀ H', Same H H' → Q (.int (mtot ms)) H'
theorem ok_window_length {f : Addr} {fd : FuncData} (F : Fun K "window_length" "window_length" s_window_length f fd) (T : Txt K mg) (D_need_window : Cl P w K mg base 5 "need_window" ["thing"] (sp_need_window K)) (D_moved : Cl P w K mg base 1 "moved" ["window"] (sp_moved K)) : FnOk P w K mg base CX0 6 f fd ["window"] (sp_window_length K) := by
  refine F.ok sc_window_length (fun vs H Q E h => ?_) (fun cdv A outer s H vs Q E hr h => ?_)
  · obtain ⟨v, x, y, ms, rfl, _⟩ := h
    rfl
  · obtain ⟨v, x, y, ms, rfl, hw, vw, q⟩ := h
    refine ⟨_, (pss_cons (ps_expr (pe_own D_need_window (hr.mono (by decide)) (by rfl) (pa_cons (pv 0) pa_nil)))
      (pss_one (ps_ret (pe_own D_moved (hr.mono (by decide)) (by rfl) (pa_cons (pv 0) pa_nil))))), ?_⟩
    refine ⟨_, rfl, v, x, y, ms, rfl, hw, vw, fun H1 s1 => ?_⟩
    exact ⟨_, rfl, v, x, y, ms, rfl, hw.keep (Same.tk s1), vw.2.2.1, fun H2 s2 => q _ (s1.trans s2)⟩
def sp_sheet_length (K : PySem.W.Frag) : Sp := fun vs H Q _ => ∃ (v : V) (ls : List LY) (x y : Int) (ms : List MV), vs = [v] ∧ ShAt K H v ls x y ms ∧ VLays ls ∧ VWin x y ms ∧ ∀ H' r, Same H H' → ShLen ls (mtot ms) r → Q (bkV r) H'
theorem ok_sheet_length {f : Addr} {fd : FuncData} (F : Fun K "sheet_length" "sheet_length" s_sheet_length f fd) (T : Txt K mg) (D_need_sheet : Cl P w K mg base 6 "need_sheet" ["thing"] (sp_need_sheet K)) (D_length_of : Cl P w K mg base 2 "length_of" ["layer"] (sp_length_of K)) (D_moved : Cl P w K mg base 1 "moved" ["window"] (sp_moved K)) : FnOk P w K mg base CX0 7 f fd ["sheet"] (sp_sheet_length K) := by
  refine F.ok sc_sheet_length (fun vs H Q E h => ?_) (fun cdv A outer s H vs Q E hr h => ?_)
  · obtain ⟨v, ls, x, y, ms, rfl, _⟩ := h
    rfl
  · obtain ⟨v, ls, x, y, ms, rfl, hsh, vL, vw, q⟩ := h
    refine ⟨_, (pss_cons (ps_expr (pe_own D_need_sheet (hr.mono (by decide)) (by rfl) (pa_cons (pv 0) pa_nil)))
      (pss_cons (ps_asg (pv 0) (pg_tup (by rfl) (pgs_cons (pg_name (i := 1) sc_sheet_length.nd rfl (Or.inl rfl)) (pgs_cons (pg_name (i := 2) sc_sheet_length.nd rfl (Or.inl rfl)) pgs_nil))))
      (pss_cons (ps_setLc (i := 3) (own := [("layer", 4)]) (g := (gName 4)) (tt := tYes) (by rfl) sc_sheet_length.nd rfl rfl (sw_true rfl rfl rfl (by decide +kernel)) (pi_tup (pv 1)) (blkOk_by (own := [("layer", 4)]) (N := ["sheet", "layers", "window", "lengths", "layer"]) (sc := defScope s_sheet_length) (by decide +kernel)) (fun _ _ _ _ _ => (pg_name (i := 4) sc_sheet_length.nd rfl (Or.inl rfl))) (fun _ _ _ _ _ => pts_nil) (fun _ _ _ _ _ => (pe_own D_length_of (hr.mono (by decide)) (by rfl) (pa_cons (pv 4) pa_nil))))
      (pss_cons (ps_if (pt_cmpR op_in_seq pe_non (pv 3) (by rfl)) (pss_one (ps_ret pe_non)) pss_nil)
      (pss_one (ps_ret (pe_callB (cr_max rfl) (by rfl) T.b_max (by decide +kernel) (pa_cons (pe_op op_cat (pv 3) (pe_lst (pa_cons (pe_own D_moved (hr.mono (by decide)) (by rfl) (pa_cons (pv 2) pa_nil)) pa_nil))) pa_nil)))))))), ?_⟩
    refine ⟨_, rfl, v, ls, x, y, ms, rfl, hsh, vL, vw, fun H1 s1 => ?_⟩
    obtain ⟨p, lv, wv, rfl, hp, ⟨pl, vs, rfl, hq, pd⟩, hw⟩ := hsh.keep (Same.tk s1)
    obtain ⟨v1, v4, vl⟩ := vL
    have hl : vs.length = ls.length := Paired.length pd
    refine ⟨_, rfl, p, _, rfl, hp, rfl, _, _, rfl, _, _, rfl, rfl, ?_⟩
    refine ⟨_, rfl, pl, rfl, ⟨_, hq⟩, fun D hD => ?_⟩
    refine lcmap_tup (ls.map fun l => bkV (lenL l)) (by simp [hl]) (by omega) hq hD (fun i x y H2 R Z hx hy s2 hR => ?_) (fun H2 s2 hL => ?_)
    · obtain ⟨l, hl1, hly⟩ := Paired.at pd hx
      have ey : y = bkV (lenL l) := by
        rw [List.getElem?_map, hl1] at hy
        exact (Option.some.inj hy).symm
      subst ey
      exact ⟨rfl, yes_ok ⟨_, rfl, x, l, rfl, hly.keep (Same.tk s2), vl l (List.mem_of_getElem? hl1), hR⟩⟩
    · have hfl : (ls.map fun l => bkV (lenL l)).all flatV = true := List.all_eq_true.mpr fun z hz => by
        obtain ⟨l, _, rfl⟩ := List.mem_map.mp hz
        exact bk_flat _
      refine ⟨_, rfl, D, _, rfl, .inl (.inl (.inl hL)), rfl, hfl, _, rfl, ite2 (fun e => ?_) (fun e => ?_)⟩
      · exact q _ none (s1.trans s2) (.inl ⟨(in_ends ls).mp e, rfl⟩)
      · obtain ⟨h1, h2⟩ := all_ints (fun z => e ((in_ends ls).mpr z))
        rw [h2] at hL
        refine ⟨_, rfl, _, rfl, wv, x, y, ms, rfl, hw.keep (Same.tk s2), vw.2.2.1, fun H3 s3 => ⟨(by show 1 ≤ sizeLine; decide), fun p4 np4 => ?_⟩⟩
        obtain ⟨s4, e4⟩ := new_at (.lst [.int (mtot ms)]) np4
        generalize upd H3 p4 (.lst [.int (mtot ms)]) = H4 at s4 e4 ⊢
        refine ⟨D, p4, _, _, rfl, rfl, s4 _ _ (s3 _ _ hL), e4, ?_, fun p5 np5 => ?_⟩
        · rw [List.length_map, List.length_map]
          exact Nat.le_of_lt (small1000 (by show ls.length + 1 ≤ 1000; omega))
        · refine ⟨p5, ls.map (fun l => tot l.1) ++ [mtot ms], rfl, .inl (.inl ?_), by simp, fun m hm hx => ?_⟩
          · rw [upd_same, List.map_append]
            rfl
          · exact q _ (some m) ((((s1.trans s2).trans s3).trans s4).trans (same_upd np5)) (.inr ⟨h1, m, rfl, hm, hx⟩)
end

/-! ### the law's windows and sheets -/
def PVw (K : PySem.W.Frag) (st : Addr) (H0 : Hp) (F : Addr) (mn x y : Int) (i : Nat) (σ : L2.St) (H : Hp) : Prop :=
  Gr st H0 H ∧ ∃ (pp : Addr) (px py : Int) (vs : List V) (ms : List MV) (tv : Option V), σ = [some (.ref st), some (.ref F), some (.int mn), some (.int x), some (.int y), some (.ref pp), tv] ∧ H pp = some (.tup [.int px, .int py]) ∧ (-20 ≤ px ∧ px ≤ 20) ∧ (-20 ≤ py ∧ py ≤ 20) ∧
    H F = some (.lst vs) ∧ vs.length = i ∧ Paired (MoveAt K H) vs ms ∧ ∀ m ∈ ms, VMove m
theorem st_ne {H : Hp} {st p : Addr} (s : IsSt H st) (h : H p = none) : p ≠ st := by
  obtain ⟨x, y, hx, _⟩ := s
  exact fun z => by rw [z, hx] at h; cases h
theorem st_neT {H : Hp} {st p : Addr} {xs : List V} (s : IsSt H st) (h : H p = some (.tup xs)) : p ≠ st := by
  obtain ⟨x, y, hx, _⟩ := s
  exact ne_of h hx (by intro z; cases z)
section
variable {P : Program} {w : World} {K : PySem.W.Frag} {mg : Str → Option Value} {base : Heap}
def sp__law_window (K : PySem.W.Frag) : Sp := fun vs H Q _ => ∃ (st : Addr), vs = [.ref st] ∧ IsSt H st ∧ ∀ (v : V) (x y : Int) (ms : List MV) (H' : Hp), Gr st H H' → WinAt K H' v x y ms → VWin x y ms → Q v H'
theorem ok__law_window {f : Addr} {fd : FuncData} (F : Fun K "_law_window" "_law_window" s__law_window f fd) (T : Txt K mg) (D__law_take : Cl P w K mg base 1 "_law_take" ["_law_state_here", "_law_many"] (sp__law_take K)) : FnOk P w K mg base CX0 2 f fd ["_law_state_here"] (sp__law_window K) := by
  refine F.ok sc__law_window (fun vs H Q E h => ?_) (fun cdv A outer s H vs Q E hr h => ?_)
  · obtain ⟨st, rfl, _⟩ := h
    rfl
  · obtain ⟨st, rfl, hs, q⟩ := h
    refine ⟨_, (pss_cons (ps_par (i := 1) (j := 2) (by rfl) sc__law_window.nd rfl rfl (by decide) rfl rfl (pa_cons (pe_lst pa_nil) (pa_cons (pe_ix ix_list (pe_lst (pa_cons pe_int (pa_cons pe_int (pa_cons (pe_own D__law_take (hr.mono (by decide)) (by rfl) (pa_cons (pv 0) (pa_cons pe_int pa_nil))) (pa_cons pe_int pa_nil))))) (pe_own D__law_take (hr.mono (by decide)) (by rfl) (pa_cons (pv 0) (pa_cons pe_int pa_nil))) (fun _ _ => rfl)) pa_nil)) (by rfl))
      (pss_cons (ps_par (i := 3) (j := 4) (by rfl) sc__law_window.nd rfl rfl (by decide) rfl rfl (pa_cons (pe_op op_sub (pe_own D__law_take (hr.mono (by decide)) (by rfl) (pa_cons (pv 0) (pa_cons pe_int pa_nil))) pe_int) (pa_cons (pe_op op_sub (pe_own D__law_take (hr.mono (by decide)) (by rfl) (pa_cons (pv 0) (pa_cons pe_int pa_nil))) pe_int) pa_nil)) (by rfl))
      (pss_cons (ps_set (i := 5) sc__law_window.nd rfl (Or.inl rfl) (pe_tup (pa_cons (pv 3) (pa_cons (pv 4) pa_nil))))
      (pss_cons (ps_for PassesOwn.never rfl (pi_range1 (by rfl) T.b_range (pa_cons (pv 2) pa_nil)) (pg_name (i := 6) sc__law_window.nd rfl (Or.inl rfl))
        (C8.pss_cut (ps_if (pt_cmpR op_gt (pe_own D__law_take (hr.mono (by decide)) (by rfl) (pa_cons (pv 0) (pa_cons pe_int pa_nil))) pe_int (nomark _)) (pss_one (ps_set (i := 5) sc__law_window.nd rfl (Or.inl rfl) (pe_tup (pa_cons (pe_op op_sub (pe_own D__law_take (hr.mono (by decide)) (by rfl) (pa_cons (pv 0) (pa_cons pe_int pa_nil))) pe_int) (pa_cons (pe_ix ix_list (pe_lst (pa_cons (pe_op op_sub (pe_own D__law_take (hr.mono (by decide)) (by rfl) (pa_cons (pv 0) (pa_cons pe_int pa_nil))) pe_int) (pa_cons (pe_ix ix_tup (pv 5) pe_int (fun _ _ => rfl)) pa_nil))) (pe_own D__law_take (hr.mono (by decide)) (by rfl) (pa_cons (pv 0) (pa_cons pe_int pa_nil))) (fun _ _ => rfl)) pa_nil))))) pss_nil)
      (pss_one (ps_expr (pe_bm PySem.F.plainAttrs_list PySem.F.slot_list_append PySem.F.type_list_append mt_append (pv 1) (pa_cons (pe_op op_catA (pv 5) (pe_tup (pa_cons (pe_ix ix_list (pe_lst (pa_cons pe_int (pa_cons pe_int (pa_cons (pe_own D__law_take (hr.mono (by decide)) (by rfl) (pa_cons (pv 0) (pa_cons pe_int pa_nil))) (pa_cons (pe_own D__law_take (hr.mono (by decide)) (by rfl) (pa_cons (pv 0) (pa_cons pe_int pa_nil))) (pa_cons pe_int pa_nil)))))) (pe_own D__law_take (hr.mono (by decide)) (by rfl) (pa_cons (pv 0) (pa_cons pe_int pa_nil))) (fun _ _ => rfl)) pa_nil))) pa_nil))))))
      (pss_one (ps_ret (pe_tup (pa_cons (pv 3) (pa_cons (pv 4) (pa_cons (pe_callTy call_tuple_of (by rfl) T.b_tuple (by decide +kernel) (pa_cons (pv 1) pa_nil)) pa_nil)))))))))), ?_⟩
    refine ⟨Nat.zero_le _, fun F nF => ?_⟩
    have nFs := st_ne hs nF
    obtain ⟨s1, e1⟩ := new_at (.lst []) nF
    generalize upd H F (.lst []) = H1 at s1 e1 ⊢
    have g1 := gr_same (st := st) s1
    refine ⟨_, rfl, st, 9, rfl, g1.2 hs, by decide, by decide, fun r2 H2 a2 b2 g2 => ⟨(by show 4 ≤ sizeLine; decide), fun p3 np3 => ?_⟩⟩
    have g12 := g1.trans g2
    obtain ⟨s3, e3⟩ := new_at (.lst [.int 0, .int 1, .int r2, .int 8]) np3
    have np3s := st_ne (g12.2 hs) np3
    generalize upd H2 p3 (.lst [.int 0, .int 1, .int r2, .int 8]) = H3 at s3 e3 ⊢
    have g13 := g12.trans (gr_same (st := st) s3)
    refine ⟨_, rfl, st, 4, rfl, g13.2 hs, by decide, by decide, fun r4 H4 a4 b4 g4 => ?_⟩
    have g14 := g13.trans g4
    obtain ⟨mn, m0, m1, em⟩ : ∃ m : Int, 0 ≤ m ∧ m ≤ 8 ∧ atI [V.int 0, .int 1, .int r2, .int 8] r4 = some (.int m) := by
      rcases (by omega : r4 = 0 ∨ r4 = 1 ∨ r4 = 2 ∨ r4 = 3) with e | e | e | e <;> subst e
      · exact ⟨0, by omega, by omega, rfl⟩
      · exact ⟨1, by omega, by omega, rfl⟩
      · exact ⟨r2, by omega, by omega, rfl⟩
      · exact ⟨8, by omega, by omega, rfl⟩
    refine ⟨p3, _, r4, _, rfl, rfl, .inl (.inl (g4.1 _ _ np3s e3)), em, _, _, rfl, ?_⟩
    -- x, y
    refine ⟨_, rfl, st, 41, rfl, g14.2 hs, by decide, by decide, fun r5 H5 a5 b5 g5 => ⟨_, _, rfl, rfl, ?_⟩⟩
    have g15 := g14.trans g5
    refine ⟨_, rfl, st, 41, rfl, g15.2 hs, by decide, by decide, fun r6 H6 a6 b6 g6 => ⟨_, _, rfl, rfl, _, _, rfl, ?_⟩⟩
    have g16 := g15.trans g6
    -- place
    refine ⟨_, rfl, _, rfl, (by show 2 ≤ sizeLine; decide), fun p7 np7 => ?_⟩
    have F6 : H6 F = some (.lst []) := (((g2.trans (gr_same s3)).trans g4).trans (g5.trans g6)).1 _ _ nFs e1
    obtain ⟨s7, e7⟩ := new_at (.tup [.int (r5 - 20), .int (r6 - 20)]) np7
    have g17 := g16.trans (gr_same (st := st) s7)
    refine ⟨_, rfl, mn, rfl, by omega, by omega, for_range (lo := 0) (n := mn.toNat) (PVw K st H F mn (r5 - 20) (r6 - 20)) ?_ ?_ ?_⟩
    · exact ⟨g17, p7, _, _, [], [], none, rfl, e7, ⟨by omega, by omega⟩, ⟨by omega, by omega⟩, s7 _ _ F6, rfl, .nil, fun m hm => by cases hm⟩
    · intro i σ H8 hi hP
      refine ⟨fun σ' H' => PVw K st H F mn (r5 - 20) (r6 - 20) i σ' H', ?_, ?_⟩
      · obtain ⟨g8, pp, px, py, vs, ms, tv, rfl, hpp, hx, hy, hF, hlen, pd, vm⟩ := hP
        have hs8 := g8.2 hs
        refine ⟨_, rfl, st, 4, rfl, hs8, by decide, by decide, fun r9 H9 a9 b9 g9 => ⟨_, _, rfl, rfl, _, rfl, ite2 (fun _ => ?_) (fun _ => ?_)⟩⟩
        · have hs9 := g9.2 hs8
          refine ⟨_, rfl, st, 41, rfl, hs9, by decide, by decide, fun r10 H10 a10 b10 g10 => ⟨_, _, rfl, rfl, ?_⟩⟩
          have hs10 := g10.2 hs9
          refine ⟨_, rfl, st, 41, rfl, hs10, by decide, by decide, fun r11 H11 a11 b11 g11 => ⟨_, _, rfl, rfl, ?_⟩⟩
          have g811 := (g9.trans g10).trans g11
          have hs11 := g811.2 hs8
          have hp11 := g811.1 _ _ (st_neT hs8 hpp) hpp
          refine ⟨_, rfl, pp, _, 1, _, rfl, rfl, .inl (.inl hp11), rfl, (by show 2 ≤ sizeLine; decide), fun p12 np12 => ?_⟩
          obtain ⟨s12, e12⟩ := new_at (.lst [.int (r11 - 20), .int py]) np12
          have n12 := st_ne hs11 np12
          have g812 := g811.trans (gr_same (st := st) s12)
          refine ⟨_, rfl, st, 2, rfl, g812.2 hs8, by decide, by decide, fun r13 H13 a13 b13 g13 => ?_⟩
          have g813 := g812.trans g13
          obtain ⟨d, d0, d1, ed⟩ : ∃ d : Int, -20 ≤ d ∧ d ≤ 20 ∧ atI [V.int (r11 - 20), .int py] r13 = some (.int d) := by
            rcases (by omega : r13 = 0 ∨ r13 = 1) with e | e <;> subst e
            · exact ⟨_, by omega, by omega, rfl⟩
            · exact ⟨py, hy.1, hy.2, rfl⟩
          refine ⟨p12, _, r13, _, rfl, rfl, .inl (.inl (g13.1 _ _ n12 e12)), ed, (by show 2 ≤ sizeLine; decide), fun p14 np14 => ?_⟩
          have g814 := g813.trans (gr_same (st := st) (same_upd (o := .tup [.int (r10 - 20), .int d]) np14))
          exact ⟨g8.trans g814, p14, _, _, vs, ms, _, rfl, upd_same, ⟨by omega, by omega⟩, ⟨d0, d1⟩, g814.1 _ _ nFs hF, hlen, Paired.mono pd fun _ _ => MoveAt.keep (g814.tk hs8), vm⟩
        · exact ⟨g8.trans g9, pp, px, py, vs, ms, _, rfl, g9.1 _ _ (st_neT hs8 hpp) hpp, hx, hy, g9.1 _ _ nFs hF, hlen, Paired.mono pd fun _ _ => MoveAt.keep (g9.tk hs8), vm⟩
      · rintro σ' H' ⟨g8, pp, px, py, vs, ms, tv, rfl, hpp, hx, hy, hF, hlen, pd, vm⟩
        have hs8 := g8.2 hs
        refine ⟨_, rfl, .inl ⟨rfl, _, .inl (.inl hF)⟩, _, rfl, ?_⟩
        refine ⟨_, rfl, st, 8, rfl, hs8, by decide, by decide, fun r9 H9 a9 b9 g9 => ?_⟩
        refine ⟨_, rfl, st, 25, rfl, g9.2 hs8, by decide, by decide, fun r10 H10 a10 b10 g10 => ?_⟩
        have g810 := g9.trans g10
        refine ⟨(by show 5 ≤ sizeLine; decide), fun p11 np11 => ?_⟩
        obtain ⟨s11, e11⟩ := new_at (.lst [.int 0, .int 1, .int r9, .int r10, .int 24]) np11
        have n11 := st_ne (g810.2 hs8) np11
        have g811 := g810.trans (gr_same (st := st) s11)
        refine ⟨_, rfl, st, 5, rfl, g811.2 hs8, by decide, by decide, fun r12 H12 a12 b12 g12 => ?_⟩
        have g812 := g811.trans g12
        obtain ⟨d, d0, d1, ed⟩ : ∃ d : Int, 0 ≤ d ∧ d ≤ 24 ∧ atI [V.int 0, .int 1, .int r9, .int r10, .int 24] r12 = some (.int d) := by
          rcases (by omega : r12 = 0 ∨ r12 = 1 ∨ r12 = 2 ∨ r12 = 3 ∨ r12 = 4) with e | e | e | e | e <;> subst e
          · exact ⟨0, by omega, by omega, rfl⟩
          · exact ⟨1, by omega, by omega, rfl⟩
          · exact ⟨r9, by omega, by omega, rfl⟩
          · exact ⟨r10, by omega, by omega, rfl⟩
          · exact ⟨24, by omega, by omega, rfl⟩
        refine ⟨p11, _, r12, _, rfl, rfl, .inl (.inl (g12.1 _ _ n11 e11)), ed, (by show 1 ≤ sizeLine; decide), fun p13 np13 => ?_⟩
        obtain ⟨s13, e13⟩ := new_at (.tup [.int d]) np13
        have g813 := g812.trans (gr_same (st := st) s13)
        have hp13 := g813.1 _ _ (st_neT hs8 hpp) hpp
        refine ⟨pp, p13, _, _, rfl, rfl, .inl (.inl hp13), .inl (.inl e13), (by show 3 ≤ sizeLine; decide), fun z => absurd z (List.cons_ne_nil _ _), fun _ z => absurd z (List.cons_ne_nil _ _), fun _ _ p14 np14 => ?_⟩
        obtain ⟨s14, e14⟩ := new_at (.tup ([.int px, .int py] ++ [.int d])) np14
        have g814 := g813.trans (gr_same (st := st) s14)
        have hF14 := g814.1 _ _ nFs hF
        refine ⟨F, _, _, rfl, rfl, hF14, small1000 (by omega), ?_⟩
        have k15 : TKeep K H' (upd (upd (upd H12 p13 (.tup [.int d])) p14 (.tup ([.int px, .int py] ++ [.int d]))) F (.lst (vs ++ [.ref p14]))) := fun a xs h => tk_updL hF14 _ _ (g814.sqT hs8 h)
        refine ⟨⟨fun b o nb e => ?_, fun hz => ?_⟩, pp, px, py, vs ++ [.ref p14], ms ++ [(px, py, d)], _, rfl, ?_, hx, hy, upd_same, ?_, ?_, ?_⟩
        · rw [upd_ne (ne_of_none e nF)]
          exact (g8.trans g814).1 b o nb e
        · obtain ⟨x, y, hxx, hxy⟩ := (g8.trans g814).2 hz
          refine ⟨x, y, ?_, hxy⟩
          rw [upd_ne (Ne.symm nFs)]
          exact hxx
        · rw [upd_ne (ne_of (s14 _ _ hp13) hF14 (by intro z; cases z))]
          exact s14 _ _ hp13
        · rw [List.length_append, hlen]
          rfl
        · exact Paired.snocP (Paired.mono pd fun _ _ => MoveAt.keep k15) ⟨p14, rfl, tk_updL hF14 _ _ (.inl (.inl e14))⟩
        · intro m hm
          rcases List.mem_append.mp hm with z | z
          · exact vm m z
          · rw [List.mem_singleton.mp z]
            exact ⟨hx, hy, d0, d1⟩
    · rintro σ H8 ⟨g8, pp, px, py, vs, ms, tv, rfl, hpp, hx, hy, hF, hlen, pd, vm⟩
      have hl : vs.length = ms.length := Paired.length pd
      refine ⟨_, rfl, _, rfl, _, rfl, F, vs, rfl, .inl ⟨.inl (.inl hF), fun l nl => ⟨(by show 3 ≤ sizeLine; decide), fun p9 np9 => ?_⟩⟩⟩
      obtain ⟨s9, e9⟩ := new_at (.tup vs) nl
      have s10 := same_upd (o := .tup [.int (r5 - 20), .int (r6 - 20), .ref l]) np9
      refine q _ (r5 - 20) (r6 - 20) ms _ ((g8.trans (gr_same s9)).trans (gr_same s10)) ⟨p9, _, rfl, .inl (.inl upd_same), l, vs, rfl, .inl (.inl (s10 _ _ e9)), Paired.mono pd fun _ _ => MoveAt.keep (Same.tk (s9.trans s10))⟩ ⟨⟨by omega, by omega⟩, ⟨by omega, by omega⟩, by omega, vm⟩
end

section
variable {P : Program} {w : World} {K : PySem.W.Frag} {mg : Str → Option Value} {base : Heap}
def sp__law_sheet (K : PySem.W.Frag) : Sp := fun vs H Q _ => ∃ (st : Addr), vs = [.ref st] ∧ IsSt H st ∧ ∀ (v : V) (ls : List LY) (x y : Int) (ms : List MV) (H' : Hp), Gr st H H' → ShAt K H' v ls x y ms → VLays ls → VWin x y ms → Q v H'
theorem ok__law_sheet {f : Addr} {fd : FuncData} (F : Fun K "_law_sheet" "_law_sheet" s__law_sheet f fd) (T : Txt K mg) (D__law_window : Cl P w K mg base 2 "_law_window" ["_law_state_here"] (sp__law_window K)) (D__law_layer : Cl P w K mg base 3 "_law_layer" ["_law_state_here"] (sp__law_layer K)) (D__law_take : Cl P w K mg base 1 "_law_take" ["_law_state_here", "_law_many"] (sp__law_take K)) : FnOk P w K mg base CX0 4 f fd ["_law_state_here"] (sp__law_sheet K) := by
  refine F.ok sc__law_sheet (fun vs H Q E h => ?_) (fun cdv A outer s H vs Q E hr h => ?_)
  · obtain ⟨st, rfl, _⟩ := h
    rfl
  · obtain ⟨st, rfl, hs, q⟩ := h
    refine ⟨_, (pss_one (ps_ret (pe_tup (pa_cons (pe_callTy call_tuple_of (by rfl) T.b_tuple (by decide +kernel) (pa_cons (pe_lc (own := [("_law_turn", 1)]) (g := (gName 1)) (tt := tYes) (by rfl) sc__law_sheet.nd (pi_range1 (by rfl) T.b_range (pa_cons (pe_op op_add pe_int (pe_own D__law_take (hr.mono (by decide)) (by rfl) (pa_cons (pv 0) (pa_cons pe_int pa_nil)))) pa_nil)) (blkOk_by (own := [("_law_turn", 1)]) (N := ["_law_state_here", "_law_turn"]) (sc := defScope s__law_sheet) (by decide +kernel)) (fun _ _ _ _ _ => (pg_name (i := 1) sc__law_sheet.nd rfl (Or.inl rfl))) (fun _ _ _ _ _ => pts_nil) (fun _ _ _ _ _ => (pe_own D__law_layer (hr.mono (by decide)) (by rfl) (pa_cons (pv 0) pa_nil)))) pa_nil)) (pa_cons (pe_own D__law_window (hr.mono (by decide)) (by rfl) (pa_cons (pv 0) pa_nil)) pa_nil))))), ?_⟩
    refine ⟨_, rfl, st, 4, rfl, hs, by decide, by decide, fun r1 H1 a1 b1 g1 => ⟨_, _, rfl, rfl, 1 + r1, rfl, by omega, by omega, fun D hD => ?_⟩⟩
    have hs1 := g1.2 hs
    have nD := st_ne hs1 hD
    refine lc_range (lo := 0) (n := (1 + r1).toNat) (fun i H' => Gr st H1 H' ∧ ∃ (vs : List V) (ls : List LY), H' D = some (.lst vs) ∧ vs.length = i ∧ Paired (LyAt K H') vs ls ∧ ∀ l ∈ ls, VLy l)
      ⟨gr_same (same_upd hD), [], [], upd_same, rfl, .nil, fun r hr => by cases hr⟩ (fun i H7 hi p7 => ?_) (fun H7 p7 => ?_)
    · obtain ⟨g7, vs, ls, hL, hlen, pd, vl⟩ := p7
      refine ⟨rfl, yes_ok ⟨_, rfl, st, rfl, g7.2 hs1, fun v rs bk H8 g8 hly vR vb => ?_⟩⟩
      have hL8 := g8.1 D _ nD hL
      refine ⟨vs, hL8, small1000 (by omega), ?_, vs ++ [v], ls ++ [(rs, bk)], upd_same, ?_, ?_, ?_⟩
      · refine ⟨fun b o nb e => ?_, fun hz => ?_⟩
        · rw [upd_ne (ne_of_none e hD)]
          exact (g7.trans g8).1 b o nb e
        · obtain ⟨x, y, hx, hxy⟩ := (g7.trans g8).2 hz
          refine ⟨x, y, ?_, hxy⟩
          rw [upd_ne (Ne.symm nD)]
          exact hx
      · rw [List.length_append, hlen]
        rfl
      · have k1 : TKeep K H7 (upd H8 D (.lst (vs ++ [v]))) := fun a xs h => tk_updL hL8 _ _ (g8.sqT (g7.2 hs1) h)
        exact Paired.snocP (Paired.mono pd fun _ _ => LyAt.keep k1) (LayAt.keep (tk_updL hL8) hly)
      · intro x hx
        rcases List.mem_append.mp hx with z | z
        · exact vl x z
        · rw [List.mem_singleton.mp z]
          exact ⟨vR, vb⟩
    · obtain ⟨g7, vs, ls, hL, hlen, pd, vl⟩ := p7
      have hl : vs.length = ls.length := Paired.length pd
      refine ⟨D, vs, rfl, .inl ⟨.inl (.inl hL), fun l nl => ?_⟩⟩
      obtain ⟨s8, e8⟩ := new_at (.tup vs) nl
      have g18 := (g1.trans g7).trans (gr_same (st := st) s8)
      have hlay : LaysAt K (upd H7 l (.tup vs)) (.ref l) ls := ⟨l, vs, rfl, .inl (.inl e8), Paired.mono pd fun _ _ => LyAt.keep (Same.tk s8)⟩
      refine ⟨_, rfl, st, rfl, g18.2 hs, fun v x y ms H9 g9 hw vw => ⟨(by show 2 ≤ sizeLine; decide), fun p10 np10 => ?_⟩⟩
      have s10 := same_upd (o := .tup [.ref l, v]) np10
      exact q _ ls x y ms _ ((g18.trans g9).trans (gr_same s10)) ⟨p10, _, _, rfl, .inl (.inl upd_same), (hlay.keep (g9.tk (g18.2 hs))).keep (Same.tk s10), hw.keep (Same.tk s10)⟩ ⟨by omega, by omega, vl⟩ vw
end

/-! ### the law -/
theorem bkFl (o : Option Int) : ∃ t, Fl (bkV o) t false := by
  cases o with
  | none => exact ⟨_, .non⟩
  | some i => exact ⟨_, .int i⟩
theorem mtot_take {ms : List MV} {j : Nat} {m : MV} (h : ms[j]? = some m) : mtot (ms.take (j + 1)) = mtot (ms.take j) + m.2.2 := by
  unfold mtot
  rw [List.take_add_one, h, List.map_append, List.sum_append]
  show _ + ([m.2.2] : List Int).sum = _
  rw [List.sum_cons, List.sum_nil, Int.add_zero]
theorem tot_take1 {rs : List RW} {j : Nat} {r : RW} (h : rs[j]? = some r) : tot (rs.take (j + 1)) = tot (rs.take j) + r.2 := by
  rw [List.take_add_one, h, tot_append]
  show _ + tot [r] = _
  rw [tot_cons, tot_nil, Int.add_zero]
section
variable {P : Program} {w : World} {K : PySem.W.Frag} {mg : Str → Option Value} {base : Heap}
def sp_law (K : PySem.W.Frag) : Sp := fun vs H Q _ => ∃ (a : Addr) (ns : List Int), vs = [.ref a] ∧ SqL K H a (ns.map V.int) ∧ ns.length ≤ 63 ∧ ∀ H', Q (.bl true) H'
theorem ok_law {f : Addr} {fd : FuncData} (F : Fun K "law" "law" s_law f fd) (T : Txt K mg) (D__law_state : Cl P w K mg base 2 "_law_state" ["_law_script", "_law_k"] (sp__law_state K)) (D__law_sheet : Cl P w K mg base 4 "_law_sheet" ["_law_state_here"] (sp__law_sheet K)) (D__law_take : Cl P w K mg base 1 "_law_take" ["_law_state_here", "_law_many"] (sp__law_take K)) (D__law_same : Cl P w K mg base 1 "_law_same" ["_law_found", "_law_due"] (sp__law_same K)) (D_layer_length : Cl P w K mg base 5 "layer_length" ["layer"] (sp_layer_length K)) (D_window_length : Cl P w K mg base 6 "window_length" ["window"] (sp_window_length K)) (D_sheet_length : Cl P w K mg base 7 "sheet_length" ["sheet"] (sp_sheet_length K)) : FnOk P w K mg base CX0 8 f fd ["_law_script"] (sp_law K) := by
  refine F.ok sc_law (fun vs H Q E h => ?_) (fun cdv A outer s H vs Q E hr h => ?_)
  · obtain ⟨a, ns, rfl, _⟩ := h
    rfl
  · obtain ⟨a, ns, rfl, hS, hlen, q⟩ := h
    refine ⟨_, (pss_cons (ps_for PassesOwn.never rfl (pi_range1 (by rfl) T.b_range (pa_cons (pe_callB (call_max2 rfl) (by rfl) T.b_max (by decide +kernel) (pa_cons pe_int (pa_cons (pe_callB (call_min2 rfl) (by rfl) T.b_min (by decide +kernel) (pa_cons (pe_callB call_len_seq (by rfl) T.b_len (by decide +kernel) (pa_cons (pv 0) pa_nil)) (pa_cons pe_int pa_nil))) pa_nil))) pa_nil)) (pg_name (i := 1) sc_law.nd rfl (Or.inl rfl))
        (pss_cons (ps_set (i := 2) sc_law.nd rfl (Or.inl rfl) (pe_own D__law_state (hr.mono (by decide)) (by rfl) (pa_cons (pv 0) (pa_cons (pv 1) pa_nil))))
      (pss_cons (ps_asg (pe_own D__law_sheet (hr.mono (by decide)) (by rfl) (pa_cons (pv 2) pa_nil)) (pg_tup (by rfl) (pgs_cons (pg_name (i := 3) sc_law.nd rfl (Or.inl rfl)) (pgs_cons (pg_name (i := 4) sc_law.nd rfl (Or.inl rfl)) pgs_nil))))
      (C8.pss_cut (ps_if (pt_cmpR op_eq (pe_own D__law_take (hr.mono (by decide)) (by rfl) (pa_cons (pv 2) (pa_cons pe_int pa_nil))) pe_int (nomark _)) (pss_one (ps_set (i := 3) sc_law.nd rfl (Or.inl rfl) (pe_callTy call_tuple_of (by rfl) T.b_tuple (by decide +kernel) (pa_cons (pe_lc (own := [("_law_rows", 6), ("_law_back", 7)]) (g := (gTup _ 2 (gCons (gName 6) (gCons (gName 7) gNil)))) (tt := tYes) (by rfl) sc_law.nd (pi_tup (pv 3)) (blkOk_by (own := [("_law_rows", 6), ("_law_back", 7)]) (N := ["_law_script", "_law_k", "_law_state_here", "_law_layers", "_law_window_here", "_law_ends", "_law_rows", "_law_back", "_law_end", "_law_drawing", "_law_hold", "_law_last", "_law_x", "_law_y", "_law_many", "_law_due"]) (sc := defScope s_law) (by decide +kernel)) (fun _ _ _ _ _ => (pg_tup (by rfl) (pgs_cons (pg_name (i := 6) sc_law.nd rfl (Or.inl rfl)) (pgs_cons (pg_name (i := 7) sc_law.nd rfl (Or.inl rfl)) pgs_nil)))) (fun _ _ _ _ _ => pts_nil) (fun _ _ _ _ _ => (pe_tup (pa_cons (pv 6) (pa_cons pe_non pa_nil))))) pa_nil)))) pss_nil)
      (pss_cons (ps_set (i := 5) sc_law.nd rfl (Or.inl rfl) (pe_lst pa_nil))
      (pss_cons (ps_for PassesOwn.never rfl (pi_tup (pv 3)) (pg_tup (by rfl) (pgs_cons (pg_name (i := 6) sc_law.nd rfl (Or.inl rfl)) (pgs_cons (pg_name (i := 7) sc_law.nd rfl (Or.inl rfl)) pgs_nil)))
        (pss_cons (ps_set (i := 8) sc_law.nd rfl (Or.inl rfl) pe_non)
      (C8.pss_cut (ps_if (pt_cmpR op_isN (pv 7) pe_non (nomark _)) (pss_cons (ps_set (i := 8) sc_law.nd rfl (Or.inl rfl) pe_int)
      (pss_one (ps_for PassesOwn.never rfl (pi_tup (pv 6)) (pg_tup (by rfl) (pgs_cons (pg_name (i := 9) sc_law.nd rfl (Or.inl rfl)) (pgs_cons (pg_name (i := 10) sc_law.nd rfl (Or.inl rfl)) pgs_nil)))
        (pss_one (ps_set (i := 8) sc_law.nd rfl (Or.inl rfl) (pe_op op_add (pv 8) (pv 10))))))) pss_nil)
      (pss_cons (ps_expr (pe_bm PySem.F.plainAttrs_list PySem.F.slot_list_append PySem.F.type_list_append mt_append (pv 5) (pa_cons (pv 8) pa_nil)))
      (pss_one (ps_if (pt_not (pt_val (pe_own D__law_same (hr.mono (by decide)) (by rfl) (pa_cons (pe_own D_layer_length (hr.mono (by decide)) (by rfl) (pa_cons (pe_tup (pa_cons (pv 6) (pa_cons (pv 7) pa_nil))) pa_nil)) (pa_cons (pv 8) pa_nil))))) (pss_one (ps_ret pe_bl)) pss_nil))))))
      (pss_cons (ps_set (i := 11) sc_law.nd rfl (Or.inl rfl) pe_int)
      (pss_cons (ps_for PassesOwn.never rfl (pi_tup (pe_ix ix_tup (pv 4) pe_int (fun _ _ => rfl))) (pg_tup (by rfl) (pgs_cons (pg_name (i := 12) sc_law.nd rfl (Or.inl rfl)) (pgs_cons (pg_name (i := 13) sc_law.nd rfl (Or.inl rfl)) (pgs_cons (pg_name (i := 14) sc_law.nd rfl (Or.inl rfl)) pgs_nil))))
        (pss_one (ps_set (i := 11) sc_law.nd rfl (Or.inl rfl) (pe_op op_add (pv 11) (pv 14)))))
      (C8.pss_cut (ps_set (i := 15) sc_law.nd rfl (Or.inl rfl) (pe_ifExp (pt_cmpR op_in_seq pe_non (pv 5) (by rfl)) pe_non (pe_callB (cr_max rfl) (by rfl) T.b_max (by decide +kernel) (pa_cons (pe_op op_cat (pv 5) (pe_lst (pa_cons (pv 11) pa_nil))) pa_nil))))
      (pss_one (ps_if (PW.pt (pw_or (pt_not (pt_val (pe_own D__law_same (hr.mono (by decide)) (by rfl) (pa_cons (pe_own D_window_length (hr.mono (by decide)) (by rfl) (pa_cons (pv 4) pa_nil)) (pa_cons (pv 11) pa_nil))))) (pw_or1 (pt_not (pt_val (pe_own D__law_same (hr.mono (by decide)) (by rfl) (pa_cons (pe_own D_sheet_length (hr.mono (by decide)) (by rfl) (pa_cons (pe_tup (pa_cons (pv 3) (pa_cons (pv 4) pa_nil))) pa_nil)) (pa_cons (pv 15) pa_nil)))))))) (pss_one (ps_ret pe_bl)) pss_nil)))))))))))
      (pss_one (ps_ret pe_bl))), ?_⟩
    obtain ⟨c, c0, c1, ec⟩ : ∃ c : Int, 0 ≤ c ∧ c ≤ 8 ∧ (if (if (8 : Int) < ((ns.map V.int).length : Int) then (8 : Int) else ((ns.map V.int).length : Int)) > 1 then (if (8 : Int) < ((ns.map V.int).length : Int) then (8 : Int) else ((ns.map V.int).length : Int)) else (1 : Int)) = c := by
      refine ⟨_, ?_, ?_, rfl⟩ <;> (repeat' split) <;> omega
    refine ⟨_, rfl, a, _, rfl, .inl hS, _, _, rfl, _, _, rfl, c, ?_, by omega, by omega, ?_⟩
    · rw [ec]
    refine for_range (lo := 0) (n := c.toNat) (fun i σ H' => Same H H' ∧ ∃ y1 y2 y3 y4 y5 y6 y7 y8 y9 y10 y11 y12 y13 y14 y15, σ = [some (.ref a), y1, y2, y3, y4, y5, y6, y7, y8, y9, y10, y11, y12, y13, y14, y15])
      ⟨Same.refl _, none, none, none, none, none, none, none, none, none, none, none, none, none, none, none, rfl⟩ ?_ (fun _ H' _ => q H')
    rintro i σ H0 hi ⟨s0, y1, y2, y3, y4, y5, y6, y7, y8, y9, y10, y11, y12, y13, y14, y15, rfl⟩
    refine ⟨_, rfl, _, rfl, a, ns, _, rfl, s0.seq hS, by omega, fun H1 st s1 n1 hs1 => ?_⟩
    refine ⟨_, rfl, st, rfl, hs1, fun v ls0 x y ms H2 g2 hsh vL0 vw => ?_⟩
    obtain ⟨p, lv0, wv, rfl, hp, hlay0, hw0⟩ := hsh
    have hs2 := g2.2 hs1
    refine ⟨p, _, rfl, hp, rfl, _, _, rfl, _, _, rfl, rfl, ?_⟩
    -- all layers without a round, at times
    refine ⟨fun σ' H' => Gr st H2 H' ∧ ∃ (pl : Addr) (vs : List V) (ls : List LY), σ' = [some (.ref a), some (.int (0 + (i : Int))), some (.ref st), some (.ref pl), some wv, y5, y6, y7, y8, y9, y10, y11, y12, y13, y14, y15] ∧ SqT K H' pl vs ∧ Paired (LyAt K H') vs ls ∧ VLays ls, ?_, ?_⟩
    · obtain ⟨pl, vs, rfl, hq, pd⟩ := hlay0
      obtain ⟨v1, v4, vl⟩ := id vL0
      have hl : vs.length = ls0.length := Paired.length pd
      refine ⟨_, rfl, st, 2, rfl, hs2, by decide, by decide, fun r3 H3 a3 b3 g3 => ⟨rfl, _, rfl, ite2 (fun _ => ?_) (fun _ => ?_)⟩⟩
      · have k3 : TKeep K H2 H3 := g3.tk hs2
        have hq3 := k3 _ _ hq
        have pd3 : Paired (LyAt K H3) vs ls0 := Paired.mono pd fun _ _ => LyAt.keep k3
        refine ⟨_, rfl, pl, rfl, ⟨_, hq3⟩, fun D hD => ?_⟩
        refine lc_tup (K := K) (a := pl) (xs := vs) (fun j H' => Same H3 H' ∧ ∃ vs' : List V, H' D = some (.lst vs') ∧ vs'.length = j ∧ Paired (LyAt K H') vs' ((ls0.take j).map fun l => (l.1, none)))
          ⟨same_upd hD, [], upd_same, rfl, .nil⟩ (fun j H' _ z => Same.sqT z.1 hq3) (fun j x H4 hx p4 => ?_) (fun H4 p4 => ?_)
        · obtain ⟨s4, vs', hL4, hlen4, pd4⟩ := p4
          obtain ⟨l, hl1, pw, rv, rfl, hrow, hrr⟩ := Paired.at pd3 hx
          have hj : j < vs.length := (List.getElem?_eq_some_iff.mp hx).1
          refine ⟨pw, _, rfl, Same.sqT s4 hrow, rfl, _, _, rfl, _, _, rfl, rfl, rfl, yes_ok ⟨_, rfl, (by show 2 ≤ sizeLine; decide), fun p5 np5 => ?_⟩⟩
          obtain ⟨s5, e5⟩ := new_at (.tup [rv, .non]) np5
          have hL5 := s5 _ _ hL4
          refine ⟨vs', hL5, small1000 (by omega), ?_, vs' ++ [.ref p5], upd_same, ?_, ?_⟩
          · intro b o e
            rw [upd_ne (ne_of_none e hD)]
            exact s5 _ _ (s4 _ _ e)
          · rw [List.length_append, hlen4]
            rfl
          · have k5 : TKeep K H4 (upd (upd H4 p5 (.tup [rv, .non])) D (.lst (vs' ++ [.ref p5]))) := fun a xs h => tk_updL hL5 _ _ (Same.sqT s5 h)
            rw [List.take_add_one, hl1, List.map_append]
            exact Paired.snocP (Paired.mono pd4 fun _ _ => LyAt.keep k5) ⟨p5, rv, rfl, tk_updL hL5 _ _ (.inl (.inl e5)), (RowsAt.keep (Same.tk s4) hrr).keep k5⟩
        · obtain ⟨s4, vs', hL4, hlen4, pd4⟩ := p4
          rw [List.take_of_length_le (by omega)] at pd4
          refine ⟨D, vs', rfl, .inl ⟨.inl (.inl hL4), fun l nl => ?_⟩⟩
          have s5 := same_upd (o := .tup vs') nl
          refine ⟨(g3.trans (gr_same s4)).trans (gr_same s5), l, vs', _, rfl, .inl (.inl upd_same), Paired.mono pd4 fun _ _ => LyAt.keep (Same.tk s5), ?_, ?_, ?_⟩
          · rw [List.length_map]
            exact v1
          · rw [List.length_map]
            exact v4
          · intro l hl
            obtain ⟨l', hl', rfl⟩ := List.mem_map.mp hl
            exact ⟨(vl l' hl').1, fun i e => nomatch e⟩
      · exact ⟨g3, pl, vs, ls0, rfl, g3.tk hs2 _ _ hq, Paired.mono pd fun _ _ => LyAt.keep (g3.tk hs2), vL0⟩
    rintro σ' H3 ⟨g3, pl, vs, ls, rfl, hq, pd, vL⟩
    have hw : WinAt K H3 wv x y ms := hw0.keep (g3.tk hs2)
    obtain ⟨v1, v4, vl⟩ := id vL
    have hl : vs.length = ls.length := Paired.length pd
    -- ends
    refine ⟨Nat.zero_le _, fun F nF => ?_⟩
    have sF : Same H3 (upd H3 F (.lst [])) := same_upd nF
    refine ⟨_, rfl, pl, rfl, ⟨_, Same.sqT sF hq⟩, for_tup (K := K) (a := pl) (xs := vs) (fun j σ H' => Same H3 H' ∧ H' F = some (.lst ((ls.take j).map fun l => bkV (lenL l))) ∧ ∃ y6 y7 y8 y9 y10, σ = [some (.ref a), some (.int (0 + (i : Int))), some (.ref st), some (.ref pl), some wv, some (.ref F), y6, y7, y8, y9, y10, y11, y12, y13, y14, y15])
      ⟨sF, upd_same, _, _, _, _, _, rfl⟩ (fun j σ H' _ z => Same.sqT z.1 hq) ?_ ?_⟩
    · rintro j v σ H4 hv ⟨s4, hF4, z6, z7, z8, z9, z10, rfl⟩
      obtain ⟨⟨rs, bk⟩, hl1, pw, rv, rfl, hrow, hrr⟩ := Paired.at pd hv
      have vly := vl _ (List.mem_of_getElem? hl1)
      have hj : j < ls.length := (List.getElem?_eq_some_iff.mp hl1).1
      refine ⟨pw, _, rfl, Same.sqT s4 hrow, rfl, _, _, rfl, _, _, rfl, rfl, ?_⟩
      -- the end of this layer
      refine ⟨fun σ' H' => H4 = H' ∧ ∃ y9 y10, σ' = [some (.ref a), some (.int (0 + (i : Int))), some (.ref st), some (.ref pl), some wv, some (.ref F), some rv, some (bkV bk), some (bkV (lenL (rs, bk))), y9, y10, y11, y12, y13, y14, y15], ?_, ?_⟩
      · refine ⟨_, rfl, rfl, _, rfl, ?_⟩
        cases bk with
        | none =>
          refine ite2 (fun _ => ?_) (fun e => absurd (decide_eq_true rfl) e)
          obtain ⟨pr, rvs, rfl, hqr, pdr⟩ := hrr
          have hlr : rvs.length = rs.length := Paired.length pdr
          refine ⟨_, rfl, pr, rfl, ⟨_, Same.sqT s4 hqr⟩, for_tup (K := K) (a := pr) (xs := rvs) (fun m σ H' => H4 = H' ∧ ∃ y9 y10, σ = [some (.ref a), some (.int (0 + (i : Int))), some (.ref st), some (.ref pl), some wv, some (.ref F), some (.ref pr), some .non, some (.int (tot (rs.take m))), y9, y10, y11, y12, y13, y14, y15])
            ⟨rfl, _, _, rfl⟩ (fun m σ H' _ z => by rw [← z.1]; exact Same.sqT s4 hqr) ?_ ?_⟩
          · rintro m x σ H5 hx ⟨rfl, u9, u10, rfl⟩
            obtain ⟨r, hr1, pww, rfl, hrw⟩ := Paired.at pdr hx
            refine ⟨pww, _, rfl, Same.sqT s4 hrw, rfl, _, _, rfl, _, _, rfl, rfl, _, rfl, _, rfl, _, _, rfl, rfl, rfl, some (.int r.1), some (.int r.2), ?_⟩
            rw [tot_take1 hr1]
            rfl
          · rintro σ H5 ⟨rfl, u9, u10, rfl⟩
            refine ⟨rfl, u9, u10, ?_⟩
            rw [List.take_of_length_le (by omega)]
            rfl
        | some b => exact ite2 (fun e => nomatch (of_decide_eq_true e)) (fun _ => ⟨rfl, z9, z10, rfl⟩)
      · rintro σ' H5 ⟨rfl, u9, u10, rfl⟩
        refine ⟨_, rfl, .inl ⟨rfl, _, .inl (.inl hF4)⟩, _, rfl, F, _, _, rfl, rfl, hF4, ?_, ?_⟩
        · rw [List.length_map, List.length_take]
          exact small1000 (by omega)
        have s5 : Same H3 (upd H4 F (.lst (((ls.take j).map fun l => bkV (lenL l)) ++ [bkV (lenL (rs, bk))]))) := fun b o e => by
          rw [upd_ne (ne_of_none e nF)]
          exact s4 _ _ e
        have eF : ((ls.take j).map fun l => bkV (lenL l)) ++ [bkV (lenL (rs, bk))] = (ls.take (j + 1)).map fun l => bkV (lenL l) := by
          rw [List.take_add_one, hl1, List.map_append]
          rfl
        rw [eF] at s5 ⊢
        have hF5 : (upd H4 F (.lst ((ls.take (j + 1)).map fun l => bkV (lenL l)))) F = some (.lst ((ls.take (j + 1)).map fun l => bkV (lenL l))) := upd_same
        generalize upd H4 F (.lst ((ls.take (j + 1)).map fun l => bkV (lenL l))) = H5 at s5 hF5 ⊢
        refine ⟨_, rfl, _, rfl, (by show 2 ≤ sizeLine; decide), fun p6 np6 => ?_⟩
        obtain ⟨s6, e6⟩ := new_at (.tup [rv, bkV bk]) np6
        obtain ⟨t, ft⟩ := bkFl (lenL (rs, bk))
        refine ⟨.ref p6, (rs, bk), rfl, ⟨p6, rv, rfl, .inl (.inl e6), hrr.keep (Same.tk (s5.trans s6))⟩, vly, fun H7 s7 => ⟨_, rfl, _, _, t, t, _, _, rfl, ft, ft, fun H8 s8 => ⟨_, rfl, iteNS rfl ?_⟩⟩⟩
        have s58 := (s6.trans s7).trans s8
        exact ⟨s5.trans s58, s58 _ _ hF5, _, _, _, _, _, rfl⟩
    · rintro σ H4 ⟨s4, hF4, z6, z7, z8, z9, z10, rfl⟩
      rw [List.take_of_length_le (by omega)] at hF4
      -- last
      obtain ⟨pw, mv, rfl, hpw, pm, mvs, rfl, hqm, pdm⟩ := id (hw.keep (Same.tk s4))
      have hlm : mvs.length = ms.length := Paired.length pdm
      refine ⟨_, rfl, pw, _, 2, _, rfl, rfl, hpw, rfl, pm, rfl, ⟨_, hqm⟩, for_tup (K := K) (a := pm) (xs := mvs) (fun j σ H' => H4 = H' ∧ ∃ y12 y13 y14, σ = [some (.ref a), some (.int (0 + (i : Int))), some (.ref st), some (.ref pl), some (.ref pw), some (.ref F), z6, z7, z8, z9, z10, some (.int (mtot (ms.take j))), y12, y13, y14, y15])
        ⟨rfl, _, _, _, rfl⟩ (fun j σ H' _ z => by rw [← z.1]; exact hqm) ?_ ?_⟩
      · rintro j v σ H5 hv ⟨rfl, u12, u13, u14, rfl⟩
        obtain ⟨m, hm1, pww, rfl, hmw⟩ := Paired.at pdm hv
        refine ⟨pww, _, rfl, hmw, rfl, _, _, rfl, _, _, rfl, _, _, rfl, rfl, _, rfl, _, rfl, _, _, rfl, rfl, rfl, some (.int m.1), some (.int m.2.1), some (.int m.2.2), ?_⟩
        rw [mtot_take hm1]
        rfl
      · rintro σ H5 ⟨rfl, u12, u13, u14, rfl⟩
        rw [List.take_of_length_le (by omega)]
        -- due
        refine ⟨fun σ' H' => Same H4 H' ∧ ∃ r, ShLen ls (mtot ms) r ∧ σ' = [some (.ref a), some (.int (0 + (i : Int))), some (.ref st), some (.ref pl), some (.ref pw), some (.ref F), z6, z7, z8, z9, z10, some (.int (mtot ms)), u12, u13, u14, some (bkV r)], ?_, ?_⟩
        · have hfl : (ls.map fun l => bkV (lenL l)).all flatV = true := List.all_eq_true.mpr fun z hz => by
            obtain ⟨l, _, rfl⟩ := List.mem_map.mp hz
            exact bk_flat _
          refine ⟨_, rfl, F, _, rfl, .inl (.inl (.inl hF4)), rfl, hfl, _, rfl, ite2 (fun e => ?_) (fun e => ?_)⟩
          · exact ⟨Same.refl _, none, .inl ⟨(in_ends ls).mp e, rfl⟩, rfl⟩
          · obtain ⟨h1, h2⟩ := all_ints (fun z => e ((in_ends ls).mpr z))
            rw [h2] at hF4
            refine ⟨_, rfl, _, rfl, (by show 1 ≤ sizeLine; decide), fun p6 np6 => ?_⟩
            obtain ⟨s6, e6⟩ := new_at (.lst [.int (mtot ms)]) np6
            refine ⟨F, p6, _, _, rfl, rfl, s6 _ _ hF4, e6, ?_, fun p7 np7 => ?_⟩
            · rw [List.length_map, List.length_map]
              exact Nat.le_of_lt (small1000 (by show ls.length + 1 ≤ 1000; omega))
            · refine ⟨p7, ls.map (fun l => tot l.1) ++ [mtot ms], rfl, .inl (.inl ?_), by simp, fun m hm hx => ?_⟩
              · rw [upd_same, List.map_append]
                rfl
              · exact ⟨s6.trans (same_upd np7), some m, .inr ⟨h1, m, rfl, hm, hx⟩, rfl⟩
        · rintro σ' H6 ⟨s6, r, hr, rfl⟩
          have hw6 : WinAt K H6 (.ref pw) x y ms := hw.keep (Same.tk (s4.trans s6))
          refine ⟨_, rfl, .ref pw, x, y, ms, rfl, hw6, vw, fun H7 s7 => ⟨_, rfl, _, _, _, _, _, _, rfl, .int _, .int _, fun H8 s8 => ⟨_, rfl, iteNS rfl ?_⟩⟩⟩
          have s38 := ((s4.trans s6).trans s7).trans s8
          refine ⟨_, rfl, _, rfl, (by show 2 ≤ sizeLine; decide), fun p9 np9 => ?_⟩
          obtain ⟨s9, e9⟩ := new_at (.tup [.ref pl, .ref pw]) np9
          refine ⟨.ref p9, ls, x, y, ms, rfl, ⟨p9, _, _, rfl, .inl (.inl e9), ⟨pl, vs, rfl, Same.sqT (s38.trans s9) hq, Paired.mono pd fun _ _ => LyAt.keep (Same.tk (s38.trans s9))⟩, hw.keep (Same.tk (s38.trans s9))⟩, vL, vw, fun H10 r' s10 hr' => ?_⟩
          have er := hr.uniq hr'
          subst er
          obtain ⟨t, ft⟩ := bkFl r
          refine ⟨_, rfl, _, _, t, t, _, _, rfl, ft, ft, fun H11 s11 => ⟨_, rfl, iteNS rfl ?_⟩⟩
          exact ⟨(g2.trans (g3.trans (gr_same (((s38.trans s9).trans s10).trans s11)))).same (s0.trans s1) (s0.free n1), _, _, _, _, _, _, _, _, _, _, _, _, _, _, _, rfl⟩
end

theorem all_mk {l : PySem.W.OpenLaw} {w : World} {K : PySem.W.Frag} {h : Heap} {mg : Str → Option Value} {fa : Addr} (X : K.In h) (G : h.Ns mainGlobals mg) (hfa : mg "law" = some (.ref fa))
    {f0 f1 f2 f3 f4 f5 f6 f7 f8 f9 f10 f11 f12 f13 f14 f15 f16 f17 f18 f19 f20 f21 f22 f23 f24 f25 : Addr} {od0 an0 od1 an1 od2 an2 od3 an3 od4 an4 od5 an5 od6 an6 od7 an7 od8 an8 od9 an9 od10 an10 od11 an11 od12 an12 od13 an13 od14 an14 od15 an15 od16 an16 od17 an17 od18 an18 od19 an19 od20 an20 od21 an21 od22 an22 od23 an23 od24 an24 od25 an25 : Option Addr} {sl0 sl1 sl2 sl3 sl4 sl5 sl6 sl7 sl8 sl9 sl10 sl11 sl12 sl13 sl14 sl15 sl16 sl17 sl18 sl19 sl20 sl21 sl22 sl23 sl24 sl25 : Array (Option Value)} {oc0 kV0 dc0 pm0 cd0 ct0 oc1 kV1 dc1 pm1 cd1 ct1 oc2 kV2 dc2 pm2 cd2 ct2 oc3 kV3 dc3 pm3 cd3 ct3 oc4 kV4 dc4 pm4 cd4 ct4 oc5 kV5 dc5 pm5 cd5 ct5 oc6 kV6 dc6 pm6 cd6 ct6 oc7 kV7 dc7 pm7 cd7 ct7 oc8 kV8 dc8 pm8 cd8 ct8 oc9 kV9 dc9 pm9 cd9 ct9 oc10 kV10 dc10 pm10 cd10 ct10 oc11 kV11 dc11 pm11 cd11 ct11 oc12 kV12 dc12 pm12 cd12 ct12 oc13 kV13 dc13 pm13 cd13 ct13 oc14 kV14 dc14 pm14 cd14 ct14 oc15 kV15 dc15 pm15 cd15 ct15 oc16 kV16 dc16 pm16 cd16 ct16 oc17 kV17 dc17 pm17 cd17 ct17 oc18 kV18 dc18 pm18 cd18 ct18 oc19 kV19 dc19 pm19 cd19 ct19 oc20 kV20 dc20 pm20 cd20 ct20 oc21 kV21 dc21 pm21 cd21 ct21 oc22 kV22 dc22 pm22 cd22 ct22 oc23 kV23 dc23 pm23 cd23 ct23 oc24 kV24 dc24 pm24 cd24 ct24 oc25 kV25 dc25 pm25 cd25 ct25 : Value} {t0 t1 t2 t3 t4 t5 t6 : Tok}
    (a0 : PySem.W.nsIn K mainGlobals "is_whole" = some (some (.ref f0))) (l0 : K.lookup f0 = some ⟨oc0, od0, .func (PySem.W.fnOf "is_whole" "is_whole" (defArgs s_is_whole) (defBody s_is_whole) (defScope s_is_whole) .none kV0 dc0 pm0 an0 cd0 ct0), sl0⟩) (c0 : PySem.W.codeIn K cd0 "is_whole" = true) (k0 : PySem.W.keepIn K (.ref f0) = true)
    (a1 : PySem.W.nsIn K mainGlobals "is_tuple" = some (some (.ref f1))) (l1 : K.lookup f1 = some ⟨oc1, od1, .func (PySem.W.fnOf "is_tuple" "is_tuple" (defArgs s_is_tuple) (defBody s_is_tuple) (defScope s_is_tuple) .none kV1 dc1 pm1 an1 cd1 ct1), sl1⟩) (c1 : PySem.W.codeIn K cd1 "is_tuple" = true) (k1 : PySem.W.keepIn K (.ref f1) = true)
    (a2 : PySem.W.nsIn K mainGlobals "is_row" = some (some (.ref f2))) (l2 : K.lookup f2 = some ⟨oc2, od2, .func (PySem.W.fnOf "is_row" "is_row" (defArgs s_is_row) (defBody s_is_row) (defScope s_is_row) .none kV2 dc2 pm2 an2 cd2 ct2), sl2⟩) (c2 : PySem.W.codeIn K cd2 "is_row" = true) (k2 : PySem.W.keepIn K (.ref f2) = true)
    (a3 : PySem.W.nsIn K mainGlobals "is_layer" = some (some (.ref f3))) (l3 : K.lookup f3 = some ⟨oc3, od3, .func (PySem.W.fnOf "is_layer" "is_layer" (defArgs s_is_layer) (defBody s_is_layer) (defScope s_is_layer) .none kV3 dc3 pm3 an3 cd3 ct3), sl3⟩) (c3 : PySem.W.codeIn K cd3 "is_layer" = true) (k3 : PySem.W.keepIn K (.ref f3) = true)
    (a4 : PySem.W.nsIn K mainGlobals "is_spot" = some (some (.ref f4))) (l4 : K.lookup f4 = some ⟨oc4, od4, .func (PySem.W.fnOf "is_spot" "is_spot" (defArgs s_is_spot) (defBody s_is_spot) (defScope s_is_spot) .none kV4 dc4 pm4 an4 cd4 ct4), sl4⟩) (c4 : PySem.W.codeIn K cd4 "is_spot" = true) (k4 : PySem.W.keepIn K (.ref f4) = true)
    (a5 : PySem.W.nsIn K mainGlobals "is_move" = some (some (.ref f5))) (l5 : K.lookup f5 = some ⟨oc5, od5, .func (PySem.W.fnOf "is_move" "is_move" (defArgs s_is_move) (defBody s_is_move) (defScope s_is_move) .none kV5 dc5 pm5 an5 cd5 ct5), sl5⟩) (c5 : PySem.W.codeIn K cd5 "is_move" = true) (k5 : PySem.W.keepIn K (.ref f5) = true)
    (a6 : PySem.W.nsIn K mainGlobals "is_window" = some (some (.ref f6))) (l6 : K.lookup f6 = some ⟨oc6, od6, .func (PySem.W.fnOf "is_window" "is_window" (defArgs s_is_window) (defBody s_is_window) (defScope s_is_window) .none kV6 dc6 pm6 an6 cd6 ct6), sl6⟩) (c6 : PySem.W.codeIn K cd6 "is_window" = true) (k6 : PySem.W.keepIn K (.ref f6) = true)
    (a7 : PySem.W.nsIn K mainGlobals "is_sheet" = some (some (.ref f7))) (l7 : K.lookup f7 = some ⟨oc7, od7, .func (PySem.W.fnOf "is_sheet" "is_sheet" (defArgs s_is_sheet) (defBody s_is_sheet) (defScope s_is_sheet) .none kV7 dc7 pm7 an7 cd7 ct7), sl7⟩) (c7 : PySem.W.codeIn K cd7 "is_sheet" = true) (k7 : PySem.W.keepIn K (.ref f7) = true)
    (a8 : PySem.W.nsIn K mainGlobals "need_layer" = some (some (.ref f8))) (l8 : K.lookup f8 = some ⟨oc8, od8, .func (PySem.W.fnOf "need_layer" "need_layer" (defArgs s_need_layer) (defBody s_need_layer) (defScope s_need_layer) .none kV8 dc8 pm8 an8 cd8 ct8), sl8⟩) (c8 : PySem.W.codeIn K cd8 "need_layer" = true) (k8 : PySem.W.keepIn K (.ref f8) = true)
    (a9 : PySem.W.nsIn K mainGlobals "need_window" = some (some (.ref f9))) (l9 : K.lookup f9 = some ⟨oc9, od9, .func (PySem.W.fnOf "need_window" "need_window" (defArgs s_need_window) (defBody s_need_window) (defScope s_need_window) .none kV9 dc9 pm9 an9 cd9 ct9), sl9⟩) (c9 : PySem.W.codeIn K cd9 "need_window" = true) (k9 : PySem.W.keepIn K (.ref f9) = true)
    (a10 : PySem.W.nsIn K mainGlobals "need_sheet" = some (some (.ref f10))) (l10 : K.lookup f10 = some ⟨oc10, od10, .func (PySem.W.fnOf "need_sheet" "need_sheet" (defArgs s_need_sheet) (defBody s_need_sheet) (defScope s_need_sheet) .none kV10 dc10 pm10 an10 cd10 ct10), sl10⟩) (c10 : PySem.W.codeIn K cd10 "need_sheet" = true) (k10 : PySem.W.keepIn K (.ref f10) = true)
    (a11 : PySem.W.nsIn K mainGlobals "held" = some (some (.ref f11))) (l11 : K.lookup f11 = some ⟨oc11, od11, .func (PySem.W.fnOf "held" "held" (defArgs s_held) (defBody s_held) (defScope s_held) .none kV11 dc11 pm11 an11 cd11 ct11), sl11⟩) (c11 : PySem.W.codeIn K cd11 "held" = true) (k11 : PySem.W.keepIn K (.ref f11) = true)
    (a12 : PySem.W.nsIn K mainGlobals "length_of" = some (some (.ref f12))) (l12 : K.lookup f12 = some ⟨oc12, od12, .func (PySem.W.fnOf "length_of" "length_of" (defArgs s_length_of) (defBody s_length_of) (defScope s_length_of) .none kV12 dc12 pm12 an12 cd12 ct12), sl12⟩) (c12 : PySem.W.codeIn K cd12 "length_of" = true) (k12 : PySem.W.keepIn K (.ref f12) = true)
    (a13 : PySem.W.nsIn K mainGlobals "moved" = some (some (.ref f13))) (l13 : K.lookup f13 = some ⟨oc13, od13, .func (PySem.W.fnOf "moved" "moved" (defArgs s_moved) (defBody s_moved) (defScope s_moved) .none kV13 dc13 pm13 an13 cd13 ct13), sl13⟩) (c13 : PySem.W.codeIn K cd13 "moved" = true) (k13 : PySem.W.keepIn K (.ref f13) = true)
    (a14 : PySem.W.nsIn K mainGlobals "layer_length" = some (some (.ref f14))) (l14 : K.lookup f14 = some ⟨oc14, od14, .func (PySem.W.fnOf "layer_length" "layer_length" (defArgs s_layer_length) (defBody s_layer_length) (defScope s_layer_length) .none kV14 dc14 pm14 an14 cd14 ct14), sl14⟩) (c14 : PySem.W.codeIn K cd14 "layer_length" = true) (k14 : PySem.W.keepIn K (.ref f14) = true)
    (a15 : PySem.W.nsIn K mainGlobals "window_length" = some (some (.ref f15))) (l15 : K.lookup f15 = some ⟨oc15, od15, .func (PySem.W.fnOf "window_length" "window_length" (defArgs s_window_length) (defBody s_window_length) (defScope s_window_length) .none kV15 dc15 pm15 an15 cd15 ct15), sl15⟩) (c15 : PySem.W.codeIn K cd15 "window_length" = true) (k15 : PySem.W.keepIn K (.ref f15) = true)
    (a16 : PySem.W.nsIn K mainGlobals "sheet_length" = some (some (.ref f16))) (l16 : K.lookup f16 = some ⟨oc16, od16, .func (PySem.W.fnOf "sheet_length" "sheet_length" (defArgs s_sheet_length) (defBody s_sheet_length) (defScope s_sheet_length) .none kV16 dc16 pm16 an16 cd16 ct16), sl16⟩) (c16 : PySem.W.codeIn K cd16 "sheet_length" = true) (k16 : PySem.W.keepIn K (.ref f16) = true)
    (a17 : PySem.W.nsIn K mainGlobals "_law_cell_at" = some (some (.ref f17))) (l17 : K.lookup f17 = some ⟨oc17, od17, .func (PySem.W.fnOf "_law_cell_at" "_law_cell_at" (defArgs s__law_cell_at) (defBody s__law_cell_at) (defScope s__law_cell_at) .none kV17 dc17 pm17 an17 cd17 ct17), sl17⟩) (c17 : PySem.W.codeIn K cd17 "_law_cell_at" = true) (k17 : PySem.W.keepIn K (.ref f17) = true)
    (a18 : PySem.W.nsIn K mainGlobals "_law_state" = some (some (.ref f18))) (l18 : K.lookup f18 = some ⟨oc18, od18, .func (PySem.W.fnOf "_law_state" "_law_state" (defArgs s__law_state) (defBody s__law_state) (defScope s__law_state) .none kV18 dc18 pm18 an18 cd18 ct18), sl18⟩) (c18 : PySem.W.codeIn K cd18 "_law_state" = true) (k18 : PySem.W.keepIn K (.ref f18) = true)
    (a19 : PySem.W.nsIn K mainGlobals "_law_take" = some (some (.ref f19))) (l19 : K.lookup f19 = some ⟨oc19, od19, .func (PySem.W.fnOf "_law_take" "_law_take" (defArgs s__law_take) (defBody s__law_take) (defScope s__law_take) .none kV19 dc19 pm19 an19 cd19 ct19), sl19⟩) (c19 : PySem.W.codeIn K cd19 "_law_take" = true) (k19 : PySem.W.keepIn K (.ref f19) = true)
    (a20 : PySem.W.nsIn K mainGlobals "_law_same" = some (some (.ref f20))) (l20 : K.lookup f20 = some ⟨oc20, od20, .func (PySem.W.fnOf "_law_same" "_law_same" (defArgs s__law_same) (defBody s__law_same) (defScope s__law_same) .none kV20 dc20 pm20 an20 cd20 ct20), sl20⟩) (c20 : PySem.W.codeIn K cd20 "_law_same" = true) (k20 : PySem.W.keepIn K (.ref f20) = true)
    (a21 : PySem.W.nsIn K mainGlobals "_law_row" = some (some (.ref f21))) (l21 : K.lookup f21 = some ⟨oc21, od21, .func (PySem.W.fnOf "_law_row" "_law_row" (defArgs s__law_row) (defBody s__law_row) (defScope s__law_row) .none kV21 dc21 pm21 an21 cd21 ct21), sl21⟩) (c21 : PySem.W.codeIn K cd21 "_law_row" = true) (k21 : PySem.W.keepIn K (.ref f21) = true)
    (a22 : PySem.W.nsIn K mainGlobals "_law_layer" = some (some (.ref f22))) (l22 : K.lookup f22 = some ⟨oc22, od22, .func (PySem.W.fnOf "_law_layer" "_law_layer" (defArgs s__law_layer) (defBody s__law_layer) (defScope s__law_layer) .none kV22 dc22 pm22 an22 cd22 ct22), sl22⟩) (c22 : PySem.W.codeIn K cd22 "_law_layer" = true) (k22 : PySem.W.keepIn K (.ref f22) = true)
    (a23 : PySem.W.nsIn K mainGlobals "_law_window" = some (some (.ref f23))) (l23 : K.lookup f23 = some ⟨oc23, od23, .func (PySem.W.fnOf "_law_window" "_law_window" (defArgs s__law_window) (defBody s__law_window) (defScope s__law_window) .none kV23 dc23 pm23 an23 cd23 ct23), sl23⟩) (c23 : PySem.W.codeIn K cd23 "_law_window" = true) (k23 : PySem.W.keepIn K (.ref f23) = true)
    (a24 : PySem.W.nsIn K mainGlobals "_law_sheet" = some (some (.ref f24))) (l24 : K.lookup f24 = some ⟨oc24, od24, .func (PySem.W.fnOf "_law_sheet" "_law_sheet" (defArgs s__law_sheet) (defBody s__law_sheet) (defScope s__law_sheet) .none kV24 dc24 pm24 an24 cd24 ct24), sl24⟩) (c24 : PySem.W.codeIn K cd24 "_law_sheet" = true) (k24 : PySem.W.keepIn K (.ref f24) = true)
    (a25 : PySem.W.nsIn K mainGlobals "law" = some (some (.ref f25))) (l25 : K.lookup f25 = some ⟨oc25, od25, .func (PySem.W.fnOf "law" "law" (defArgs s_law) (defBody s_law) (defScope s_law) .none kV25 dc25 pm25 an25 cd25 ct25), sl25⟩) (c25 : PySem.W.codeIn K cd25 "law" = true) (k25 : PySem.W.keepIn K (.ref f25) = true)
    (z_len : PySem.W.nsIn K mainGlobals "len" = some none)
    (z_isinstance : PySem.W.nsIn K mainGlobals "isinstance" = some none)
    (z_max : PySem.W.nsIn K mainGlobals "max" = some none)
    (z_min : PySem.W.nsIn K mainGlobals "min" = some none)
    (z_sum : PySem.W.nsIn K mainGlobals "sum" = some none)
    (z_all : PySem.W.nsIn K mainGlobals "all" = some none)
    (z_tuple : PySem.W.nsIn K mainGlobals "tuple" = some none)
    (z_list : PySem.W.nsIn K mainGlobals "list" = some none)
    (z_range : PySem.W.nsIn K mainGlobals "range" = some none)
    (z_zip : PySem.W.nsIn K mainGlobals "zip" = some none)
    (z_bool : PySem.W.nsIn K mainGlobals "bool" = some none)
    (z_int : PySem.W.nsIn K mainGlobals "int" = some none)
    (v_MOST_DRAWING : PySem.W.nsIn K mainGlobals "MOST_DRAWING" = some (some (.int 9 t0)))
    (v_MOST_HOLD : PySem.W.nsIn K mainGlobals "MOST_HOLD" = some (some (.int 24 t1)))
    (v_MOST_ROWS : PySem.W.nsIn K mainGlobals "MOST_ROWS" = some (some (.int 8 t2)))
    (v_MOST_WAY : PySem.W.nsIn K mainGlobals "MOST_WAY" = some (some (.int 20 t3)))
    (v_MOST_MANY : PySem.W.nsIn K mainGlobals "MOST_MANY" = some (some (.int 24 t4)))
    (v_MOST_MOVES : PySem.W.nsIn K mainGlobals "MOST_MOVES" = some (some (.int 8 t5)))
    (v_MOST_LAYERS : PySem.W.nsIn K mainGlobals "MOST_LAYERS" = some (some (.int 4 t6))) :
    ∃ fd : FuncData, (∀ (s : Shared) (v : Value), BindsTo s fd ⟨[v], []⟩ [("_law_script", v)]) ∧ ∀ base : Heap, K.In base → base.Ns mainGlobals mg → FnOk l.prog w K mg base CX0 8 fa fd ["_law_script"] (sp_law K) := by
  have e := hfa.symm.trans (PySem.W.mg_of X G a25)
  cases e
  have T : Txt K mg := ⟨PySem.W.mg_none_of X G z_len, PySem.W.mg_none_of X G z_isinstance, PySem.W.mg_none_of X G z_max, PySem.W.mg_none_of X G z_min, PySem.W.mg_none_of X G z_sum, PySem.W.mg_none_of X G z_all, PySem.W.mg_none_of X G z_tuple, PySem.W.mg_none_of X G z_list, PySem.W.mg_none_of X G z_range, PySem.W.mg_none_of X G z_zip, PySem.W.mg_none_of X G z_bool, PySem.W.mg_none_of X G z_int, ⟨_, PySem.W.mg_of X G v_MOST_DRAWING⟩, ⟨_, PySem.W.mg_of X G v_MOST_HOLD⟩, ⟨_, PySem.W.mg_of X G v_MOST_ROWS⟩, ⟨_, PySem.W.mg_of X G v_MOST_WAY⟩, ⟨_, PySem.W.mg_of X G v_MOST_MANY⟩, ⟨_, PySem.W.mg_of X G v_MOST_MOVES⟩, ⟨_, PySem.W.mg_of X G v_MOST_LAYERS⟩⟩
  refine ⟨PySem.W.fnOf "law" "law" (defArgs s_law) (defBody s_law) (defScope s_law) .none kV25 dc25 pm25 an25 cd25 ct25, fun s v => .of_eq rfl, fun base _ _ => ?_⟩
  have F0 := fun_mk (st := s_is_whole) l0 c0 k0
  have b0 := F0.binds (ps := ["thing", "least", "most"]) fun _ _ _ _ _ _ us hl => match us, hl with | [_, _, _], _ => rfl
  have D_is_whole : Cl l.prog w K mg base 1 "is_whole" ["thing", "least", "most"] (sp_is_whole K) := ⟨_, _, ok_is_whole F0 T , k0, b0, PySem.W.mg_of X G a0⟩
  have F1 := fun_mk (st := s_is_tuple) l1 c1 k1
  have b1 := F1.binds (ps := ["thing", "least", "most"]) fun _ _ _ _ _ _ us hl => match us, hl with | [_, _, _], _ => rfl
  have D_is_tuple : Cl l.prog w K mg base 1 "is_tuple" ["thing", "least", "most"] (sp_is_tuple K) := ⟨_, _, ok_is_tuple F1 T , k1, b1, PySem.W.mg_of X G a1⟩
  have F2 := fun_mk (st := s_is_row) l2 c2 k2
  have b2 := F2.binds (ps := ["thing"]) fun _ _ _ _ _ _ us hl => match us, hl with | [_], _ => rfl
  have D_is_row : Cl l.prog w K mg base 2 "is_row" ["thing"] (sp_is_row K) := ⟨_, _, ok_is_row F2 T (D_is_tuple) (D_is_whole), k2, b2, PySem.W.mg_of X G a2⟩
  have F3 := fun_mk (st := s_is_layer) l3 c3 k3
  have b3 := F3.binds (ps := ["thing"]) fun _ _ _ _ _ _ us hl => match us, hl with | [_], _ => rfl
  have D_is_layer : Cl l.prog w K mg base 3 "is_layer" ["thing"] (sp_is_layer K) := ⟨_, _, ok_is_layer F3 T (D_is_tuple) (D_is_row) (D_is_whole), k3, b3, PySem.W.mg_of X G a3⟩
  have F4 := fun_mk (st := s_is_spot) l4 c4 k4
  have b4 := F4.binds (ps := ["x", "y"]) fun _ _ _ _ _ _ us hl => match us, hl with | [_, _], _ => rfl
  have D_is_spot : Cl l.prog w K mg base 2 "is_spot" ["x", "y"] (sp_is_spot K) := ⟨_, _, ok_is_spot F4 T (D_is_whole), k4, b4, PySem.W.mg_of X G a4⟩
  have F5 := fun_mk (st := s_is_move) l5 c5 k5
  have b5 := F5.binds (ps := ["thing"]) fun _ _ _ _ _ _ us hl => match us, hl with | [_], _ => rfl
  have D_is_move : Cl l.prog w K mg base 3 "is_move" ["thing"] (sp_is_move K) := ⟨_, _, ok_is_move F5 T (D_is_tuple) (D_is_spot) (D_is_whole), k5, b5, PySem.W.mg_of X G a5⟩
  have F6 := fun_mk (st := s_is_window) l6 c6 k6
  have b6 := F6.binds (ps := ["thing"]) fun _ _ _ _ _ _ us hl => match us, hl with | [_], _ => rfl
  have D_is_window : Cl l.prog w K mg base 4 "is_window" ["thing"] (sp_is_window K) := ⟨_, _, ok_is_window F6 T (D_is_tuple) (D_is_spot) (D_is_move), k6, b6, PySem.W.mg_of X G a6⟩
  have F7 := fun_mk (st := s_is_sheet) l7 c7 k7
  have b7 := F7.binds (ps := ["thing"]) fun _ _ _ _ _ _ us hl => match us, hl with | [_], _ => rfl
  have D_is_sheet : Cl l.prog w K mg base 5 "is_sheet" ["thing"] (sp_is_sheet K) := ⟨_, _, ok_is_sheet F7 T (D_is_tuple) (D_is_window) (D_is_layer), k7, b7, PySem.W.mg_of X G a7⟩
  have F8 := fun_mk (st := s_need_layer) l8 c8 k8
  have b8 := F8.binds (ps := ["thing"]) fun _ _ _ _ _ _ us hl => match us, hl with | [_], _ => rfl
  have D_need_layer : Cl l.prog w K mg base 4 "need_layer" ["thing"] (sp_need_layer K) := ⟨_, _, ok_need_layer F8 T (D_is_layer), k8, b8, PySem.W.mg_of X G a8⟩
  have F9 := fun_mk (st := s_need_window) l9 c9 k9
  have b9 := F9.binds (ps := ["thing"]) fun _ _ _ _ _ _ us hl => match us, hl with | [_], _ => rfl
  have D_need_window : Cl l.prog w K mg base 5 "need_window" ["thing"] (sp_need_window K) := ⟨_, _, ok_need_window F9 T (D_is_window), k9, b9, PySem.W.mg_of X G a9⟩
  have F10 := fun_mk (st := s_need_sheet) l10 c10 k10
  have b10 := F10.binds (ps := ["thing"]) fun _ _ _ _ _ _ us hl => match us, hl with | [_], _ => rfl
  have D_need_sheet : Cl l.prog w K mg base 6 "need_sheet" ["thing"] (sp_need_sheet K) := ⟨_, _, ok_need_sheet F10 T (D_is_sheet), k10, b10, PySem.W.mg_of X G a10⟩
  have F11 := fun_mk (st := s_held) l11 c11 k11
  have b11 := F11.binds (ps := ["rows"]) fun _ _ _ _ _ _ us hl => match us, hl with | [_], _ => rfl
  have D_held : Cl l.prog w K mg base 1 "held" ["rows"] (sp_held K) := ⟨_, _, ok_held F11 T , k11, b11, PySem.W.mg_of X G a11⟩
  have F12 := fun_mk (st := s_length_of) l12 c12 k12
  have b12 := F12.binds (ps := ["layer"]) fun _ _ _ _ _ _ us hl => match us, hl with | [_], _ => rfl
  have D_length_of : Cl l.prog w K mg base 2 "length_of" ["layer"] (sp_length_of K) := ⟨_, _, ok_length_of F12 T (D_held), k12, b12, PySem.W.mg_of X G a12⟩
  have F13 := fun_mk (st := s_moved) l13 c13 k13
  have b13 := F13.binds (ps := ["window"]) fun _ _ _ _ _ _ us hl => match us, hl with | [_], _ => rfl
  have D_moved : Cl l.prog w K mg base 1 "moved" ["window"] (sp_moved K) := ⟨_, _, ok_moved F13 T , k13, b13, PySem.W.mg_of X G a13⟩
  have F14 := fun_mk (st := s_layer_length) l14 c14 k14
  have b14 := F14.binds (ps := ["layer"]) fun _ _ _ _ _ _ us hl => match us, hl with | [_], _ => rfl
  have D_layer_length : Cl l.prog w K mg base 5 "layer_length" ["layer"] (sp_layer_length K) := ⟨_, _, ok_layer_length F14 T (D_need_layer) (D_length_of), k14, b14, PySem.W.mg_of X G a14⟩
  have F15 := fun_mk (st := s_window_length) l15 c15 k15
  have b15 := F15.binds (ps := ["window"]) fun _ _ _ _ _ _ us hl => match us, hl with | [_], _ => rfl
  have D_window_length : Cl l.prog w K mg base 6 "window_length" ["window"] (sp_window_length K) := ⟨_, _, ok_window_length F15 T (D_need_window) (D_moved), k15, b15, PySem.W.mg_of X G a15⟩
  have F16 := fun_mk (st := s_sheet_length) l16 c16 k16
  have b16 := F16.binds (ps := ["sheet"]) fun _ _ _ _ _ _ us hl => match us, hl with | [_], _ => rfl
  have D_sheet_length : Cl l.prog w K mg base 7 "sheet_length" ["sheet"] (sp_sheet_length K) := ⟨_, _, ok_sheet_length F16 T (D_need_sheet) (D_length_of) (D_moved), k16, b16, PySem.W.mg_of X G a16⟩
  have F17 := fun_mk (st := s__law_cell_at) l17 c17 k17
  have b17 := F17.binds (ps := ["_law_script", "_law_k"]) fun _ _ _ _ _ _ us hl => match us, hl with | [_, _], _ => rfl
  have D__law_cell_at : Cl l.prog w K mg base 1 "_law_cell_at" ["_law_script", "_law_k"] (sp__law_cell_at K) := ⟨_, _, ok__law_cell_at F17 T , k17, b17, PySem.W.mg_of X G a17⟩
  have F18 := fun_mk (st := s__law_state) l18 c18 k18
  have b18 := F18.binds (ps := ["_law_script", "_law_k"]) fun _ _ _ _ _ _ us hl => match us, hl with | [_, _], _ => rfl
  have D__law_state : Cl l.prog w K mg base 2 "_law_state" ["_law_script", "_law_k"] (sp__law_state K) := ⟨_, _, ok__law_state F18 T (D__law_cell_at), k18, b18, PySem.W.mg_of X G a18⟩
  have F19 := fun_mk (st := s__law_take) l19 c19 k19
  have b19 := F19.binds (ps := ["_law_state_here", "_law_many"]) fun _ _ _ _ _ _ us hl => match us, hl with | [_, _], _ => rfl
  have D__law_take : Cl l.prog w K mg base 1 "_law_take" ["_law_state_here", "_law_many"] (sp__law_take K) := ⟨_, _, ok__law_take F19 T , k19, b19, PySem.W.mg_of X G a19⟩
  have F20 := fun_mk (st := s__law_same) l20 c20 k20
  have b20 := F20.binds (ps := ["_law_found", "_law_due"]) fun _ _ _ _ _ _ us hl => match us, hl with | [_, _], _ => rfl
  have D__law_same : Cl l.prog w K mg base 1 "_law_same" ["_law_found", "_law_due"] (sp__law_same K) := ⟨_, _, ok__law_same F20 T , k20, b20, PySem.W.mg_of X G a20⟩
  have F21 := fun_mk (st := s__law_row) l21 c21 k21
  have b21 := F21.binds (ps := ["_law_state_here", "_law_way"]) fun _ _ _ _ _ _ us hl => match us, hl with | [_, _], _ => rfl
  have D__law_row : Cl l.prog w K mg base 2 "_law_row" ["_law_state_here", "_law_way"] (sp__law_row K) := ⟨_, _, ok__law_row F21 T (D__law_take), k21, b21, PySem.W.mg_of X G a21⟩
  have F22 := fun_mk (st := s__law_layer) l22 c22 k22
  have b22 := F22.binds (ps := ["_law_state_here"]) fun _ _ _ _ _ _ us hl => match us, hl with | [_], _ => rfl
  have D__law_layer : Cl l.prog w K mg base 3 "_law_layer" ["_law_state_here"] (sp__law_layer K) := ⟨_, _, ok__law_layer F22 T (D__law_take) (D__law_row), k22, b22, PySem.W.mg_of X G a22⟩
  have F23 := fun_mk (st := s__law_window) l23 c23 k23
  have b23 := F23.binds (ps := ["_law_state_here"]) fun _ _ _ _ _ _ us hl => match us, hl with | [_], _ => rfl
  have D__law_window : Cl l.prog w K mg base 2 "_law_window" ["_law_state_here"] (sp__law_window K) := ⟨_, _, ok__law_window F23 T (D__law_take), k23, b23, PySem.W.mg_of X G a23⟩
  have F24 := fun_mk (st := s__law_sheet) l24 c24 k24
  have b24 := F24.binds (ps := ["_law_state_here"]) fun _ _ _ _ _ _ us hl => match us, hl with | [_], _ => rfl
  have D__law_sheet : Cl l.prog w K mg base 4 "_law_sheet" ["_law_state_here"] (sp__law_sheet K) := ⟨_, _, ok__law_sheet F24 T (D__law_window) (D__law_layer) (D__law_take), k24, b24, PySem.W.mg_of X G a24⟩
  have F25 := fun_mk (st := s_law) l25 c25 k25
  exact ok_law F25 T (D__law_state) (D__law_sheet) (D__law_take) (D__law_same) (D_layer_length) (D_window_length) (D_sheet_length)

end Lan
open PySem PySem.W PyProof.Rows
set_option maxRecDepth 100000 in
set_option maxHeartbeats 0 in
theorem PySem.Challenge.cw_lanternrows_k03_lengths_told_holds : PySem.Challenge.rw_lanternrows_k03_lengths_told.Holds := by
  w_on; o_law; k_head; (case hw => w_witness2)
  k_fill
  refine L2.walk_of (l := PySem.Challenge.rw_lanternrows_k03_lengths_told) (n := 63) (k := 8) (x := "_law_script") (CX := fun _ => L2.CX0) (sp := fun w => Lan.sp_law _) rfl (by decide) rfl ⟨rfl, by decide, by decide⟩ (fun w h Y => PySem.W.kIn_of Y) ?F (fun _ _ a ns hl _ hS => ⟨a, ns, rfl, hS, hl, fun _ => rfl⟩) (fun _ _ _ _ _ h => h)
  case F =>
    intro w mg fa h KX G hmg
    refine' Lan.all_mk KX G hmg ?a0 ?l0 ?c0 ?k0 ?a1 ?l1 ?c1 ?k1 ?a2 ?l2 ?c2 ?k2 ?a3 ?l3 ?c3 ?k3 ?a4 ?l4 ?c4 ?k4 ?a5 ?l5 ?c5 ?k5 ?a6 ?l6 ?c6 ?k6 ?a7 ?l7 ?c7 ?k7 ?a8 ?l8 ?c8 ?k8 ?a9 ?l9 ?c9 ?k9 ?a10 ?l10 ?c10 ?k10 ?a11 ?l11 ?c11 ?k11 ?a12 ?l12 ?c12 ?k12 ?a13 ?l13 ?c13 ?k13 ?a14 ?l14 ?c14 ?k14 ?a15 ?l15 ?c15 ?k15 ?a16 ?l16 ?c16 ?k16 ?a17 ?l17 ?c17 ?k17 ?a18 ?l18 ?c18 ?k18 ?a19 ?l19 ?c19 ?k19 ?a20 ?l20 ?c20 ?k20 ?a21 ?l21 ?c21 ?k21 ?a22 ?l22 ?c22 ?k22 ?a23 ?l23 ?c23 ?k23 ?a24 ?l24 ?c24 ?k24 ?a25 ?l25 ?c25 ?k25 ?z_len ?z_isinstance ?z_max ?z_min ?z_sum ?z_all ?z_tuple ?z_list ?z_range ?z_zip ?z_bool ?z_int ?v_MOST_DRAWING ?v_MOST_HOLD ?v_MOST_ROWS ?v_MOST_WAY ?v_MOST_MANY ?v_MOST_MOVES ?v_MOST_LAYERS
    (case a0 => k_is)
    (case l0 => k_is)
    (case c0 => k_is)
    (case k0 => k_is)
    (case a1 => k_is)
    (case l1 => k_is)
    (case c1 => k_is)
    (case k1 => k_is)
    (case a2 => k_is)
    (case l2 => k_is)
    (case c2 => k_is)
    (case k2 => k_is)
    (case a3 => k_is)
    (case l3 => k_is)
    (case c3 => k_is)
    (case k3 => k_is)
    (case a4 => k_is)
    (case l4 => k_is)
    (case c4 => k_is)
    (case k4 => k_is)
    (case a5 => k_is)
    (case l5 => k_is)
    (case c5 => k_is)
    (case k5 => k_is)
    (case a6 => k_is)
    (case l6 => k_is)
    (case c6 => k_is)
    (case k6 => k_is)
    (case a7 => k_is)
    (case l7 => k_is)
    (case c7 => k_is)
    (case k7 => k_is)
    (case a8 => k_is)
    (case l8 => k_is)
    (case c8 => k_is)
    (case k8 => k_is)
    (case a9 => k_is)
    (case l9 => k_is)
    (case c9 => k_is)
    (case k9 => k_is)
    (case a10 => k_is)
    (case l10 => k_is)
    (case c10 => k_is)
    (case k10 => k_is)
    (case a11 => k_is)
    (case l11 => k_is)
    (case c11 => k_is)
    (case k11 => k_is)
    (case a12 => k_is)
    (case l12 => k_is)
    (case c12 => k_is)
    (case k12 => k_is)
    (case a13 => k_is)
    (case l13 => k_is)
    (case c13 => k_is)
    (case k13 => k_is)
    (case a14 => k_is)
    (case l14 => k_is)
    (case c14 => k_is)
    (case k14 => k_is)
    (case a15 => k_is)
    (case l15 => k_is)
    (case c15 => k_is)
    (case k15 => k_is)
    (case a16 => k_is)
    (case l16 => k_is)
    (case c16 => k_is)
    (case k16 => k_is)
    (case a17 => k_is)
    (case l17 => k_is)
    (case c17 => k_is)
    (case k17 => k_is)
    (case a18 => k_is)
    (case l18 => k_is)
    (case c18 => k_is)
    (case k18 => k_is)
    (case a19 => k_is)
    (case l19 => k_is)
    (case c19 => k_is)
    (case k19 => k_is)
    (case a20 => k_is)
    (case l20 => k_is)
    (case c20 => k_is)
    (case k20 => k_is)
    (case a21 => k_is)
    (case l21 => k_is)
    (case c21 => k_is)
    (case k21 => k_is)
    (case a22 => k_is)
    (case l22 => k_is)
    (case c22 => k_is)
    (case k22 => k_is)
    (case a23 => k_is)
    (case l23 => k_is)
    (case c23 => k_is)
    (case k23 => k_is)
    (case a24 => k_is)
    (case l24 => k_is)
    (case c24 => k_is)
    (case k24 => k_is)
    (case a25 => k_is)
    (case l25 => k_is)
    (case c25 => k_is)
    (case k25 => k_is)
    (case z_len => k_is)
    (case z_isinstance => k_is)
    (case z_max => k_is)
    (case z_min => k_is)
    (case z_sum => k_is)
    (case z_all => k_is)
    (case z_tuple => k_is)
    (case z_list => k_is)
    (case z_range => k_is)
    (case z_zip => k_is)
    (case z_bool => k_is)
    (case z_int => k_is)
    (case v_MOST_DRAWING => k_is)
    (case v_MOST_HOLD => k_is)
    (case v_MOST_ROWS => k_is)
    (case v_MOST_WAY => k_is)
    (case v_MOST_MANY => k_is)
    (case v_MOST_MOVES => k_is)
    (case v_MOST_LAYERS => k_is)
