import PyProof.Rows.All
import Wide.All
import OpenK.AllK
import Wide.FinOn
import HandS.ForMost
import HandS.IsInst
import HandS.TupAny
import HandS.TupMul
import HandS.Conv
import HandS.Style
import HandS.Flow
import HandS.Codes
import PySem.Challenge.RW_lanternrows_k04_drawings_at_moments
set_option Elab.async false
set_option linter.all false
set_option maxRecDepth 100000
set_option maxHeartbeats 4000000
namespace Lan
open PySem PySem.Spec PyProof.Rows L2
/-! ### short rules -/
def bkV : Option Int → V
  | none => .non
  | some i => .int i
structure Cl (P : Program) (w : World) (K : PySem.W.Frag) (mg : Str → Option Value) (base : Heap) (k : Nat) (x : Str) (ps : List Str) (sp : Sp) : Prop where
  ex : ∃ (f : Addr) (fd : FuncData), FnOk P w K mg base CX0 k f fd ps sp ∧ PySem.W.keepIn K (.ref f) = true ∧ Binds K fd ps [] ∧ mg x = some (.ref f)
section
variable {X : Cx}
theorem pe_gint {x : Str} {pos : Pos} {n : Int} (hg : Gl X x) (h : ∃ t, X.mg x = some (.int n t)) (hd : (x == ("__debug__" : Str)) = false := by decide) : PE X (.Name x pos) (tC (.int n)) := by
  obtain ⟨t, h⟩ := h
  exact pe_glob hg h ⟨_, rfl⟩ hd
theorem pe_own {k : Nat} {x : Str} {ps : List Str} {sp : Sp} {e : Expr} {es : List Expr} {t : TA} {p pos : Pos} (C : Cl X.prog X.w X.K X.mg X.base k x ps sp) (hr : Room k X.A) (hg : Gl X x) (ha : PA X (e :: es) t)
    (hdb : (x == ("__debug__" : Str)) = false := by decide) (he : starEach (e :: es) X.env = (false, eval e X.env) :: starEach es X.env := by rfl) (hpl : (backTo pos (starEach es X.env)).any (·.1) = false := by rfl) :
    PE X (.Call (.Name x p) (e :: es) [] pos) (tCall sp [] E0 t) := by
  obtain ⟨f, fd, F, hk, hb, hm⟩ := C.ex
  exact pe_call F hr hg hm hk hb .nil pass0 ha hdb he hpl
def tPartN (t : TE) : TO := fun σ H Q => t σ H fun x H1 => ∃ o : Option Int, x = bkV o ∧ Q o H1
theorem po_opt {e : Expr} {te : TE} (h : PE X e te) : PO X (some e) (tPartN te) := by
  refine ⟨fun pins s σ H Q I hw => ?_⟩
  rw [evalPart_some]
  refine thn (h.run pins s σ H _ I hw) fun u s1 ⟨x, H1, I1, r1, q1⟩ => ?_
  obtain ⟨o, rfl, q⟩ := q1
  cases o with
  | none =>
    cases r1
    exact ⟨none, H1, I1, .none, q⟩
  | some i =>
    obtain ⟨t, rfl⟩ := r1
    exact ⟨some i, H1, I1, .int i t, q⟩
end
/-! ### heaps -/
theorem same_upd {H : Hp} {p : Addr} {o : HO} (h : H p = none) : Same H (upd H p o) := fun b x e => by
  rw [upd_ne (ne_of_none e h)]
  exact e
theorem new_at {H : Hp} {p : Addr} (o : HO) (h : H p = none) : Same H (upd H p o) ∧ (upd H p o) p = some o := ⟨same_upd h, upd_same⟩
theorem Same.sqT {K : PySem.W.Frag} {H H' : Hp} {a : Addr} {xs : List V} (e : Same H H') (h : SqT K H a xs) : SqT K H' a xs := by
  rcases h with (h | ⟨o, h⟩) | h
  · exact .inl (.inl (e _ _ h))
  · exact .inl (.inr ⟨o, e _ _ h⟩)
  · exact .inr h
def IsSt (H : Hp) (st : Addr) : Prop := ∃ a b : Int, H st = some (.lst [.int a, .int b]) ∧ 0 ≤ a ∧ 0 ≤ b ∧ b < 2147483647
/-- all but the state at st stands, and st holds a state as before -/
def Gr (st : Addr) (H H' : Hp) : Prop := (∀ b o, b ≠ st → H b = some o → H' b = some o) ∧ (IsSt H st → IsSt H' st)
theorem Gr.refl {st : Addr} {H : Hp} : Gr st H H := ⟨fun _ _ _ h => h, id⟩
theorem Gr.trans {st : Addr} {H H1 H2 : Hp} (a : Gr st H H1) (b : Gr st H1 H2) : Gr st H H2 := ⟨fun c o n h => b.1 c o n (a.1 c o n h), fun h => b.2 (a.2 h)⟩
theorem gr_same {st : Addr} {H H' : Hp} (s : Same H H') : Gr st H H' := ⟨fun b o _ h => s b o h, fun ⟨a, b, h, r⟩ => ⟨a, b, s _ _ h, r⟩⟩
theorem gr_set {st : Addr} {H : Hp} {a b : Int} (h0 : 0 ≤ a) (h1 : 0 ≤ b) (h2 : b < 2147483647) : Gr st H (upd H st (.lst [.int a, .int b])) :=
  ⟨fun c o n h => by rw [upd_ne n]; exact h, fun _ => ⟨a, b, upd_same, h0, h1, h2⟩⟩
theorem Gr.sqT {st : Addr} {K : PySem.W.Frag} {H H' : Hp} {a : Addr} {xs : List V} (g : Gr st H H') (s : IsSt H st) (h : SqT K H a xs) : SqT K H' a xs := by
  obtain ⟨u, v, hs, _⟩ := s
  rcases h with (h | ⟨o, h⟩) | h
  · exact .inl (.inl (g.1 _ _ (ne_of h hs (by intro z; cases z)) h))
  · exact .inl (.inr ⟨o, g.1 _ _ (ne_of h hs (by intro z; cases z)) h⟩)
  · exact .inr h
/-- behind a state that was not there before -/
theorem Gr.same {st : Addr} {H H1 H2 : Hp} (g : Gr st H1 H2) (s : Same H H1) (n : H st = none) : Same H H2 := fun b o h => g.1 b o (ne_of_none h n) (s b o h)
theorem tyT {K : PySem.W.Frag} {H : Hp} {a : Addr} {xs : List V} (h : SqT K H a xs) : TyX K H (.ref a) (.type "tuple") := by
  rcases h with (h | ⟨o, h⟩) | ⟨o, its, n, h, c, _⟩
  · exact .base (.tup h)
  · exact .fTuple h
  · exact .kTuple h c
theorem yes_ok {σ : L2.St} {H : Hp} {te : TE} {R : VK} {Z : Hp → Prop} (h : te σ H R) : tYes σ H (fun b H3 => if b = true then te σ H3 R else Z H3) := by
  show if true = true then te σ H R else Z H
  rw [if_pos rfl]
  exact h
/-! ### comprehensions that make one value an item and leave the heap -/
theorem lcmap_tup {K : PySem.W.Frag} {a : Addr} {xs : List V} {g : TG} {tt : TT} {te : TE} {vs : List Nat} {σ : L2.St} {H1 : Hp} {D : Addr} {Qd : Hp → Prop} (ys : List V) (hl : ys.length = xs.length) (hz : xs.length ≤ 1000) (hS : SqT K H1 a xs) (hD : H1 D = none)
    (hs : ∀ (i : Nat) (x y : V) (H : Hp) (R : V → Hp → Prop) (Z : Hp → Prop), xs[i]? = some x → ys[i]? = some y → Same H1 H → (∀ H4, Same H H4 → R y H4) → g x (wipe σ vs) H fun σ2 H2 => wipe σ2 vs = wipe σ vs ∧ tt σ2 H2 fun b H3 => if b = true then te σ2 H3 R else Z H3)
    (hd : ∀ H, Same H1 H → H D = some (.lst ys) → Qd H) :
    ∃ W : Nat → Nat → Hp → Prop, (∃ m, W 0 m (upd H1 D (.lst []))) ∧ ∀ i m H, W i m H →
      ((Itt K a).stop i H ∧ Qd H) ∨ ((Itt K a).go i H ∧ ∃ Nx : Hp → Prop, (∀ H', Nx H' → ∃ m', m' < m ∧ W (i + 1) m' H') ∧ ∀ x H', (Itt K a).yld i H x H' → g x (wipe σ vs) H' fun σ2 H2 => wipe σ2 vs = wipe σ vs ∧ tt σ2 H2 fun b H3 =>
        if b = true then te σ2 H3 fun y H4 => ∃ acc, H4 D = some (.lst acc) ∧ acc.length < sizeLine ∧ Nx (upd H4 D (.lst (acc ++ [y]))) else Nx H3) := by
  refine lc_tup (K := K) (a := a) (xs := xs) (fun i H => Same H1 H ∧ H D = some (.lst (ys.take i))) ⟨same_upd hD, upd_same⟩ (fun i H _ p => Same.sqT p.1 hS) (fun i x H hx p => ?_) (fun H p => ?_)
  · have hi : i < xs.length := (List.getElem?_eq_some_iff.mp hx).1
    obtain ⟨y, hy⟩ : ∃ y, ys[i]? = some y := ⟨_, List.getElem?_eq_getElem (by omega)⟩
    refine hs i x y H _ _ hx hy p.1 (fun H4 s4 => ⟨ys.take i, s4 _ _ p.2, ?_, ?_, ?_⟩)
    · rw [List.length_take]
      exact Nat.lt_of_le_of_lt (Nat.min_le_left _ _) (small1000 (by omega))
    · intro b o e
      rw [upd_ne (ne_of_none e hD)]
      exact s4 _ _ (p.1 _ _ e)
    · rw [upd_same, List.take_add_one, hy]
      rfl
  · refine hd H p.1 ?_
    rw [p.2, List.take_of_length_le (by omega)]
/-! ### paired lists -/
theorem Paired.mono {α β : Type} {F G : α → β → Prop} {l₁ : List α} {l₂ : List β} (p : Paired F l₁ l₂) (f : ∀ a b, F a b → G a b) : Paired G l₁ l₂ := Paired.mapP p f
theorem Paired.takeP {α β : Type} {F : α → β → Prop} : ∀ {l₁ : List α} {l₂ : List β} (n : Nat), Paired F l₁ l₂ → Paired F (l₁.take n) (l₂.take n)
  | _, _, 0, _ => .nil
  | _, _, _ + 1, .nil => .nil
  | _, _, n + 1, .cons r t => .cons r (Paired.takeP n t)
theorem Paired.dropP {α β : Type} {F : α → β → Prop} : ∀ {l₁ : List α} {l₂ : List β} (n : Nat), Paired F l₁ l₂ → Paired F (l₁.drop n) (l₂.drop n)
  | _, _, 0, p => p
  | _, _, _ + 1, .nil => .nil
  | _, _, n + 1, .cons _ t => Paired.dropP n t
theorem Paired.at {α β : Type} {F : α → β → Prop} : ∀ {l₁ : List α} {l₂ : List β} {i : Nat} {x : α}, Paired F l₁ l₂ → l₁[i]? = some x → ∃ y, l₂[i]? = some y ∧ F x y
  | _, _, i, x, .nil, h => by simp at h
  | _, _, 0, x, .cons (a := a) r t, h => by
    have e : _ = x := Option.some.inj h
    subst e
    exact ⟨_, rfl, r⟩
  | _, _, i + 1, x, .cons r t, h => Paired.at (i := i) t h
theorem Paired.at2 {α β : Type} {F : α → β → Prop} : ∀ {l₁ : List α} {l₂ : List β} {i : Nat} {y : β}, Paired F l₁ l₂ → l₂[i]? = some y → ∃ x, l₁[i]? = some x ∧ F x y
  | _, _, i, y, .nil, h => by simp at h
  | _, _, 0, y, .cons r t, h => by
    have e : _ = y := Option.some.inj h
    subst e
    exact ⟨_, rfl, r⟩
  | _, _, i + 1, y, .cons r t, h => Paired.at2 (i := i) t h
theorem Paired.snocP {α β : Type} {F : α → β → Prop} : ∀ {l₁ : List α} {l₂ : List β} {x : α} {y : β}, Paired F l₁ l₂ → F x y → Paired F (l₁ ++ [x]) (l₂ ++ [y])
  | _, _, _, _, .nil, h => .cons h .nil
  | _, _, _, _, .cons r t, h => .cons r (Paired.snocP t h)
/-! ### rows, layers as they lie in the heap -/
abbrev RW := Int × Int
def RowAt (K : PySem.W.Frag) (H : Hp) (v : V) (r : RW) : Prop := ∃ p, v = .ref p ∧ SqT K H p [.int r.1, .int r.2]
def RowsAt (K : PySem.W.Frag) (H : Hp) (v : V) (rs : List RW) : Prop := ∃ p vs, v = .ref p ∧ SqT K H p vs ∧ Paired (RowAt K H) vs rs
def LayAt (K : PySem.W.Frag) (H : Hp) (v : V) (rs : List RW) (bk : Option Int) : Prop := ∃ p rv, v = .ref p ∧ SqT K H p [rv, bkV bk] ∧ RowsAt K H rv rs
def VRow (r : RW) : Prop := 0 ≤ r.1 ∧ r.1 ≤ 9 ∧ 1 ≤ r.2 ∧ r.2 ≤ 24
def VRows (rs : List RW) : Prop := rs.length ≤ 8 ∧ ∀ r ∈ rs, VRow r
def VBack (rs : List RW) (bk : Option Int) : Prop := ∀ i, bk = some i → 0 ≤ i ∧ i < rs.length
abbrev TKeep (K : PySem.W.Frag) (H H' : Hp) : Prop := ∀ a xs, SqT K H a xs → SqT K H' a xs
theorem Same.tk {K : PySem.W.Frag} {H H' : Hp} (s : Same H H') : TKeep K H H' := fun _ _ h => Same.sqT s h
theorem Gr.tk {st : Addr} {K : PySem.W.Frag} {H H' : Hp} (g : Gr st H H') (s : IsSt H st) : TKeep K H H' := fun _ _ h => g.sqT s h
theorem RowAt.keep {K : PySem.W.Frag} {H H' : Hp} {v : V} {r : RW} (k : TKeep K H H') : RowAt K H v r → RowAt K H' v r := fun ⟨p, e, h⟩ => ⟨p, e, k _ _ h⟩
theorem RowsAt.keep {K : PySem.W.Frag} {H H' : Hp} {v : V} {rs : List RW} (k : TKeep K H H') : RowsAt K H v rs → RowsAt K H' v rs := fun ⟨p, vs, e, h, q⟩ => ⟨p, vs, e, k _ _ h, Paired.mono q fun _ _ => RowAt.keep k⟩
theorem LayAt.keep {K : PySem.W.Frag} {H H' : Hp} {v : V} {rs : List RW} {bk : Option Int} (k : TKeep K H H') : LayAt K H v rs bk → LayAt K H' v rs bk := fun ⟨p, rv, e, h, q⟩ => ⟨p, rv, e, k _ _ h, q.keep k⟩

/-! ### what a layer shows -/
def tot (rs : List RW) : Int := (rs.map (·.2)).sum
theorem tot_nil : tot [] = 0 := rfl
theorem tot_cons (r : RW) (rs : List RW) : tot (r :: rs) = r.2 + tot rs := by
  unfold tot
  rw [List.map_cons, List.sum_cons]
theorem tot_append (rs qs : List RW) : tot (rs ++ qs) = tot rs + tot qs := by
  induction rs with
  | nil => simp [tot_nil]
  | cons r t ih =>
    rw [List.cons_append, tot_cons, tot_cons, ih]
    omega
theorem tot_split (rs : List RW) (k : Nat) : tot rs = tot (rs.take k) + tot (rs.drop k) := by
  rw [← tot_append, List.take_append_drop]
theorem tot_nonneg : ∀ {rs : List RW}, (∀ r ∈ rs, VRow r) → (rs.length : Int) ≤ tot rs ∧ tot rs ≤ 24 * rs.length
  | [], _ => by
    rw [tot_nil]
    exact ⟨Int.le_refl _, Int.le_refl _⟩
  | r :: t, h => by
    have h1 := h r (List.mem_cons_self ..)
    have ih := tot_nonneg (rs := t) fun q hq => h q (List.mem_cons_of_mem _ hq)
    rw [tot_cons, List.length_cons]
    obtain ⟨_, _, h3, h4⟩ := h1
    obtain ⟨i1, i2⟩ := ih
    constructor <;> omega
def walk : List RW → Int → Int
  | [], _ => 0
  | r :: t, m => if m < r.2 then r.1 else walk t (m - r.2)
def near (rs : List RW) (bk : Option Int) (m : Int) : Int := match bk with
  | none => m
  | some b => if m < tot (rs.take b.toNat) then m else tot (rs.take b.toNat) + (m - tot (rs.take b.toNat)) % tot (rs.drop b.toNat)
def shown (rs : List RW) (bk : Option Int) (m : Int) : Int := walk rs (near rs bk m)
theorem walk_out : ∀ (rs : List RW) (m : Int), tot rs ≤ m → (∀ r ∈ rs, VRow r) → walk rs m = 0
  | [], _, _, _ => rfl
  | r :: t, m, h, v => by
    have v1 := v r (List.mem_cons_self ..)
    have vt : ∀ q ∈ t, VRow q := fun q hq => v q (List.mem_cons_of_mem _ hq)
    have t0 := (tot_nonneg vt).1
    rw [tot_cons] at h
    unfold walk
    rw [if_neg (by omega)]
    exact walk_out t _ (by omega) vt
theorem walk_at : ∀ (rs : List RW) (p : Nat) (r : RW) (j : Int), rs[p]? = some r → (∀ r ∈ rs, VRow r) → 0 ≤ j → j < r.2 → walk rs (tot (rs.take p) + j) = r.1
  | [], p, r, j, h, _, _, _ => by simp at h
  | q :: t, 0, r, j, h, _, h0, h1 => by
    have e : q = r := Option.some.inj h
    subst e
    rw [List.take_zero, tot_nil]
    unfold walk
    rw [if_pos (by omega)]
  | q :: t, p + 1, r, j, h, v, h0, h1 => by
    have vq := v q (List.mem_cons_self ..)
    have vt : ∀ q ∈ t, VRow q := fun q hq => v q (List.mem_cons_of_mem _ hq)
    have tp : 0 ≤ tot (t.take p) := by
      have := (tot_nonneg (rs := t.take p) fun q hq => vt q (List.mem_of_mem_take hq)).1
      omega
    rw [List.take_succ_cons, tot_cons]
    unfold walk
    rw [if_neg (by omega), show q.2 + tot (t.take p) + j - q.2 = tot (t.take p) + j by omega]
    exact walk_at t p r j h vt h0 h1
theorem tot_take_le {rs : List RW} (v : ∀ r ∈ rs, VRow r) {p : Nat} {r : RW} (h : rs[p]? = some r) : tot (rs.take p) + r.2 ≤ tot rs := by
  have hp : p < rs.length := (List.getElem?_eq_some_iff.mp h).1
  have e : rs.take (p + 1) = rs.take p ++ [r] := by
    rw [List.take_add_one, h]
    rfl
  have s := tot_split rs (p + 1)
  rw [e, tot_append] at s
  have e1 : tot [r] = r.2 := by
    rw [tot_cons, tot_nil]
    omega
  have := (tot_nonneg (rs := rs.drop (p + 1)) fun q hq => v q (List.mem_of_mem_drop hq)).1
  omega
/-- the j-th picture of the row p, behind k more rounds -/
theorem shown_at {rs : List RW} {bk : Option Int} (v : ∀ r ∈ rs, VRow r) (vb : VBack rs bk) {p k : Nat} {r : RW} {j c : Int} (h : rs[p]? = some r) (h0 : 0 ≤ j) (h1 : j < r.2)
    (hc : ∀ b, bk = some b → c = tot (rs.drop b.toNat)) (hk : 0 < k → ∃ b, bk = some b ∧ b ≤ p) : shown rs bk (tot (rs.take p) + k * c + j) = r.1 := by
  have w := walk_at rs p r j h v h0 h1
  have tp : 0 ≤ tot (rs.take p) := by
    have := (tot_nonneg (rs := rs.take p) fun q hq => v q (List.mem_of_mem_take hq)).1
    omega
  unfold shown near
  cases bk with
  | none =>
    have k0 : k = 0 := by
      rcases Nat.eq_zero_or_pos k with z | z
      · exact z
      · obtain ⟨b, e, _⟩ := hk z
        cases e
    subst k0
    dsimp only
    rw [show tot (rs.take p) + ((0 : Nat) : Int) * c + j = tot (rs.take p) + j by simp]
    exact w
  | some b =>
    have hb := vb b rfl
    have ec := hc b rfl
    have s := tot_split rs b.toNat
    have le := tot_take_le v h
    rw [← ec] at s
    dsimp only
    rw [← ec]
    have cpos : 0 < c := by
      have := (tot_nonneg (rs := rs.drop b.toNat) fun q hq => v q (List.mem_of_mem_drop hq)).1
      rw [← ec, List.length_drop] at this
      omega
    rcases Nat.eq_zero_or_pos k with z | z
    · subst z
      rw [show tot (rs.take p) + ((0 : Nat) : Int) * c + j = tot (rs.take p) + j by simp]
      by_cases hm : tot (rs.take p) + j < tot (rs.take b.toNat)
      · rw [if_pos hm]
        exact w
      · rw [if_neg hm, Int.emod_eq_of_lt (by omega) (by omega)]
        rw [show tot (rs.take b.toNat) + (tot (rs.take p) + j - tot (rs.take b.toNat)) = tot (rs.take p) + j by omega]
        exact w
    · obtain ⟨b', e, hbp⟩ := hk z
      have e' : b = b' := Option.some.inj e
      subst e'
      have bp : b.toNat ≤ p := by omega
      have tb : tot (rs.take b.toNat) ≤ tot (rs.take p) := by
        have e1 : rs.take b.toNat = (rs.take p).take b.toNat := by
          rw [List.take_take, Nat.min_eq_left bp]
        have s1 := tot_split (rs.take p) b.toNat
        rw [← e1] at s1
        have := (tot_nonneg (rs := (rs.take p).drop b.toNat) fun q hq => v q (List.mem_of_mem_take (List.mem_of_mem_drop hq))).1
        omega
      have kc : 0 ≤ (k : Int) * c := Int.mul_nonneg (by omega) (by omega)
      rw [if_neg (by omega)]
      rw [show tot (rs.take p) + (k : Int) * c + j - tot (rs.take b.toNat) = (tot (rs.take p) + j - tot (rs.take b.toNat)) + c * k by rw [Int.mul_comm c]; omega, Int.add_mul_emod_self_left, Int.emod_eq_of_lt (by omega) (by omega)]
      rw [show tot (rs.take b.toNat) + (tot (rs.take p) + j - tot (rs.take b.toNat)) = tot (rs.take p) + j by omega]
      exact w
theorem shown_end {rs : List RW} (v : ∀ r ∈ rs, VRow r) {m : Int} (h : tot rs ≤ m) : shown rs none m = 0 := walk_out rs m h v
/-- a great moment is as the one so many whole rounds ahead -/
theorem shown_far {rs : List RW} {bk : Option Int} (v : ∀ r ∈ rs, VRow r) (vb : VBack rs bk) {m s : Int} (hs : s = match bk with | none => 1 | some b => tot (rs.drop b.toNat)) (h : tot rs ≤ m) :
    shown rs bk (tot rs + (m - tot rs) % s) = shown rs bk m := by
  cases bk with
  | none =>
    dsimp only at hs
    subst hs
    rw [shown_end v h, shown_end v (by omega)]
  | some b =>
    dsimp only at hs
    have hb := vb b rfl
    have e := tot_split rs b.toNat
    have spos : 0 < s := by
      have := (tot_nonneg (rs := rs.drop b.toNat) fun q hq => v q (List.mem_of_mem_drop hq)).1
      rw [← hs, List.length_drop] at this
      omega
    have hm := Int.emod_nonneg (m - tot rs) (show s ≠ 0 by omega)
    unfold shown near
    dsimp only
    rw [← hs] at e ⊢
    rw [if_neg (by omega), if_neg (by omega)]
    congr 2
    rw [show tot rs + (m - tot rs) % s - tot (rs.take b.toNat) = (m - tot rs) % s + s * 1 by omega, Int.add_mul_emod_self_left, Int.emod_emod,
      show m - tot (rs.take b.toNat) = (m - tot rs) + s * 1 by omega, Int.add_mul_emod_self_left]
theorem shown_walk_none (rs : List RW) (m : Int) : shown rs none m = walk rs m := rfl
/-! ### slices -/
theorem cut_to (xs : List V) (k : Nat) : cutV xs none (some (k : Int)) = xs.take k := by
  unfold cutV
  rw [HT.sIx_none, HT.sIx_nat, List.drop_zero, Nat.sub_zero]
  rcases Nat.le_total k xs.length with h | h
  · rw [Nat.min_eq_left h]
  · rw [Nat.min_eq_right h, List.take_length, List.take_of_length_le h]
theorem cut_from (xs : List V) (k : Nat) : cutV xs (some (k : Int)) none = xs.drop k := by
  unfold cutV
  rw [HT.sIx_none, HT.sIx_nat]
  rcases Nat.le_total k xs.length with h | h
  · rw [Nat.min_eq_left h, List.take_of_length_le (by rw [List.length_drop]; omega)]
  · rw [Nat.min_eq_right h, Nat.sub_self, List.take_zero, List.drop_of_length_le h]
theorem cut_all (xs : List V) : cutV xs none none = xs := by
  unfold cutV
  rw [HT.sIx_none, HT.sIx_none, List.drop_zero, Nat.sub_zero, List.take_length]
theorem cut_whole {xs : List V} {lo hi : Option Int} (h : HT.sIx xs.length 0 lo = 0 ∧ HT.sIx xs.length xs.length hi = xs.length) : cutV xs lo hi = xs := by
  unfold cutV
  rw [h.1, h.2, List.drop_zero, Nat.sub_zero, List.take_length]
theorem sl_rows {K : PySem.W.Frag} {H : Hp} {a : Addr} {xs : List V} {lo hi : Option Int} (rs : List RW) {R : VK} (hS : SqT K H a xs) (hp : Paired (RowAt K H) (cutV xs lo hi) rs) (h : ∀ H' v, Same H H' → RowsAt K H' v rs → R v H') :
    rSlA K (.ref a) lo hi H R := by
  refine ⟨a, xs, rfl, hS, fun w => h H _ (Same.refl _) ⟨a, xs, rfl, hS, ?_⟩, fun _ p np => ?_⟩
  · rw [cut_whole w] at hp
    exact hp
  · have s := same_upd (o := .tup (cutV xs lo hi)) np
    exact h _ _ s ⟨p, _, rfl, .inl (.inl upd_same), Paired.mono hp fun _ _ => RowAt.keep (Same.tk s)⟩

/-! ### the text -/
def topS (i : Nat) : Stmt := PySem.Challenge.pw_lanternrows_k04_drawings_at_moments.main.body.getD i (.Pass ⟨0, 0, 0, 0⟩)
abbrev s_is_whole : Stmt := topS 6
theorem sc_is_whole : FnScope ["thing", "least", "most"] ["thing", "least", "most"] (defScope s_is_whole) := ⟨rfl, rfl, rfl, by decide +kernel, rfl, by decide +kernel, by decide +kernel⟩
abbrev s_need_moment : Stmt := topS 7
theorem sc_need_moment : FnScope ["thing"] ["thing"] (defScope s_need_moment) := ⟨rfl, rfl, rfl, by decide +kernel, rfl, by decide +kernel, by decide +kernel⟩
abbrev s_is_tuple : Stmt := topS 12
theorem sc_is_tuple : FnScope ["thing", "least", "most"] ["thing", "least", "most"] (defScope s_is_tuple) := ⟨rfl, rfl, rfl, by decide +kernel, rfl, by decide +kernel, by decide +kernel⟩
abbrev s_is_row : Stmt := topS 13
theorem sc_is_row : FnScope ["thing", "drawing", "hold"] ["thing"] (defScope s_is_row) := ⟨rfl, rfl, rfl, by decide +kernel, rfl, by decide +kernel, by decide +kernel⟩
abbrev s_is_layer : Stmt := topS 14
theorem sc_is_layer : FnScope ["thing", "rows", "back", "row"] ["thing"] (defScope s_is_layer) := ⟨rfl, rfl, rfl, by decide +kernel, rfl, by decide +kernel, by decide +kernel⟩
abbrev s_need_layer : Stmt := topS 15
theorem sc_need_layer : FnScope ["thing"] ["thing"] (defScope s_need_layer) := ⟨rfl, rfl, rfl, by decide +kernel, rfl, by decide +kernel, by decide +kernel⟩
abbrev s_held : Stmt := topS 16
theorem sc_held : FnScope ["rows", "drawing", "hold"] ["rows"] (defScope s_held) := ⟨rfl, rfl, rfl, by decide +kernel, rfl, by decide +kernel, by decide +kernel⟩
abbrev s_first_time : Stmt := topS 18
theorem sc_first_time : FnScope ["rows", "back", "moment", "ahead", "around"] ["rows", "back", "moment"] (defScope s_first_time) := ⟨rfl, rfl, rfl, by decide +kernel, rfl, by decide +kernel, by decide +kernel⟩
abbrev s_drawing_of : Stmt := topS 19
theorem sc_drawing_of : FnScope ["layer", "moment", "rows", "back", "left", "drawing", "hold"] ["layer", "moment"] (defScope s_drawing_of) := ⟨rfl, rfl, rfl, by decide +kernel, rfl, by decide +kernel, by decide +kernel⟩
abbrev s_drawing_at : Stmt := topS 20
theorem sc_drawing_at : FnScope ["layer", "moment"] ["layer", "moment"] (defScope s_drawing_at) := ⟨rfl, rfl, rfl, by decide +kernel, rfl, by decide +kernel, by decide +kernel⟩
abbrev s__law_cell_at : Stmt := topS 22
theorem sc__law_cell_at : FnScope ["_law_script", "_law_k"] ["_law_script", "_law_k"] (defScope s__law_cell_at) := ⟨rfl, rfl, rfl, by decide +kernel, rfl, by decide +kernel, by decide +kernel⟩
abbrev s__law_state : Stmt := topS 23
theorem sc__law_state : FnScope ["_law_script", "_law_k", "_law_cell"] ["_law_script", "_law_k"] (defScope s__law_state) := ⟨rfl, rfl, rfl, by decide +kernel, rfl, by decide +kernel, by decide +kernel⟩
abbrev s__law_take : Stmt := topS 24
theorem sc__law_take : FnScope ["_law_state_here", "_law_many", "_law_found", "_law_stirred"] ["_law_state_here", "_law_many"] (defScope s__law_take) := ⟨rfl, rfl, rfl, by decide +kernel, rfl, by decide +kernel, by decide +kernel⟩
abbrev s__law_same : Stmt := topS 25
theorem sc__law_same : FnScope ["_law_found", "_law_due", "_law_one", "_law_other"] ["_law_found", "_law_due"] (defScope s__law_same) := ⟨rfl, rfl, rfl, by decide +kernel, rfl, by decide +kernel, by decide +kernel⟩
abbrev s__law_row : Stmt := topS 26
theorem sc__law_row : FnScope ["_law_state_here", "_law_way", "_law_drawing"] ["_law_state_here", "_law_way"] (defScope s__law_row) := ⟨rfl, rfl, rfl, by decide +kernel, rfl, by decide +kernel, by decide +kernel⟩
abbrev s__law_layer : Stmt := topS 27
theorem sc__law_layer : FnScope ["_law_state_here", "_law_way", "_law_many", "_law_rows", "_law_back", "_law_turn"] ["_law_state_here"] (defScope s__law_layer) := ⟨rfl, rfl, rfl, by decide +kernel, rfl, by decide +kernel, by decide +kernel⟩
abbrev s__law_laying : Stmt := topS 28
theorem sc__law_laying : FnScope ["_law_layer_here", "_law_many", "_law_rows", "_law_back", "_law_found", "_law_place", "_law_turn"] ["_law_layer_here", "_law_many"] (defScope s__law_laying) := ⟨rfl, rfl, rfl, by decide +kernel, rfl, by decide +kernel, by decide +kernel⟩
abbrev s_law : Stmt := topS 29
theorem sc_law : FnScope ["_law_script", "_law_k", "_law_state_here", "_law_layer_here", "_law_rows", "_law_back", "_law_whole", "_law_ahead", "_law_size", "_law_long", "_law_start", "_law_moment", "_law_near", "_law_row_here"] ["_law_script"] (defScope s_law) := ⟨rfl, rfl, rfl, by decide +kernel, rfl, by decide +kernel, by decide +kernel⟩
structure Txt (K : PySem.W.Frag) (mg : Str → Option Value) : Prop where
  b_len : mg "len" = none
  b_isinstance : mg "isinstance" = none
  b_max : mg "max" = none
  b_min : mg "min" = none
  b_sum : mg "sum" = none
  b_all : mg "all" = none
  b_tuple : mg "tuple" = none
  b_list : mg "list" = none
  b_range : mg "range" = none
  b_zip : mg "zip" = none
  b_bool : mg "bool" = none
  b_int : mg "int" = none
  c_LAST_MOMENT : ∃ t, mg "LAST_MOMENT" = some (Value.int 1000000000 t)
  c_MOST_DRAWING : ∃ t, mg "MOST_DRAWING" = some (Value.int 9 t)
  c_MOST_HOLD : ∃ t, mg "MOST_HOLD" = some (Value.int 24 t)
  c_MOST_ROWS : ∃ t, mg "MOST_ROWS" = some (Value.int 8 t)
section
variable {P : Program} {w : World} {K : PySem.W.Frag} {mg : Str → Option Value} {base : Heap}
def sp_is_whole (K : PySem.W.Frag) : Sp := fun vs H Q _ => ∃ n l m : Int, vs = [.int n, .int l, .int m] ∧ Q (.bl (decide (l ≤ n ∧ n ≤ m))) H
theorem ok_is_whole {f : Addr} {fd : FuncData} (F : Fun K "is_whole" "is_whole" s_is_whole f fd) (T : Txt K mg) : FnOk P w K mg base CX0 1 f fd ["thing", "least", "most"] (sp_is_whole K) := by
  refine F.ok sc_is_whole (fun vs H Q E h => ?_) (fun cdv A outer s H vs Q E hr h => ?_)
  · obtain ⟨n, l, m, rfl, q⟩ := h
    rfl
  · obtain ⟨n, l, m, rfl, q⟩ := h
    refine ⟨_, (pss_cons (ps_if (PW.pt (pw_or (pt_val (pe_callB call_isi (by rfl) T.b_isinstance (by decide +kernel) (pa_cons (pv 0) (pa_cons (pe_bltn (v := .ty "bool") (by rfl) T.b_bool (by decide +kernel) rfl) pa_nil)))) (pw_or1 (pt_not (pt_val (pe_callB call_isi (by rfl) T.b_isinstance (by decide +kernel) (pa_cons (pv 0) (pa_cons (pe_bltn (v := .ty "int") (by rfl) T.b_int (by decide +kernel) rfl) pa_nil)))))))) (pss_one (ps_ret pe_bl)) pss_nil)
      (pss_one (ps_ret (pe_chain op_le op_le (pv 1) (pv 0) (pv 2))))), ?_⟩
    refine ⟨_, rfl, _, _, _, _, false, rfl, .ty _, .base (.int n), kit_ty (by decide +kernel), _, rfl, iteF ?_⟩
    refine ⟨_, rfl, _, _, _, _, true, rfl, .ty _, .base (.int n), kit_ty (by decide +kernel), _, rfl, iteF ?_⟩
    refine ⟨_, rfl, _, rfl, l, n, rfl, rfl, _, rfl, ite2 (fun e => ?_) (fun e => ?_)⟩
    · refine ⟨_, rfl, n, m, rfl, rfl, ?_⟩
      have e1 : l ≤ n := of_decide_eq_true e
      rw [show decide (l ≤ n ∧ n ≤ m) = decide (n ≤ m) by simp [e1]] at q
      exact q
    · have e1 : ¬ l ≤ n := fun z => e (decide_eq_true z)
      rw [show decide (l ≤ n ∧ n ≤ m) = false by simp [e1]] at q
      exact q
def sp_need_moment (K : PySem.W.Frag) : Sp := fun vs H Q _ => ∃ m : Int, vs = [.int m] ∧ 0 ≤ m ∧ m ≤ 1000000000 ∧ Q .non H
theorem ok_need_moment {f : Addr} {fd : FuncData} (F : Fun K "need_moment" "need_moment" s_need_moment f fd) (T : Txt K mg) (D_is_whole : Cl P w K mg base 1 "is_whole" ["thing", "least", "most"] (sp_is_whole K)) : FnOk P w K mg base CX0 2 f fd ["thing"] (sp_need_moment K) := by
  refine F.ok sc_need_moment (fun vs H Q E h => ?_) (fun cdv A outer s H vs Q E hr h => ?_)
  · obtain ⟨m, rfl, _⟩ := h
    rfl
  · obtain ⟨m, rfl, h0, h1, q⟩ := h
    refine ⟨_, (pss_one (ps_if (pt_not (pt_val (pe_own D_is_whole (hr.mono (by decide)) (by rfl) (pa_cons (pv 0) (pa_cons pe_int (pa_cons (pe_gint (by rfl) T.c_LAST_MOMENT) pa_nil)))))) (pss_one ps_never) pss_nil)), ?_⟩
    refine ⟨_, rfl, m, 0, 1000000000, rfl, _, rfl, ?_⟩
    rw [show decide ((0 : Int) ≤ m ∧ m ≤ 1000000000) = true from decide_eq_true ⟨h0, h1⟩]
    exact iteF q
def sp_is_tuple (K : PySem.W.Frag) : Sp := fun vs H Q _ => ∃ (a : Addr) (xs : List V) (l m : Int), vs = [.ref a, .int l, .int m] ∧ SqT K H a xs ∧ Q (.bl (decide (l ≤ (xs.length : Int) ∧ (xs.length : Int) ≤ m))) H
theorem ok_is_tuple {f : Addr} {fd : FuncData} (F : Fun K "is_tuple" "is_tuple" s_is_tuple f fd) (T : Txt K mg) : FnOk P w K mg base CX0 1 f fd ["thing", "least", "most"] (sp_is_tuple K) := by
  refine F.ok sc_is_tuple (fun vs H Q E h => ?_) (fun cdv A outer s H vs Q E hr h => ?_)
  · obtain ⟨a, xs, l, m, rfl, _⟩ := h
    rfl
  · obtain ⟨a, xs, l, m, rfl, ha, q⟩ := h
    refine ⟨_, (pss_one (ps_ret (pe_and (pe_callB call_isi (by rfl) T.b_isinstance (by decide +kernel) (pa_cons (pv 0) (pa_cons (pe_bltn (v := .ty "tuple") (by rfl) T.b_tuple (by decide +kernel) rfl) pa_nil))) (pe_one (pe_chain op_le op_le (pv 1) (pe_callB call_len_seq (by rfl) T.b_len (by decide +kernel) (pa_cons (pv 0) pa_nil)) (pv 2)))))), ?_⟩
    refine ⟨_, rfl, _, _, _, _, true, rfl, .ty _, tyT ha, kit_ty (by decide +kernel), _, rfl, iteT ?_⟩
    refine ⟨_, rfl, _, rfl, a, xs, rfl, .inr ha, l, _, rfl, rfl, _, rfl, ite2 (fun e => ?_) (fun e => ?_)⟩
    · refine ⟨_, rfl, _, m, rfl, rfl, ?_⟩
      have e1 : l ≤ (xs.length : Int) := of_decide_eq_true e
      rw [show decide (l ≤ (xs.length : Int) ∧ (xs.length : Int) ≤ m) = decide ((xs.length : Int) ≤ m) by simp [e1]] at q
      exact q
    · have e1 : ¬ l ≤ (xs.length : Int) := fun z => e (decide_eq_true z)
      rw [show decide (l ≤ (xs.length : Int) ∧ (xs.length : Int) ≤ m) = false by simp [e1]] at q
      exact q
def sp_is_row (K : PySem.W.Frag) : Sp := fun vs H Q _ => ∃ (v : V) (r : RW), vs = [v] ∧ RowAt K H v r ∧ VRow r ∧ Q (.bl true) H
theorem ok_is_row {f : Addr} {fd : FuncData} (F : Fun K "is_row" "is_row" s_is_row f fd) (T : Txt K mg) (D_is_tuple : Cl P w K mg base 1 "is_tuple" ["thing", "least", "most"] (sp_is_tuple K)) (D_is_whole : Cl P w K mg base 1 "is_whole" ["thing", "least", "most"] (sp_is_whole K)) : FnOk P w K mg base CX0 2 f fd ["thing"] (sp_is_row K) := by
  refine F.ok sc_is_row (fun vs H Q E h => ?_) (fun cdv A outer s H vs Q E hr h => ?_)
  · obtain ⟨v, r, rfl, _⟩ := h
    rfl
  · obtain ⟨v, ⟨d, n⟩, rfl, ⟨p, rfl, hp⟩, ⟨v1, v2, v3, v4⟩, q⟩ := h
    refine ⟨_, (pss_cons (ps_if (pt_not (pt_val (pe_own D_is_tuple (hr.mono (by decide)) (by rfl) (pa_cons (pv 0) (pa_cons pe_int (pa_cons pe_int pa_nil)))))) (pss_one (ps_ret pe_bl)) pss_nil)
      (pss_cons (ps_asg (pv 0) (pg_tup (by rfl) (pgs_cons (pg_name (i := 1) sc_is_row.nd rfl (Or.inl rfl)) (pgs_cons (pg_name (i := 2) sc_is_row.nd rfl (Or.inl rfl)) pgs_nil))))
      (pss_one (ps_ret (pe_and (pe_own D_is_whole (hr.mono (by decide)) (by rfl) (pa_cons (pv 1) (pa_cons pe_int (pa_cons (pe_gint (by rfl) T.c_MOST_DRAWING) pa_nil)))) (pe_one (pe_own D_is_whole (hr.mono (by decide)) (by rfl) (pa_cons (pv 2) (pa_cons pe_int (pa_cons (pe_gint (by rfl) T.c_MOST_HOLD) pa_nil)))))))))), ?_⟩
    refine ⟨_, rfl, p, _, 2, 2, rfl, hp, _, rfl, iteF ?_⟩
    refine ⟨_, rfl, p, _, rfl, hp, rfl, _, _, rfl, _, _, rfl, rfl, ?_⟩
    refine ⟨_, rfl, d, 0, 9, rfl, true, ?_, iteT ?_⟩
    · rw [show decide ((0 : Int) ≤ d ∧ d ≤ 9) = true from decide_eq_true ⟨v1, v2⟩]
    · refine ⟨_, rfl, n, 1, 24, rfl, ?_⟩
      rw [show decide ((1 : Int) ≤ n ∧ n ≤ 24) = true from decide_eq_true ⟨v3, v4⟩]
      exact q
end

section
variable {P : Program} {w : World} {K : PySem.W.Frag} {mg : Str → Option Value} {base : Heap}
def sp_is_layer (K : PySem.W.Frag) : Sp := fun vs H Q _ => ∃ (v : V) (rs : List RW) (bk : Option Int), vs = [v] ∧ LayAt K H v rs bk ∧ VRows rs ∧ VBack rs bk ∧ ∀ H', Same H H' → Q (.bl true) H'
theorem ok_is_layer {f : Addr} {fd : FuncData} (F : Fun K "is_layer" "is_layer" s_is_layer f fd) (T : Txt K mg) (D_is_tuple : Cl P w K mg base 1 "is_tuple" ["thing", "least", "most"] (sp_is_tuple K)) (D_is_row : Cl P w K mg base 2 "is_row" ["thing"] (sp_is_row K)) (D_is_whole : Cl P w K mg base 1 "is_whole" ["thing", "least", "most"] (sp_is_whole K)) : FnOk P w K mg base CX0 3 f fd ["thing"] (sp_is_layer K) := by
  refine F.ok sc_is_layer (fun vs H Q E h => ?_) (fun cdv A outer s H vs Q E hr h => ?_)
  · obtain ⟨v, rs, bk, rfl, _⟩ := h
    rfl
  · obtain ⟨v, rs, bk, rfl, ⟨p, rv, rfl, hp, pr, vs, rfl, hq, pd⟩, ⟨v8, vr⟩, vb, q⟩ := h
    have hl : vs.length = rs.length := Paired.length pd
    refine ⟨_, (pss_cons (ps_if (pt_not (pt_val (pe_own D_is_tuple (hr.mono (by decide)) (by rfl) (pa_cons (pv 0) (pa_cons pe_int (pa_cons pe_int pa_nil)))))) (pss_one (ps_ret pe_bl)) pss_nil)
      (pss_cons (ps_asg (pv 0) (pg_tup (by rfl) (pgs_cons (pg_name (i := 1) sc_is_layer.nd rfl (Or.inl rfl)) (pgs_cons (pg_name (i := 2) sc_is_layer.nd rfl (Or.inl rfl)) pgs_nil))))
      (pss_cons (ps_if (PW.pt (pw_or (pt_not (pt_val (pe_own D_is_tuple (hr.mono (by decide)) (by rfl) (pa_cons (pv 1) (pa_cons pe_int (pa_cons (pe_gint (by rfl) T.c_MOST_ROWS) pa_nil)))))) (pw_or1 (pt_not (pt_val (pe_callB (cr_all rfl) (by rfl) T.b_all (by decide +kernel) (pa_cons (pe_lc (own := [("row", 3)]) (g := (gName 3)) (tt := tYes) (by rfl) sc_is_layer.nd (pi_tup (pv 1)) (blkOk_by (own := [("row", 3)]) (N := ["thing", "rows", "back", "row"]) (sc := defScope s_is_layer) (by decide +kernel)) (fun _ _ _ _ _ => (pg_name (i := 3) sc_is_layer.nd rfl (Or.inl rfl))) (fun _ _ _ _ _ => pts_nil) (fun _ _ _ _ _ => (pe_own D_is_row (hr.mono (by decide)) (by rfl) (pa_cons (pv 3) pa_nil)))) pa_nil))))))) (pss_one (ps_ret pe_bl)) pss_nil)
      (pss_one (ps_ret (pe_or (pe_cmpR op_isN (pv 2) pe_non (nomark _)) (pe_one (pe_own D_is_whole (hr.mono (by decide)) (by rfl) (pa_cons (pv 2) (pa_cons pe_int (pa_cons (pe_op op_sub (pe_callB call_len_seq (by rfl) T.b_len (by decide +kernel) (pa_cons (pv 1) pa_nil)) pe_int) pa_nil))))))))))), ?_⟩
    refine ⟨_, rfl, p, _, 2, 2, rfl, hp, _, rfl, iteF ?_⟩
    refine ⟨_, rfl, p, _, rfl, hp, rfl, _, _, rfl, _, _, rfl, rfl, ?_⟩
    refine ⟨_, rfl, pr, vs, 0, 8, rfl, hq, _, rfl, ?_⟩
    rw [show decide ((0 : Int) ≤ (vs.length : Int) ∧ (vs.length : Int) ≤ 8) = true from decide_eq_true ⟨by omega, by omega⟩]
    refine iteF ?_
    refine ⟨_, rfl, pr, rfl, ⟨_, hq⟩, fun D hD => ?_⟩
    refine lcmap_tup ((vs.map fun _ => true).map V.bl) (by simp) (by omega) hq hD (fun i x y H2 R Z hx hy s2 hR => ?_) (fun H2 s2 hL => ?_)
    · obtain ⟨r, hr1, hrow⟩ := Paired.at pd hx
      have ey : y = .bl true := by
        rw [List.map_map, List.getElem?_map, hx] at hy
        exact (Option.some.inj hy).symm
      subst ey
      exact ⟨rfl, yes_ok ⟨_, rfl, x, r, rfl, hrow.keep (Same.tk s2), vr r (List.mem_of_getElem? hr1), hR _ (Same.refl _)⟩⟩
    · refine ⟨D, _, rfl, .inl (.inl hL), _, rfl, ?_⟩
      rw [show ((vs.map fun _ => true).all id) = true by simp]
      refine iteF ?_
      refine ⟨_, rfl, rfl, _, rfl, ?_⟩
      cases bk with
      | none => exact ite2 (fun _ => q _ s2) (fun e => absurd (decide_eq_true rfl) e)
      | some b =>
        refine ite2 (fun e => nomatch (of_decide_eq_true e)) (fun _ => ?_)
        have hb := vb b rfl
        refine ⟨_, rfl, _, rfl, pr, vs, rfl, .inr (Same.sqT s2 hq), _, _, rfl, rfl, b, 0, _, rfl, ?_⟩
        rw [show decide ((0 : Int) ≤ b ∧ b ≤ (vs.length : Int) - 1) = true from decide_eq_true ⟨by omega, by omega⟩]
        exact q _ s2
def sp_need_layer (K : PySem.W.Frag) : Sp := fun vs H Q _ => ∃ (v : V) (rs : List RW) (bk : Option Int), vs = [v] ∧ LayAt K H v rs bk ∧ VRows rs ∧ VBack rs bk ∧ ∀ H', Same H H' → Q .non H'
theorem ok_need_layer {f : Addr} {fd : FuncData} (F : Fun K "need_layer" "need_layer" s_need_layer f fd) (T : Txt K mg) (D_is_layer : Cl P w K mg base 3 "is_layer" ["thing"] (sp_is_layer K)) : FnOk P w K mg base CX0 4 f fd ["thing"] (sp_need_layer K) := by
  refine F.ok sc_need_layer (fun vs H Q E h => ?_) (fun cdv A outer s H vs Q E hr h => ?_)
  · obtain ⟨v, rs, bk, rfl, _⟩ := h
    rfl
  · obtain ⟨v, rs, bk, rfl, hl, v8, vb, q⟩ := h
    refine ⟨_, (pss_one (ps_if (pt_not (pt_val (pe_own D_is_layer (hr.mono (by decide)) (by rfl) (pa_cons (pv 0) pa_nil)))) (pss_one ps_never) pss_nil)), ?_⟩
    exact ⟨_, rfl, v, rs, bk, rfl, hl, v8, vb, fun H' s' => ⟨_, rfl, iteF (q _ s')⟩⟩
def sp_held (K : PySem.W.Frag) : Sp := fun vs H Q _ => ∃ (v : V) (rs : List RW), vs = [v] ∧ RowsAt K H v rs ∧ rs.length ≤ 1000 ∧ ∀ H', Same H H' → Q (.int (tot rs)) H'
theorem ok_held {f : Addr} {fd : FuncData} (F : Fun K "held" "held" s_held f fd) (T : Txt K mg) : FnOk P w K mg base CX0 1 f fd ["rows"] (sp_held K) := by
  refine F.ok sc_held (fun vs H Q E h => ?_) (fun cdv A outer s H vs Q E hr h => ?_)
  · obtain ⟨v, rs, rfl, _⟩ := h
    rfl
  · obtain ⟨v, rs, rfl, ⟨pr, vs, rfl, hq, pd⟩, hz, q⟩ := h
    have hl : vs.length = rs.length := Paired.length pd
    refine ⟨_, (pss_one (ps_ret (pe_callB (cr_sum rfl) (by rfl) T.b_sum (by decide +kernel) (pa_cons (pe_lc (own := [("drawing", 1), ("hold", 2)]) (g := (gTup _ 2 (gCons (gName 1) (gCons (gName 2) gNil)))) (tt := tYes) (by rfl) sc_held.nd (pi_tup (pv 0)) (blkOk_by (own := [("drawing", 1), ("hold", 2)]) (N := ["rows", "drawing", "hold"]) (sc := defScope s_held) (by decide +kernel)) (fun _ _ _ _ _ => (pg_tup (by rfl) (pgs_cons (pg_name (i := 1) sc_held.nd rfl (Or.inl rfl)) (pgs_cons (pg_name (i := 2) sc_held.nd rfl (Or.inl rfl)) pgs_nil)))) (fun _ _ _ _ _ => pts_nil) (fun _ _ _ _ _ => (pv 2))) pa_nil)))), ?_⟩
    refine ⟨_, rfl, pr, rfl, ⟨_, hq⟩, fun D hD => ?_⟩
    refine lcmap_tup ((rs.map (·.2)).map V.int) (by simp [hl]) (by omega) hq hD (fun i x y H2 R Z hx hy s2 hR => ?_) (fun H2 s2 hL => ?_)
    · obtain ⟨r, hr1, p, rfl, hrow⟩ := Paired.at pd hx
      have ey : y = .int r.2 := by
        rw [List.map_map, List.getElem?_map, hr1] at hy
        exact (Option.some.inj hy).symm
      subst ey
      exact ⟨p, _, rfl, Same.sqT s2 hrow, rfl, _, _, rfl, _, _, rfl, rfl, rfl, yes_ok ⟨_, rfl, hR _ (Same.refl _)⟩⟩
    · exact ⟨D, _, rfl, .inl (.inl hL), q _ s2⟩
def sp_first_time (K : PySem.W.Frag) : Sp := fun vs H Q _ => ∃ (v : V) (rs : List RW) (b m : Int), vs = [v, .int b, .int m] ∧ RowsAt K H v rs ∧ VRows rs ∧ VBack rs (some b) ∧ ∀ H', Same H H' → Q (.int (near rs (some b) m)) H'
theorem ok_first_time {f : Addr} {fd : FuncData} (F : Fun K "first_time" "first_time" s_first_time f fd) (T : Txt K mg) (D_held : Cl P w K mg base 1 "held" ["rows"] (sp_held K)) : FnOk P w K mg base CX0 2 f fd ["rows", "back", "moment"] (sp_first_time K) := by
  refine F.ok sc_first_time (fun vs H Q E h => ?_) (fun cdv A outer s H vs Q E hr h => ?_)
  · obtain ⟨v, rs, b, m, rfl, _⟩ := h
    rfl
  · obtain ⟨v, rs, b, m, rfl, ⟨pr, vs, rfl, hq, pd⟩, ⟨v8, vr⟩, vb, q⟩ := h
    have hb := vb b rfl
    obtain ⟨k, rfl⟩ : ∃ k : Nat, b = (k : Int) := ⟨b.toNat, by omega⟩
    refine ⟨_, (pss_cons (ps_set (i := 3) sc_first_time.nd rfl (Or.inl rfl) (pe_own D_held (hr.mono (by decide)) (by rfl) (pa_cons (pe_slice sl_tupA (pv 0) po_none (po_some (pv 1))) pa_nil)))
      (pss_cons (ps_set (i := 4) sc_first_time.nd rfl (Or.inl rfl) (pe_own D_held (hr.mono (by decide)) (by rfl) (pa_cons (pe_slice sl_tupA (pv 0) (po_some (pv 1)) po_none) pa_nil)))
      (pss_one (ps_ret (pe_ifExp (pt_cmpR op_lt (pv 2) (pv 3) (nomark _)) (pv 2) (pe_op op_add (pv 3) (pe_op op_modN (pe_op op_sub (pv 2) (pv 3)) (pv 4)))))))), ?_⟩
    refine ⟨_, rfl, _, rfl, _, rfl, sl_rows (rs.take k) hq (by rw [cut_to]; exact Paired.takeP k pd) (fun H1 v1 s1 h1 => ?_)⟩
    refine ⟨v1, rs.take k, rfl, h1, by rw [List.length_take]; omega, fun H2 s2 => ?_⟩
    have pd2 : Paired (RowAt K H2) vs rs := Paired.mono pd fun _ _ => RowAt.keep (Same.tk (s1.trans s2))
    have hq2 := Same.sqT (s1.trans s2) hq
    refine ⟨_, rfl, _, rfl, _, rfl, ?_⟩
    dsimp only [tNoPart]
    refine sl_rows (rs.drop k) hq2 (by rw [cut_from]; exact Paired.dropP k pd2) (fun H3 v3 s3 h3 => ?_)
    refine ⟨v3, rs.drop k, rfl, h3, by rw [List.length_drop]; omega, fun H4 s4 => ?_⟩
    have q' := q H4 (((s1.trans s2).trans s3).trans s4)
    unfold near at q'
    dsimp only at q'
    rw [Int.toNat_natCast] at q'
    have cpos : 0 < tot (rs.drop k) := by
      have := (tot_nonneg (rs := rs.drop k) fun q hq => vr q (List.mem_of_mem_drop hq)).1
      rw [List.length_drop] at this
      omega
    refine ⟨_, rfl, _, rfl, m, _, rfl, rfl, _, rfl, ite2 (fun e => ?_) (fun e => ?_)⟩
    · rw [if_pos (of_decide_eq_true e)] at q'
      exact ⟨_, rfl, q'⟩
    · rw [if_neg (fun z => e (decide_eq_true z))] at q'
      refine ⟨_, rfl, _, rfl, _, rfl, _, _, rfl, rfl, _, rfl, _, _, rfl, rfl, by omega, _, _, rfl, rfl, ?_⟩
      rw [Int.fmod_eq_emod_of_nonneg _ (by omega)]
      exact q'
def sp_drawing_of (K : PySem.W.Frag) : Sp := fun vs H Q _ => ∃ (v : V) (rs : List RW) (bk : Option Int) (m : Int), vs = [v, .int m] ∧ LayAt K H v rs bk ∧ VRows rs ∧ VBack rs bk ∧ ∀ H', Same H H' → Q (.int (shown rs bk m)) H'
theorem ok_drawing_of {f : Addr} {fd : FuncData} (F : Fun K "drawing_of" "drawing_of" s_drawing_of f fd) (T : Txt K mg) (D_first_time : Cl P w K mg base 2 "first_time" ["rows", "back", "moment"] (sp_first_time K)) : FnOk P w K mg base CX0 3 f fd ["layer", "moment"] (sp_drawing_of K) := by
  refine F.ok sc_drawing_of (fun vs H Q E h => ?_) (fun cdv A outer s H vs Q E hr h => ?_)
  · obtain ⟨v, rs, bk, m, rfl, _⟩ := h
    rfl
  · obtain ⟨v, rs, bk, m, rfl, ⟨p, rv, rfl, hp, pr, vs, rfl, hq, pd⟩, ⟨v8, vr⟩, vb, q⟩ := h
    have hl : vs.length = rs.length := Paired.length pd
    have key : ∀ R : VK, (∀ H', Same H H' → R (.int (near rs bk m)) H') → tIf (tTest (tOp (fun x y H Q => y = .non ∧ Q (.bl (decide (x = .non))) H) (tVar 3) (tC .non))) (tVar 1) (tCall (sp_first_time K) [] E0 (tCons (tVar 2) (tCons (tVar 3) (tCons (tVar 1) tNil)))) [some (.ref p), some (.int m), some (.ref pr), some (bkV bk), none, none, none] H R := by
      intro R hR
      refine ⟨_, rfl, rfl, _, rfl, ?_⟩
      cases bk with
      | none => exact ite2 (fun _ => ⟨_, rfl, hR _ (Same.refl _)⟩) (fun e => absurd (decide_eq_true rfl) e)
      | some b =>
        refine ite2 (fun e => nomatch (of_decide_eq_true e)) (fun _ => ?_)
        exact ⟨_, rfl, _, rfl, _, rfl, _, rs, b, m, rfl, ⟨pr, vs, rfl, hq, pd⟩, ⟨v8, vr⟩, vb, hR⟩
    refine ⟨_, (pss_cons (ps_asg (pv 0) (pg_tup (by rfl) (pgs_cons (pg_name (i := 2) sc_drawing_of.nd rfl (Or.inl rfl)) (pgs_cons (pg_name (i := 3) sc_drawing_of.nd rfl (Or.inl rfl)) pgs_nil))))
      (pss_cons (ps_set (i := 4) sc_drawing_of.nd rfl (Or.inl rfl) (pe_ifExp (pt_cmpR op_isN (pv 3) pe_non (nomark _)) (pv 1) (pe_own D_first_time (hr.mono (by decide)) (by rfl) (pa_cons (pv 2) (pa_cons (pv 3) (pa_cons (pv 1) pa_nil))))))
      (pss_cons (ps_for PassesOwn.never rfl (pi_tup (pv 2)) (pg_tup (by rfl) (pgs_cons (pg_name (i := 5) sc_drawing_of.nd rfl (Or.inl rfl)) (pgs_cons (pg_name (i := 6) sc_drawing_of.nd rfl (Or.inl rfl)) pgs_nil)))
        (pss_cons (ps_if (pt_cmpR op_lt (pv 4) (pv 6) (nomark _)) (pss_one (ps_ret (pv 5))) pss_nil)
      (pss_one (ps_aug (i := 4) sc_drawing_of.nd rfl (Or.inl rfl) (pv 6) ip_sub))))
      (pss_one (ps_ret pe_int))))), ?_⟩
    refine ⟨_, rfl, p, _, rfl, hp, rfl, _, _, rfl, _, _, rfl, rfl, ?_⟩
    refine key _ (fun H1 s1 => ?_)
    refine ⟨_, rfl, pr, rfl, ⟨_, Same.sqT s1 hq⟩, for_tup (K := K) (a := pr) (xs := vs) (fun i σ H2 => ∃ (n : Int) (x y : Option V), σ = [some (.ref p), some (.int m), some (.ref pr), some (bkV bk), some (.int n), x, y] ∧ Same H H2 ∧ walk (rs.drop i) n = shown rs bk m)
      ⟨_, none, none, rfl, s1, rfl⟩ (fun i σ H2 _ ⟨_, _, _, _, s2, _⟩ => Same.sqT s2 hq) ?_ ?_⟩
    · rintro i x σ H2 hx ⟨n, y1, y2, rfl, s2, e⟩
      obtain ⟨r, hr1, pw, rfl, hrow⟩ := Paired.at pd hx
      have hi : i < rs.length := (List.getElem?_eq_some_iff.mp hr1).1
      have ed : rs.drop i = r :: rs.drop (i + 1) := by
        rw [List.drop_eq_getElem_cons hi]
        congr 1
        rw [List.getElem?_eq_getElem hi] at hr1
        exact Option.some.inj hr1
      rw [ed] at e
      unfold walk at e
      refine ⟨pw, _, rfl, Same.sqT s2 hrow, rfl, _, _, rfl, _, _, rfl, rfl, ?_⟩
      refine ⟨_, rfl, _, rfl, n, r.2, rfl, rfl, _, rfl, ite2 (fun c => ?_) (fun c => ?_)⟩
      · rw [if_pos (of_decide_eq_true c)] at e
        refine ⟨_, rfl, ?_⟩
        show Q (.int r.1) H2
        rw [e]
        exact q _ s2
      · rw [if_neg (fun z => c (decide_eq_true z))] at e
        exact ⟨_, rfl, _, rfl, n, r.2, rfl, rfl, n - r.2, _, _, rfl, s2, e⟩
    · rintro σ H2 ⟨n, y1, y2, rfl, s2, e⟩
      rw [List.drop_of_length_le (by omega)] at e
      show Q (.int 0) H2
      rw [show (0 : Int) = shown rs bk m from e]
      exact q _ s2
def sp_drawing_at (K : PySem.W.Frag) : Sp := fun vs H Q _ => ∃ (v : V) (rs : List RW) (bk : Option Int) (m : Int), vs = [v, .int m] ∧ LayAt K H v rs bk ∧ VRows rs ∧ VBack rs bk ∧ 0 ≤ m ∧ m ≤ 1000000000 ∧ ∀ H', Same H H' → Q (.int (shown rs bk m)) H'
theorem ok_drawing_at {f : Addr} {fd : FuncData} (F : Fun K "drawing_at" "drawing_at" s_drawing_at f fd) (T : Txt K mg) (D_need_layer : Cl P w K mg base 4 "need_layer" ["thing"] (sp_need_layer K)) (D_need_moment : Cl P w K mg base 2 "need_moment" ["thing"] (sp_need_moment K)) (D_drawing_of : Cl P w K mg base 3 "drawing_of" ["layer", "moment"] (sp_drawing_of K)) : FnOk P w K mg base CX0 5 f fd ["layer", "moment"] (sp_drawing_at K) := by
  refine F.ok sc_drawing_at (fun vs H Q E h => ?_) (fun cdv A outer s H vs Q E hr h => ?_)
  · obtain ⟨v, rs, bk, m, rfl, _⟩ := h
    rfl
  · obtain ⟨v, rs, bk, m, rfl, hl, v8, vb, h0, h1, q⟩ := h
    refine ⟨_, (pss_cons (ps_expr (pe_own D_need_layer (hr.mono (by decide)) (by rfl) (pa_cons (pv 0) pa_nil)))
      (pss_cons (ps_expr (pe_own D_need_moment (hr.mono (by decide)) (by rfl) (pa_cons (pv 1) pa_nil)))
      (pss_one (ps_ret (pe_own D_drawing_of (hr.mono (by decide)) (by rfl) (pa_cons (pv 0) (pa_cons (pv 1) pa_nil))))))), ?_⟩
    refine ⟨_, rfl, v, rs, bk, rfl, hl, v8, vb, fun H1 s1 => ?_⟩
    refine ⟨_, rfl, m, rfl, h0, h1, ?_⟩
    exact ⟨_, rfl, _, rfl, v, rs, bk, m, rfl, hl.keep (Same.tk s1), v8, vb, fun H2 s2 => q _ (s1.trans s2)⟩
end

/-! ### the law's own helpers -/
theorem fm {x m : Int} (h : 0 < m) : 0 ≤ x.fmod m ∧ x.fmod m < m := by
  rw [Int.fmod_eq_emod_of_nonneg x (by omega)]
  exact ⟨Int.emod_nonneg _ (by omega), Int.emod_lt_of_pos _ h⟩
theorem tk_updL {K : PySem.W.Frag} {H : Hp} {D : Addr} {xs ys : List V} (h : H D = some (.lst xs)) : TKeep K H (upd H D (.lst ys)) := by
  intro a zs q
  rcases q with (q | ⟨o, q⟩) | q
  · refine .inl (.inl ?_)
    rw [upd_ne (ne_of q h (by intro z; cases z))]
    exact q
  · refine .inl (.inr ⟨o, ?_⟩)
    rw [upd_ne (ne_of q h (by intro z; cases z))]
    exact q
  · exact .inr q
inductive Fl : V → String → Bool → Prop
  | non : Fl .non "NoneType" false
  | bl (b : Bool) : Fl (.bl b) "bool" true
  | int (i : Int) : Fl (.int i) "int" false
theorem Fl.ty {K : PySem.W.Frag} {H : Hp} {x : V} {t : String} {b : Bool} (f : Fl x t b) : TyX K H x (.type t) := by
  cases f with
  | non => exact .base .non
  | bl b => exact .base (.bl b)
  | int i => exact .base (.int i)
theorem Fl.kit {x : V} {t : String} {b : Bool} (f : Fl x t b) : kitB t "bool" = some b := by
  cases f <;> decide +kernel
theorem Fl.kit2 {K : PySem.W.Frag} {x : V} {t : String} {b : Bool} (f : Fl x t b) : PySem.W.kitAny K (.type t) [.type "tuple", .type "list"] = some false := by
  cases f <;> exact kitAny_cons (kit_ty (r := false) (by decide +kernel)) (fun _ => kitAny_cons (kit_ty (r := false) (by decide +kernel)) (fun _ => kitAny_nil) (fun z => nomatch z)) (fun z => nomatch z)
theorem Fl.scal {x y : V} {t u : String} {b : Bool} (f : Fl x t b) (g : Fl y u b) : L2.scal x y = true := by
  cases f <;> cases g <;> rfl
theorem Fl.ne {x y : V} {t u : String} {b c : Bool} (f : Fl x t b) (g : Fl y u c) (h : b ≠ c) : x ≠ y := by
  cases f <;> cases g <;> first | exact absurd rfl h | (intro z; cases z)
section
variable {P : Program} {w : World} {K : PySem.W.Frag} {mg : Str → Option Value} {base : Heap}
def sp__law_cell_at (K : PySem.W.Frag) : Sp := fun vs H Q _ => ∃ (a : Addr) (ns : List Int) (k : Int), vs = [.ref a, .int k] ∧ SqL K H a (ns.map V.int) ∧ 0 ≤ k ∧ ∀ c, Q (.int c) H
theorem ok__law_cell_at {f : Addr} {fd : FuncData} (F : Fun K "_law_cell_at" "_law_cell_at" s__law_cell_at f fd) (T : Txt K mg) : FnOk P w K mg base CX0 1 f fd ["_law_script", "_law_k"] (sp__law_cell_at K) := by
  refine F.ok sc__law_cell_at (fun vs H Q E h => ?_) (fun cdv A outer s H vs Q E hr h => ?_)
  · obtain ⟨a, ns, k, rfl, _⟩ := h
    rfl
  · obtain ⟨a, ns, k, rfl, hS, hk, q⟩ := h
    refine ⟨_, (pss_cons (ps_if (pt_cmpR op_lt (pv 1) (pe_callB call_len_seq (by rfl) T.b_len (by decide +kernel) (pa_cons (pv 0) pa_nil)) (nomark _)) (pss_one (ps_ret (pe_ix ix_list (pv 0) (pv 1) (fun _ _ => rfl)))) pss_nil)
      (pss_one (ps_ret pe_int))), ?_⟩
    refine ⟨_, rfl, _, rfl, a, _, rfl, .inl hS, k, _, rfl, rfl, _, rfl, ite2 (fun e => ?_) (fun _ => q 0)⟩
    have e1 : k < ((ns.map V.int).length : Int) := of_decide_eq_true e
    rw [List.length_map] at e1
    have hj : k.toNat < ns.length := by omega
    have g : (ns.map V.int)[k.toNat]? = some (.int ns[k.toNat]) := by
      rw [List.getElem?_map, List.getElem?_eq_getElem hj]
      rfl
    exact ⟨_, rfl, _, rfl, a, _, k, _, rfl, rfl, hS, at_of (j := k.toNat) (by omega) g, q _⟩
def sp__law_state (K : PySem.W.Frag) : Sp := fun vs H Q _ => ∃ (a : Addr) (ns : List Int) (k : Int), vs = [.ref a, .int k] ∧ SqL K H a (ns.map V.int) ∧ 0 ≤ k ∧ ∀ H' p, Same H H' → H p = none → IsSt H' p → Q (.ref p) H'
theorem ok__law_state {f : Addr} {fd : FuncData} (F : Fun K "_law_state" "_law_state" s__law_state f fd) (T : Txt K mg) (D__law_cell_at : Cl P w K mg base 1 "_law_cell_at" ["_law_script", "_law_k"] (sp__law_cell_at K)) : FnOk P w K mg base CX0 2 f fd ["_law_script", "_law_k"] (sp__law_state K) := by
  refine F.ok sc__law_state (fun vs H Q E h => ?_) (fun cdv A outer s H vs Q E hr h => ?_)
  · obtain ⟨a, ns, k, rfl, _⟩ := h
    rfl
  · obtain ⟨a, ns, k, rfl, hS, hk, q⟩ := h
    refine ⟨_, (pss_cons (ps_set (i := 2) sc__law_state.nd rfl (Or.inl rfl) (pe_own D__law_cell_at (hr.mono (by decide)) (by rfl) (pa_cons (pv 0) (pa_cons (pv 1) pa_nil))))
      (pss_one (ps_ret (pe_lst (pa_cons (pe_callB (call_max2 rfl) (by rfl) T.b_max (by decide +kernel) (pa_cons pe_int (pa_cons (pe_op op_sub (pv 2) (pe_op op_pow pe_int pe_int)) pa_nil))) (pa_cons (pe_op op_modN (pv 2) pe_int) pa_nil)))))), ?_⟩
    refine ⟨_, rfl, _, rfl, a, ns, k, rfl, hS, hk, fun c => ?_⟩
    refine ⟨_, rfl, 10, 18, rfl, rfl, ⟨by decide, by decide, by decide⟩, _, _, rfl, rfl, _, _, rfl, _, rfl, _, _, rfl, rfl, (by show (2147483647 : Int) ≠ 0; decide), (by show 2 ≤ sizeLine; decide), fun p np => ?_⟩
    refine q _ p (same_upd np) np ⟨_, _, upd_same, ?_, (fm (by decide)).1, (fm (by decide)).2⟩
    split <;> omega
def sp__law_take (K : PySem.W.Frag) : Sp := fun vs H Q _ => ∃ (st : Addr) (n : Int), vs = [.ref st, .int n] ∧ IsSt H st ∧ 0 < n ∧ n < 1073741824 ∧ ∀ r H', 0 ≤ r → r < n → Gr st H H' → Q (.int r) H'
theorem ok__law_take {f : Addr} {fd : FuncData} (F : Fun K "_law_take" "_law_take" s__law_take f fd) (T : Txt K mg) : FnOk P w K mg base CX0 1 f fd ["_law_state_here", "_law_many"] (sp__law_take K) := by
  refine F.ok sc__law_take (fun vs H Q E h => ?_) (fun cdv A outer s H vs Q E hr h => ?_)
  · obtain ⟨st, n, rfl, _⟩ := h
    rfl
  · obtain ⟨st, n, rfl, ⟨a, b, hs, ha, hb0, hb1⟩, n0, n1, q⟩ := h
    refine ⟨_, (pss_cons (ps_if (pt_cmpR op_gt (pe_ix ix_list (pv 0) pe_int (fun _ _ => rfl)) pe_int (nomark _)) (pss_cons (ps_set (i := 2) sc__law_take.nd rfl (Or.inl rfl) (pe_op op_modN (pe_ix ix_list (pv 0) pe_int (fun _ _ => rfl)) (pv 1)))
      (pss_cons (ps_asg (pe_op op_fdivN (pe_ix ix_list (pv 0) pe_int (fun _ _ => rfl)) (pv 1)) (pg_sub (pv 0) pe_int set_list))
      (pss_one (ps_ret (pv 2))))) pss_nil)
      (pss_cons (ps_asg (pe_op op_modN (pe_op op_add (pe_op op_mul (pe_ix ix_list (pv 0) pe_int (fun _ _ => rfl)) pe_int) pe_int) pe_int) (pg_sub (pv 0) pe_int set_list))
      (pss_cons (ps_set (i := 3) sc__law_take.nd rfl (Or.inl rfl) (pe_op op_modN (pe_op op_add (pe_op op_add (pe_op op_mul (pe_ix ix_list (pv 0) pe_int (fun _ _ => rfl)) (pe_ix ix_list (pv 0) pe_int (fun _ _ => rfl))) (pe_op op_mul pe_int (pe_ix ix_list (pv 0) pe_int (fun _ _ => rfl)))) pe_int) pe_int))
      (pss_cons (ps_set (i := 3) sc__law_take.nd rfl (Or.inl rfl) (pe_op op_modN (pe_op op_add (pe_op op_mul (pv 3) (pv 3)) (pe_op op_mul pe_int (pv 3))) pe_int))
      (pss_one (ps_ret (pe_op op_modN (pe_op op_fdivN (pv 3) pe_int) (pv 1)))))))), ?_⟩
    refine ⟨_, rfl, st, _, 0, _, rfl, rfl, .inl (.inl hs), rfl, a, 0, rfl, rfl, _, rfl, ite2 (fun e => ?_) (fun e => ?_)⟩
    · have e1 : 0 < a := of_decide_eq_true e
      refine ⟨_, rfl, st, _, 0, _, rfl, rfl, .inl (.inl hs), rfl, _, rfl, a, n, rfl, rfl, by omega, ?_⟩
      refine ⟨_, rfl, st, _, 0, _, rfl, rfl, .inl (.inl hs), rfl, _, rfl, a, n, rfl, rfl, ⟨by omega, by omega⟩, _, rfl, st, _, 0, 0, rfl, rfl, hs, rfl, ?_⟩
      refine ⟨_, rfl, q _ _ (fm n0).1 (fm n0).2 (gr_set ?_ hb0 hb1)⟩
      rw [Int.fdiv_eq_ediv_of_nonneg _ (by omega)]
      exact Int.ediv_nonneg ha (by omega)
    · refine ⟨_, rfl, st, _, 1, _, rfl, rfl, .inl (.inl hs), rfl, b, 48271, rfl, rfl, .inl ⟨by omega, by omega⟩, _, _, rfl, rfl, _, _, rfl, rfl, (by show (2147483647 : Int) ≠ 0; decide), _, rfl, st, _, 1, 1, rfl, rfl, hs, rfl, ?_⟩
      dsimp only
      have f1 := fm (x := b * 48271 + 29) (m := 2147483647) (by decide)
      generalize (b * 48271 + 29).fmod 2147483647 = b1 at f1 ⊢
      obtain ⟨f1a, f1b⟩ := f1
      have hs1 : (upd H st (.lst [.int a, .int b1])) st = some (.lst [.int a, .int b1]) := upd_same
      refine ⟨_, rfl, st, _, 1, _, rfl, rfl, .inl (.inl hs1), rfl, _, rfl, st, _, 1, _, rfl, rfl, .inl (.inl hs1), rfl, b1, b1, rfl, rfl, .inl ⟨by omega, by omega⟩, _, rfl, st, _, 1, _, rfl, rfl, .inl (.inl hs1), rfl, 39373, b1, rfl, rfl, .inl ⟨by decide, by decide⟩, _, _, rfl, rfl, _, _, rfl, rfl, _, _, rfl, rfl, (by show (2147483629 : Int) ≠ 0; decide), ?_⟩
      dsimp only
      have f2 := fm (x := b1 * b1 + 39373 * b1 + 7) (m := 2147483629) (by decide)
      generalize (b1 * b1 + 39373 * b1 + 7).fmod 2147483629 = b2 at f2 ⊢
      obtain ⟨f2a, f2b⟩ := f2
      refine ⟨_, rfl, _, rfl, b2, b2, rfl, rfl, .inl ⟨by omega, by omega⟩, _, rfl, 16807, b2, rfl, rfl, .inl ⟨by decide, by decide⟩, _, _, rfl, rfl, _, _, rfl, rfl, (by show (2147483587 : Int) ≠ 0; decide), ?_⟩
      dsimp only
      generalize (b2 * b2 + 16807 * b2).fmod 2147483587 = b3
      refine ⟨_, rfl, b3, 8, rfl, rfl, ⟨by decide, by decide⟩, _, rfl, _, n, rfl, rfl, by omega, ?_⟩
      exact q _ _ (fm n0).1 (fm n0).2 (gr_set ha f1a f1b)
def sp__law_same (K : PySem.W.Frag) : Sp := fun vs H Q _ => ∃ (x y : V) (t u : String) (b c : Bool), vs = [x, y] ∧ Fl x t b ∧ Fl y u c ∧ ∀ H', Same H H' → Q (.bl (decide (x = y))) H'
theorem ok__law_same {f : Addr} {fd : FuncData} (F : Fun K "_law_same" "_law_same" s__law_same f fd) (T : Txt K mg) : FnOk P w K mg base CX0 1 f fd ["_law_found", "_law_due"] (sp__law_same K) := by
  refine F.ok sc__law_same (fun vs H Q E h => ?_) (fun cdv A outer s H vs Q E hr h => ?_)
  · obtain ⟨x, y, t, u, b, c, rfl, _⟩ := h
    rfl
  · obtain ⟨x, y, t, u, b, c, rfl, fx, fy, q⟩ := h
    refine ⟨_, (pss_cons (ps_if (pt_val (pe_callB call_isiT (by rfl) T.b_isinstance (by decide +kernel) (pa_cons (pv 1) (pa_cons (pe_tup (pa_cons (pe_bltn (v := .ty "tuple") (by rfl) T.b_tuple (by decide +kernel) rfl) (pa_cons (pe_bltn (v := .ty "list") (by rfl) T.b_list (by decide +kernel) rfl) pa_nil))) pa_nil)))) (pss_cons ps_never
      (pss_one ps_never)) pss_nil)
      (pss_one (ps_ret (pe_and (pe_cmpR op_eq (pe_callB call_isi (by rfl) T.b_isinstance (by decide +kernel) (pa_cons (pv 0) (pa_cons (pe_bltn (v := .ty "bool") (by rfl) T.b_bool (by decide +kernel) rfl) pa_nil))) (pe_callB call_isi (by rfl) T.b_isinstance (by decide +kernel) (pa_cons (pv 1) (pa_cons (pe_bltn (v := .ty "bool") (by rfl) T.b_bool (by decide +kernel) rfl) pa_nil))) (nomark _)) (pe_one (pe_cmpR op_eq (pv 0) (pv 1) (nomark _))))))), ?_⟩
    refine ⟨_, rfl, (by show 2 ≤ sizeLine; decide), fun p np => ⟨y, p, [.ty "tuple", .ty "list"], _, _, false, rfl, upd_same, .cons (.ty _) (.cons (.ty _) .nil), fy.ty, fy.kit2, _, rfl, iteF ?_⟩⟩
    refine ⟨_, rfl, _, _, _, _, b, rfl, .ty _, fx.ty, kit_ty fx.kit, _, rfl, _, _, _, _, c, rfl, .ty _, fy.ty, kit_ty fy.kit, rfl, _, rfl, ite2 (fun e => ?_) (fun e => ?_)⟩
    · have e1 : b = c := V.bl.inj (of_decide_eq_true e)
      subst e1
      exact ⟨_, rfl, _, rfl, Fl.scal fx fy, q _ (same_upd np)⟩
    · have e1 : b ≠ c := fun z => e (decide_eq_true (by rw [z]))
      have e2 := q _ (same_upd (o := .tup [.ty "tuple", .ty "list"]) np)
      rw [decide_eq_false (Fl.ne fx fy e1)] at e2
      exact e2
def sp__law_row (K : PySem.W.Frag) : Sp := fun vs H Q _ => ∃ (st : Addr) (n : Int), vs = [.ref st, .int n] ∧ IsSt H st ∧ 0 ≤ n ∧ n < 4 ∧ ∀ (r : RW) (p : Addr) (H' : Hp), VRow r → Gr st H H' → H' p = some (.tup [.int r.1, .int r.2]) → Q (.ref p) H'
theorem ok__law_row {f : Addr} {fd : FuncData} (F : Fun K "_law_row" "_law_row" s__law_row f fd) (T : Txt K mg) (D__law_take : Cl P w K mg base 1 "_law_take" ["_law_state_here", "_law_many"] (sp__law_take K)) : FnOk P w K mg base CX0 2 f fd ["_law_state_here", "_law_way"] (sp__law_row K) := by
  refine F.ok sc__law_row (fun vs H Q E h => ?_) (fun cdv A outer s H vs Q E hr h => ?_)
  · obtain ⟨st, n, rfl, _⟩ := h
    rfl
  · obtain ⟨st, n, rfl, hs, n0, n1, q⟩ := h
    refine ⟨_, (pss_cons (ps_set (i := 2) sc__law_row.nd rfl (Or.inl rfl) (pe_ix ix_list (pe_lst (pa_cons (pe_own D__law_take (hr.mono (by decide)) (by rfl) (pa_cons (pv 0) (pa_cons pe_int pa_nil))) (pa_cons (pe_own D__law_take (hr.mono (by decide)) (by rfl) (pa_cons (pv 0) (pa_cons pe_int pa_nil))) (pa_cons (pe_op op_add pe_int (pe_own D__law_take (hr.mono (by decide)) (by rfl) (pa_cons (pv 0) (pa_cons pe_int pa_nil)))) pa_nil)))) (pe_op op_modN (pv 1) pe_int) (fun _ _ => rfl)))
      (pss_one (ps_ret (pe_tup (pa_cons (pv 2) (pa_cons (pe_op op_add pe_int (pe_own D__law_take (hr.mono (by decide)) (by rfl) (pa_cons (pv 0) (pa_cons (pe_ix ix_list (pe_lst (pa_cons pe_int (pa_cons pe_int (pa_cons pe_int (pa_cons pe_int pa_nil))))) (pv 1) (fun _ _ => rfl)) pa_nil)))) pa_nil)))))), ?_⟩
    refine ⟨_, rfl, st, 10, rfl, hs, by decide, by decide, fun r1 H1 a1 b1 g1 => ?_⟩
    refine ⟨_, rfl, st, 2, rfl, g1.2 hs, by decide, by decide, fun r2 H2 a2 b2 g2 => ?_⟩
    have g12 := g1.trans g2
    refine ⟨_, rfl, st, 2, rfl, g12.2 hs, by decide, by decide, fun r3 H3 a3 b3 g3 => ?_⟩
    have g13 := g12.trans g3
    refine ⟨_, _, rfl, rfl, (by show 3 ≤ sizeLine; decide), fun p np => ?_⟩
    obtain ⟨s4, e4⟩ := new_at (.lst [.int r1, .int r2, .int (1 + r3)]) np
    generalize upd H3 p (.lst [.int r1, .int r2, .int (1 + r3)]) = H4 at s4 e4 ⊢
    have g14 := g13.trans (gr_same (st := st) s4)
    obtain ⟨d, d0, d1, ed⟩ : ∃ d : Int, 0 ≤ d ∧ d ≤ 9 ∧ atI [V.int r1, .int r2, .int (1 + r3)] (n.fmod 3) = some (.int d) := by
      rcases (by omega : n = 0 ∨ n = 1 ∨ n = 2 ∨ n = 3) with e | e | e | e <;> subst e
      · exact ⟨r1, by omega, by omega, rfl⟩
      · exact ⟨r2, by omega, by omega, rfl⟩
      · exact ⟨1 + r3, by omega, by omega, rfl⟩
      · exact ⟨r1, by omega, by omega, rfl⟩
    refine ⟨_, rfl, n, 3, rfl, rfl, (by show (3 : Int) ≠ 0; decide), p, _, _, _, rfl, rfl, .inl (.inl e4), ed, ?_⟩
    refine ⟨_, rfl, _, rfl, (by show 4 ≤ sizeLine; decide), fun p2 np2 => ?_⟩
    obtain ⟨s5, e5⟩ := new_at (.lst [.int 3, .int 24, .int 6, .int 1]) np2
    generalize upd H4 p2 (.lst [.int 3, .int 24, .int 6, .int 1]) = H5 at s5 e5 ⊢
    have g15 := g14.trans (gr_same (st := st) s5)
    obtain ⟨m, m0, m1, em⟩ : ∃ m : Int, 0 < m ∧ m ≤ 24 ∧ atI [V.int 3, .int 24, .int 6, .int 1] n = some (.int m) := by
      rcases (by omega : n = 0 ∨ n = 1 ∨ n = 2 ∨ n = 3) with e | e | e | e <;> subst e
      · exact ⟨3, by omega, by omega, rfl⟩
      · exact ⟨24, by omega, by omega, rfl⟩
      · exact ⟨6, by omega, by omega, rfl⟩
      · exact ⟨1, by omega, by omega, rfl⟩
    refine ⟨_, rfl, p2, _, n, _, rfl, rfl, .inl (.inl e5), em, st, m, rfl, g15.2 hs, m0, by omega, fun r6 H6 a6 b6 g6 => ?_⟩
    refine ⟨_, _, rfl, rfl, (by show 2 ≤ sizeLine; decide), fun p7 np7 => ?_⟩
    exact q (d, 1 + r6) p7 _ ⟨d0, d1, by show 1 ≤ 1 + r6; omega, by show 1 + r6 ≤ 24; omega⟩ ((g15.trans g6).trans (gr_same (same_upd np7))) upd_same
def sp__law_layer (K : PySem.W.Frag) : Sp := fun vs H Q _ => ∃ (st : Addr), vs = [.ref st] ∧ IsSt H st ∧ ∀ (v : V) (rs : List RW) (bk : Option Int) (H' : Hp), Gr st H H' → LayAt K H' v rs bk → VRows rs → VBack rs bk → Q v H'
theorem ok__law_layer {f : Addr} {fd : FuncData} (F : Fun K "_law_layer" "_law_layer" s__law_layer f fd) (T : Txt K mg) (D__law_take : Cl P w K mg base 1 "_law_take" ["_law_state_here", "_law_many"] (sp__law_take K)) (D__law_row : Cl P w K mg base 2 "_law_row" ["_law_state_here", "_law_way"] (sp__law_row K)) : FnOk P w K mg base CX0 3 f fd ["_law_state_here"] (sp__law_layer K) := by
  refine F.ok sc__law_layer (fun vs H Q E h => ?_) (fun cdv A outer s H vs Q E hr h => ?_)
  · obtain ⟨st, rfl, _⟩ := h
    rfl
  · obtain ⟨st, rfl, hs, q⟩ := h
    refine ⟨_, (pss_cons (ps_asg (pe_tup (pa_cons (pe_own D__law_take (hr.mono (by decide)) (by rfl) (pa_cons (pv 0) (pa_cons pe_int pa_nil))) (pa_cons (pe_ix ix_list (pe_lst (pa_cons (pe_own D__law_take (hr.mono (by decide)) (by rfl) (pa_cons (pv 0) (pa_cons pe_int pa_nil))) (pa_cons (pe_op op_add pe_int (pe_own D__law_take (hr.mono (by decide)) (by rfl) (pa_cons (pv 0) (pa_cons pe_int pa_nil)))) (pa_cons pe_int pa_nil)))) (pe_own D__law_take (hr.mono (by decide)) (by rfl) (pa_cons (pv 0) (pa_cons pe_int pa_nil))) (fun _ _ => rfl)) pa_nil))) (pg_tup (by rfl) (pgs_cons (pg_name (i := 1) sc__law_layer.nd rfl (Or.inr rfl)) (pgs_cons (pg_name (i := 2) sc__law_layer.nd rfl (Or.inl rfl)) pgs_nil))))
      (pss_cons (ps_set (i := 3) sc__law_layer.nd rfl (Or.inl rfl) (pe_callTy call_tuple_of (by rfl) T.b_tuple (by decide +kernel) (pa_cons (pe_lc (own := [("_law_turn", 5)]) (g := (gName 5)) (tt := tYes) (by rfl) sc__law_layer.nd (pi_range1 (by rfl) T.b_range (pa_cons (pv 2) pa_nil)) (blkOk_by (own := [("_law_turn", 5)]) (N := ["_law_state_here", "_law_way", "_law_many", "_law_rows", "_law_back", "_law_turn"]) (sc := defScope s__law_layer) (by decide +kernel)) (fun _ _ _ _ _ => (pg_name (i := 5) sc__law_layer.nd rfl (Or.inl rfl))) (fun _ _ _ _ _ => pts_nil) (fun _ _ _ _ _ => (pe_own D__law_row (hr.mono (by decide)) (by rfl) (pa_cons (pv 0) (pa_cons (pv 1) pa_nil))))) pa_nil)))
      (pss_cons (ps_set (i := 4) sc__law_layer.nd rfl (Or.inl rfl) (pe_own D__law_take (hr.mono (by decide)) (by rfl) (pa_cons (pv 0) (pa_cons (pe_op op_add (pe_callB call_len_seq (by rfl) T.b_len (by decide +kernel) (pa_cons (pv 3) pa_nil)) pe_int) pa_nil))))
      (pss_one (ps_ret (pe_tup (pa_cons (pv 3) (pa_cons (pe_ifExp (pt_cmpR op_lt (pv 4) (pe_callB call_len_seq (by rfl) T.b_len (by decide +kernel) (pa_cons (pv 3) pa_nil)) (nomark _)) (pv 4) pe_non) pa_nil)))))))), ?_⟩
    refine ⟨_, rfl, st, 4, rfl, hs, by decide, by decide, fun wy H1 a1 b1 g1 => ?_⟩
    refine ⟨_, rfl, st, 9, rfl, g1.2 hs, by decide, by decide, fun r2 H2 a2 b2 g2 => ?_⟩
    have g12 := g1.trans g2
    refine ⟨_, rfl, st, 3, rfl, g12.2 hs, by decide, by decide, fun r3 H3 a3 b3 g3 => ?_⟩
    have g13 := g12.trans g3
    refine ⟨_, _, rfl, rfl, (by show 3 ≤ sizeLine; decide), fun p np => ?_⟩
    obtain ⟨s4, e4⟩ := new_at (.lst [.int r2, .int (1 + r3), .int 8]) np
    generalize upd H3 p (.lst [.int r2, .int (1 + r3), .int 8]) = H4 at s4 e4 ⊢
    have g14 := g13.trans (gr_same (st := st) s4)
    refine ⟨_, rfl, st, 3, rfl, g14.2 hs, by decide, by decide, fun r5 H5 a5 b5 g5 => ?_⟩
    have g15 := g14.trans g5
    have np' : p ≠ st := by
      obtain ⟨x, y, hx, _⟩ := g13.2 hs
      exact fun z => by rw [z, hx] at np; cases np
    have e5 := g5.1 p _ np' e4
    obtain ⟨mn, m0, m1, em⟩ : ∃ m : Int, 0 ≤ m ∧ m ≤ 8 ∧ atI [V.int r2, .int (1 + r3), .int 8] r5 = some (.int m) := by
      rcases (by omega : r5 = 0 ∨ r5 = 1 ∨ r5 = 2) with e | e | e <;> subst e
      · exact ⟨r2, by omega, by omega, rfl⟩
      · exact ⟨1 + r3, by omega, by omega, rfl⟩
      · exact ⟨8, by omega, by omega, rfl⟩
    refine ⟨p, _, r5, _, rfl, rfl, .inl (.inl e5), em, (by show 2 ≤ sizeLine; decide), fun p6 np6 => ?_⟩
    obtain ⟨s6, e6⟩ := new_at (.tup [.int wy, .int mn]) np6
    generalize upd H5 p6 (.tup [.int wy, .int mn]) = H6 at s6 e6 ⊢
    have g16 := g15.trans (gr_same (st := st) s6)
    have hs6 := g16.2 hs
    refine ⟨p6, _, rfl, .inl (.inl e6), rfl, _, _, rfl, _, _, rfl, rfl, ?_⟩
    refine ⟨_, rfl, mn, rfl, by omega, by omega, fun D hD => ?_⟩
    have nD : D ≠ st := by
      obtain ⟨x, y, hx, _⟩ := hs6
      exact fun z => by rw [z, hx] at hD; cases hD
    refine lc_range (lo := 0) (n := mn.toNat) (fun i H' => Gr st H6 H' ∧ ∃ (vs : List V) (rs : List RW), H' D = some (.lst vs) ∧ vs.length = i ∧ Paired (RowAt K H') vs rs ∧ ∀ r ∈ rs, VRow r)
      ⟨gr_same (same_upd hD), [], [], upd_same, rfl, .nil, fun r hr => by cases hr⟩ (fun i H7 hi p7 => ?_) (fun H7 p7 => ?_)
    · obtain ⟨g7, vs, rs, hL, hlen, pd, vr⟩ := p7
      refine ⟨rfl, yes_ok ⟨_, rfl, _, rfl, st, wy, rfl, g7.2 hs6, a1, b1, fun r p8 H8 vr8 g8 e8 => ?_⟩⟩
      have hL8 := g8.1 D _ nD hL
      refine ⟨vs, hL8, ?_, ?_, vs ++ [.ref p8], rs ++ [r], upd_same, ?_, ?_, ?_⟩
      · exact small1000 (by omega)
      · refine ⟨fun b o nb e => ?_, fun hz => ?_⟩
        · rw [upd_ne (ne_of_none e hD)]
          exact (g7.trans g8).1 b o nb e
        · obtain ⟨x, y, hx, hxy⟩ := (g7.trans g8).2 hz
          refine ⟨x, y, ?_, hxy⟩
          rw [upd_ne (Ne.symm nD)]
          exact hx
      · rw [List.length_append, hlen]
        rfl
      · have k1 : TKeep K H7 (upd H8 D (.lst (vs ++ [.ref p8]))) := fun a xs h => tk_updL hL8 _ _ (g8.sqT (g7.2 hs6) h)
        exact Paired.snocP (Paired.mono pd fun _ _ => RowAt.keep k1) ⟨p8, rfl, tk_updL hL8 _ _ (.inl (.inl e8))⟩
      · intro x hx
        rcases List.mem_append.mp hx with z | z
        · exact vr x z
        · rw [List.mem_singleton.mp z]
          exact vr8
    · obtain ⟨g7, vs, rs, hL, hlen, pd, vr⟩ := p7
      have hl : vs.length = rs.length := Paired.length pd
      refine ⟨D, vs, rfl, .inl ⟨.inl (.inl hL), fun l nl => ?_⟩⟩
      obtain ⟨s8, e8⟩ := new_at (.tup vs) nl
      generalize upd H7 l (.tup vs) = H8 at s8 e8 ⊢
      have g18 := (g16.trans g7).trans (gr_same (st := st) s8)
      have hrows : RowsAt K H8 (.ref l) rs := ⟨l, vs, rfl, .inl (.inl e8), Paired.mono pd fun _ _ => RowAt.keep (Same.tk s8)⟩
      refine ⟨_, rfl, _, rfl, l, vs, rfl, .inr (.inl (.inl e8)), _, _, rfl, rfl, st, _, rfl, g18.2 hs, by omega, by omega, fun b H9 a9 b9 g9 => ?_⟩
      have k9 : TKeep K H8 H9 := g9.tk (g18.2 hs)
      have e9 : SqT K H9 l vs := k9 _ _ (.inl (.inl e8))
      refine ⟨_, rfl, _, rfl, _, rfl, l, vs, rfl, .inr e9, _, _, rfl, rfl, _, rfl, ite2 (fun e => ?_) (fun e => ?_)⟩
      · have e1 : b < (vs.length : Int) := of_decide_eq_true e
        refine ⟨_, rfl, (by show 2 ≤ sizeLine; decide), fun t nt => ?_⟩
        have st' := same_upd (o := .tup [.ref l, .int b]) nt
        refine q _ rs (some b) _ ((g18.trans g9).trans (gr_same st')) ⟨t, _, rfl, .inl (.inl upd_same), (hrows.keep k9).keep (Same.tk st')⟩ ⟨by omega, vr⟩ (fun i ei => ?_)
        have : b = i := Option.some.inj ei
        omega
      · refine ⟨(by show 2 ≤ sizeLine; decide), fun t nt => ?_⟩
        have st' := same_upd (o := .tup [.ref l, .non]) nt
        exact q _ rs none _ ((g18.trans g9).trans (gr_same st')) ⟨t, _, rfl, .inl (.inl upd_same), (hrows.keep k9).keep (Same.tk st')⟩ ⟨by omega, vr⟩ (fun i ei => nomatch ei)
end

/-! ### laying -/
def rnd (rs : List RW) : Option Int → Int
  | none => 0
  | some b => tot (rs.drop b.toNat)
def lays (rs : List RW) (bk : Option Int) (n : Nat) : List V := (List.range n).map fun i => V.int (shown rs bk (i : Nat))
theorem lays_at {rs : List RW} {bk : Option Int} {n i : Nat} (h : i < n) : (lays rs bk n)[i]? = some (.int (shown rs bk (i : Nat))) := by
  unfold lays
  rw [List.getElem?_map, List.getElem?_range h]
  rfl
theorem lays_len (rs : List RW) (bk : Option Int) (n : Nat) : (lays rs bk n).length = n := by
  unfold lays
  rw [List.length_map, List.length_range]
theorem lays_of {rs : List RW} {bk : Option Int} {n : Nat} {fs : List Int} (hl : n ≤ fs.length) (h : ∀ i, i < fs.length → fs[i]? = some (shown rs bk (i : Nat))) : (fs.map V.int).take n = lays rs bk n := by
  apply List.ext_getElem?
  intro i
  by_cases hi : i < n
  · rw [lays_at hi, List.getElem?_take_of_lt hi, List.getElem?_map, h i (by omega)]
    rfl
  · rw [List.getElem?_eq_none (by rw [List.length_take]; omega), List.getElem?_eq_none (by rw [lays_len]; omega)]
section
variable {P : Program} {w : World} {K : PySem.W.Frag} {mg : Str → Option Value} {base : Heap}
def sp__law_laying (K : PySem.W.Frag) : Sp := fun vs H Q _ => ∃ (v : V) (rs : List RW) (bk : Option Int) (n : Int), vs = [v, .int n] ∧ LayAt K H v rs bk ∧ VRows rs ∧ VBack rs bk ∧ 0 ≤ n ∧ n ≤ 900 ∧
  ∀ H' p, Same H H' → H p = none → H' p = some (.lst (lays rs bk n.toNat)) → Q (.ref p) H'
theorem ok__law_laying {f : Addr} {fd : FuncData} (F : Fun K "_law_laying" "_law_laying" s__law_laying f fd) (T : Txt K mg) : FnOk P w K mg base CX0 1 f fd ["_law_layer_here", "_law_many"] (sp__law_laying K) := by
  refine F.ok sc__law_laying (fun vs H Q E h => ?_) (fun cdv A outer s H vs Q E hr h => ?_)
  · obtain ⟨v, rs, bk, n, rfl, _⟩ := h
    rfl
  · obtain ⟨v, rs, bk, n, rfl, ⟨p, rv, rfl, hp, pr, vs, rfl, hq, pd⟩, ⟨v8, vr⟩, vb, n0, n1, q⟩ := h
    have hl : vs.length = rs.length := Paired.length pd
    refine ⟨_, (pss_cons (ps_asg (pv 0) (pg_tup (by rfl) (pgs_cons (pg_name (i := 2) sc__law_laying.nd rfl (Or.inl rfl)) (pgs_cons (pg_name (i := 3) sc__law_laying.nd rfl (Or.inl rfl)) pgs_nil))))
      (pss_cons (ps_par (i := 4) (j := 5) (by rfl) sc__law_laying.nd rfl rfl (by decide) rfl rfl (pa_cons (pe_lst pa_nil) (pa_cons pe_int pa_nil)) (by rfl))
      (pss_cons (ps_while PassesOwn.never (pt_cmpR op_lt (pe_callB call_len_seq (by rfl) T.b_len (by decide +kernel) (pa_cons (pv 4) pa_nil)) (pv 1) (nomark _)) (C8.pss_cut (ps_if (pt_cmpR op_eq (pv 5) (pe_callB call_len_seq (by rfl) T.b_len (by decide +kernel) (pa_cons (pv 2) pa_nil)) (nomark _)) (pss_cons (ps_if (pt_cmpR op_isN (pv 3) pe_non (nomark _)) (pss_one (ps_ret (pe_op op_cat (pv 4) (pe_op op_rep (pe_lst (pa_cons pe_int pa_nil)) (pe_op op_sub (pv 1) (pe_callB call_len_seq (by rfl) T.b_len (by decide +kernel) (pa_cons (pv 4) pa_nil))))))) pss_nil)
      (pss_one (ps_set (i := 5) sc__law_laying.nd rfl (Or.inl rfl) (pv 3)))) pss_nil)
      (pss_cons (ps_for PassesOwn.never rfl (pi_range1 (by rfl) T.b_range (pa_cons (pe_ix ix_tup (pe_ix ix_tup (pv 2) (pv 5) (fun _ _ => rfl)) pe_int (fun _ _ => rfl)) pa_nil)) (pg_name (i := 6) sc__law_laying.nd rfl (Or.inl rfl))
        (pss_one (ps_expr (pe_bm PySem.F.plainAttrs_list PySem.F.slot_list_append PySem.F.type_list_append mt_append (pv 4) (pa_cons (pe_ix ix_tup (pe_ix ix_tup (pv 2) (pv 5) (fun _ _ => rfl)) pe_int (fun _ _ => rfl)) pa_nil)))))
      (pss_one (ps_set (i := 5) sc__law_laying.nd rfl (Or.inl rfl) (pe_op op_add (pv 5) pe_int))))))
      (pss_one (ps_ret (pe_slice sl_list (pv 4) po_none (po_some (pv 1)))))))), ?_⟩
    refine ⟨_, rfl, p, _, rfl, hp, rfl, _, _, rfl, _, _, rfl, rfl, ?_⟩
    refine ⟨Nat.zero_le _, fun F nF => ⟨_, _, rfl, ?_⟩⟩
    refine while_by (fun σ H' => ∃ (fs : List Int) (pl k : Nat) (x : Option V), σ = [some (.ref p), some (.int n), some (.ref pr), some (bkV bk), some (.ref F), some (.int pl), x] ∧ Same H H' ∧ H' F = some (.lst (fs.map V.int)) ∧
        pl ≤ rs.length ∧ (fs.length : Int) = tot (rs.take pl) + k * rnd rs bk ∧ (0 < k → ∃ b, bk = some b ∧ b ≤ (pl : Int)) ∧ (∀ i, i < fs.length → fs[i]? = some (shown rs bk (i : Nat))) ∧ fs.length ≤ 950)
      (fun σ H' => match H' F with | some (.lst xs) => n.toNat - xs.length | _ => 0) ?_ ?_ ?_
    · refine ⟨[], 0, 0, none, rfl, same_upd nF, upd_same, Nat.zero_le _, ?_, fun z => absurd z (by omega), fun i hi => absurd hi (by simp), by simp⟩
      rw [List.take_zero, tot_nil]
      simp
    · rintro σ H1 ⟨fs, pl, k, x, rfl, s1, hF, hpl, hlen, hk, hsh, hz⟩
      refine ⟨_, rfl, F, _, rfl, .inl (.inl (.inl hF)), _, rfl, _, _, rfl, rfl, _, rfl, ite2 (fun e => ?_) (fun e => ?_)⟩
      · have e1 : ((fs.map V.int).length : Int) < n := of_decide_eq_true e
        rw [List.length_map] at e1
        -- the place, brought back where it is behind the last row
        refine ⟨fun σ' H2 => H2 = H1 ∧ ∃ (pl k : Nat), σ' = [some (.ref p), some (.int n), some (.ref pr), some (bkV bk), some (.ref F), some (.int pl), x] ∧ pl < rs.length ∧ (fs.length : Int) = tot (rs.take pl) + k * rnd rs bk ∧ (0 < k → ∃ b, bk = some b ∧ b ≤ (pl : Int)), ?_, ?_⟩
        · refine ⟨_, rfl, _, rfl, pr, vs, rfl, .inr (Same.sqT s1 hq), rfl, _, rfl, ite2 (fun c => ?_) (fun c => ?_)⟩
          · have ep : (pl : Int) = (vs.length : Int) := V.int.inj (of_decide_eq_true c)
            have ep' : pl = rs.length := by omega
            refine ⟨_, rfl, rfl, _, rfl, ?_⟩
            cases bk with
            | none =>
              refine ite2 (fun _ => ?_) (fun c => absurd (decide_eq_true rfl) c)
              have k0 : k = 0 := by
                rcases Nat.eq_zero_or_pos k with z | z
                · exact z
                · obtain ⟨b, e, _⟩ := hk z
                  cases e
              subst k0
              rw [ep', List.take_length] at hlen
              have hlen' : (fs.length : Int) = tot rs := by
                rw [hlen]
                simp
              refine ⟨_, rfl, (by show 1 ≤ sizeLine; decide), fun p1 np1 => ?_⟩
              obtain ⟨s2, e2⟩ := new_at (.lst [.int 0]) np1
              generalize upd H1 p1 (.lst [.int 0]) = H2 at s2 e2 ⊢
              refine ⟨_, rfl, _, rfl, F, _, rfl, .inl (.inl (.inl (s2 _ _ hF))), _, _, rfl, rfl, p1, _, _, rfl, rfl, e2, by rw [List.length_map]; omega, by rw [List.length_map]; omega, ?_, fun p2 np2 => ?_⟩
              · rw [List.length_map]
                show 1 * (n - (fs.length : Int)).toNat ≤ sizeLine
                exact Nat.le_of_lt (small1000 (by omega))
              · obtain ⟨s3, e3⟩ := new_at (.lst (List.replicate (n - ((fs.map V.int).length : Int)).toNat [V.int 0]).flatten) np2
                generalize upd H2 p2 (.lst (List.replicate (n - ((fs.map V.int).length : Int)).toNat [V.int 0]).flatten) = H3 at s3 e3 ⊢
                have ef : (List.replicate (n - ((fs.map V.int).length : Int)).toNat [V.int 0]).flatten = (List.replicate (n.toNat - fs.length) (0 : Int)).map V.int := by
                  rw [List.length_map, List.flatten_replicate_singleton, List.map_replicate]
                  congr 1
                  omega
                refine ⟨F, p2, _, _, rfl, rfl, s3 _ _ (s2 _ _ hF), e3, ?_, fun p3 np3 => ?_⟩
                · rw [ef, List.length_map, List.length_map, List.length_replicate]
                  exact Nat.le_of_lt (small1000 (by omega))
                · have s13 : Same H1 H3 := s2.trans s3
                  refine q _ p3 ((s1.trans s13).trans (same_upd np3)) ((s1.trans s13).free np3) ?_
                  rw [upd_same, ef, ← List.map_append, ← lays_of (fs := fs ++ List.replicate (n.toNat - fs.length) (0 : Int)) (n := n.toNat), List.take_of_length_le]
                  · rw [List.length_map, List.length_append, List.length_replicate]
                    omega
                  · rw [List.length_append, List.length_replicate]
                    omega
                  · intro i hi
                    rw [List.length_append, List.length_replicate] at hi
                    by_cases c : i < fs.length
                    · rw [List.getElem?_append_left c]
                      exact hsh i c
                    · rw [List.getElem?_append_right (by omega), List.getElem?_replicate, if_pos (by omega), shown_end vr (by omega)]
            | some b =>
              have hb := vb b rfl
              refine ite2 (fun c => nomatch (of_decide_eq_true c)) (fun _ => ?_)
              refine ⟨_, rfl, rfl, b.toNat, k + 1, ?_, by omega, ?_, fun _ => ⟨b, rfl, by omega⟩⟩
              · show [some (V.ref p), some (.int n), some (.ref pr), some (bkV (some b)), some (.ref F), some (.int b), x] = _
                rw [Int.toNat_of_nonneg hb.1]
              · rw [hlen, ep', List.take_length, tot_split rs b.toNat]
                show tot (rs.take b.toNat) + tot (rs.drop b.toNat) + (k : Int) * tot (rs.drop b.toNat) = tot (rs.take b.toNat) + ((k + 1 : Nat) : Int) * tot (rs.drop b.toNat)
                rw [Int.natCast_add, Int.add_mul]
                omega
          · have ep : ¬ (pl : Int) = (vs.length : Int) := fun z => c (decide_eq_true (by rw [z]))
            exact ⟨rfl, pl, k, rfl, by omega, hlen, hk⟩
        · clear hpl hlen hk
          rintro σ' H2 ⟨rfl, pl, k, rfl, hpl, hlen, hk⟩
          obtain ⟨r, hr1⟩ : ∃ r, rs[pl]? = some r := ⟨_, List.getElem?_eq_getElem hpl⟩
          obtain ⟨w1, hw1, pw, rfl, hrow⟩ := Paired.at2 pd hr1
          have vr1 := vr r (List.mem_of_getElem? hr1)
          obtain ⟨_, _, v3, v4⟩ := vr1
          refine ⟨_, rfl, _, rfl, pr, vs, _, _, rfl, rfl, Same.sqT s1 hq, at_of (j := pl) rfl hw1, pw, _, 1, _, rfl, rfl, Same.sqT s1 hrow, rfl, r.2, rfl, by omega, by omega, ?_⟩
          refine for_range (lo := 0) (n := r.2.toNat) (fun j σ H' => ∃ x, σ = [some (.ref p), some (.int n), some (.ref pr), some (bkV bk), some (.ref F), some (.int pl), x] ∧ Same H H' ∧ H' F = some (.lst ((fs ++ List.replicate j r.1).map V.int))) ⟨x, rfl, s1, ?_⟩ ?_ ?_
          · rw [List.replicate_zero, List.append_nil]
            exact hF
          · rintro j σ H3 hj ⟨y, rfl, s3, h3⟩
            refine ⟨_, rfl, .inl ⟨rfl, _, .inl (.inl h3)⟩, _, rfl, _, rfl, pr, vs, _, _, rfl, rfl, Same.sqT s3 hq, at_of (j := pl) rfl hw1, pw, _, 0, _, rfl, rfl, Same.sqT s3 hrow, rfl, F, _, _, rfl, rfl, h3, ?_, ?_⟩
            · rw [List.length_map, List.length_append, List.length_replicate]
              exact small1000 (by omega)
            · refine ⟨_, rfl, fun b o e => ?_, ?_⟩
              · rw [upd_ne (ne_of_none e nF)]
                exact s3 _ _ e
              · rw [upd_same, List.replicate_succ', ← List.append_assoc, List.map_append (l₂ := [r.1])]
                rfl
          · rintro σ H3 ⟨y, rfl, s3, h3⟩
            have hln : (fs ++ List.replicate r.2.toNat r.1).length = fs.length + r.2.toNat := by
              rw [List.length_append, List.length_replicate]
            refine ⟨_, rfl, _, _, rfl, rfl, ?_, ?_⟩
            · refine ⟨fs ++ List.replicate r.2.toNat r.1, pl + 1, k, y, rfl, s3, h3, hpl, ?_, fun z => ?_, fun i hi => ?_, ?_⟩
              · have et : tot (rs.take (pl + 1)) = tot (rs.take pl) + r.2 := by
                  rw [List.take_add_one, hr1, tot_append]
                  show _ + tot [r] = _
                  rw [tot_cons, tot_nil]
                  omega
                rw [hln, et]
                omega
              · obtain ⟨b, e, hb⟩ := hk z
                exact ⟨b, e, by omega⟩
              · rw [hln] at hi
                by_cases c : i < fs.length
                · rw [List.getElem?_append_left c]
                  exact hsh i c
                · rw [List.getElem?_append_right (by omega), List.getElem?_replicate, if_pos (by omega)]
                  have := shown_at (bk := bk) vr vb (p := pl) (k := k) (j := (i : Int) - fs.length) (c := rnd rs bk) hr1 (by omega) (by omega) (fun b e => by rw [e]; rfl) hk
                  rw [← this]
                  congr 2
                  omega
              · rw [hln]
                omega
            · show (match H3 F with | some (.lst xs) => n.toNat - xs.length | _ => 0) < (match H2 F with | some (.lst xs) => n.toNat - xs.length | _ => 0)
              rw [h3, hF]
              dsimp only
              rw [List.length_map, List.length_map, hln]
              exact Nat.sub_lt_sub_left (show fs.length < n.toNat by omega) (show fs.length < fs.length + r.2.toNat by omega)
      · have e1 : ¬ ((fs.map V.int).length : Int) < n := fun z => e (decide_eq_true z)
        rw [List.length_map] at e1
        refine ⟨_, rfl, _, rfl, n, rfl, F, _, rfl, .inl (.inl hF), fun p4 np4 => ?_⟩
        refine q _ p4 (s1.trans (same_upd np4)) (s1.free np4) ?_
        obtain ⟨m, rfl⟩ : ∃ m : Nat, n = (m : Int) := ⟨n.toNat, by omega⟩
        rw [upd_same, cut_to, lays_of (by omega) hsh]
        rfl
    · rintro σ H1 Q1 Q2 hm ⟨v1, i1, p1, ys, i2, i3, v2, i4, i, j, i5, i6, k, i7, i8⟩
      exact ⟨v1, i1, p1, ys, i2, i3, v2, i4, i, j, i5, i6, k, i7, hm _ _ i8⟩
end

/-! ### the law -/
theorem cut_opt {rs : List RW} {bk : Option Int} (vb : VBack rs bk) (xs : List V) : cutV xs none bk = match bk with | none => xs | some b => xs.take b.toNat := by
  cases bk with
  | none => exact cut_all xs
  | some b =>
    have hb := vb b rfl
    obtain ⟨k, rfl⟩ : ∃ k : Nat, b = (k : Int) := ⟨b.toNat, by omega⟩
    exact cut_to xs k
def ahd (rs : List RW) : Option Int → List RW
  | none => rs
  | some b => rs.take b.toNat
def siz (rs : List RW) : Option Int → Int
  | none => 1
  | some b => tot (rs.drop b.toNat)
theorem siz_pos {rs : List RW} {bk : Option Int} (v : VRows rs) (vb : VBack rs bk) : 1 ≤ siz rs bk ∧ siz rs bk ≤ 192 := by
  obtain ⟨v8, vr⟩ := v
  cases bk with
  | none => exact ⟨by show (1 : Int) ≤ 1; omega, by show (1 : Int) ≤ 192; omega⟩
  | some b =>
    have hb := vb b rfl
    have := tot_nonneg (rs := rs.drop b.toNat) fun q hq => vr q (List.mem_of_mem_drop hq)
    rw [List.length_drop] at this
    obtain ⟨t1, t2⟩ := this
    constructor
    · show 1 ≤ tot (rs.drop b.toNat)
      omega
    · show tot (rs.drop b.toNat) ≤ 192
      omega
theorem rg_mem {a b : Int} {i : Nat} {x : V} (h : (rgV a b)[i]? = some x) : ∃ m : Int, x = .int m ∧ a ≤ m ∧ m < b := by
  unfold rgV at h
  rw [List.getElem?_map] at h
  cases e : (List.range (b - a).toNat)[i]? with
  | none =>
    rw [e] at h
    cases h
  | some j =>
    rw [e] at h
    have hj := List.mem_range.mp (List.mem_of_getElem? e)
    exact ⟨a + (j : Nat), (Option.some.inj h).symm, by omega, by omega⟩
section
variable {P : Program} {w : World} {K : PySem.W.Frag} {mg : Str → Option Value} {base : Heap}
def sp_law (K : PySem.W.Frag) : Sp := fun vs H Q _ => ∃ (a : Addr) (ns : List Int), vs = [.ref a] ∧ SqL K H a (ns.map V.int) ∧ ns.length ≤ 63 ∧ ∀ H', Q (.bl true) H'
theorem ok_law {f : Addr} {fd : FuncData} (F : Fun K "law" "law" s_law f fd) (T : Txt K mg) (D__law_state : Cl P w K mg base 2 "_law_state" ["_law_script", "_law_k"] (sp__law_state K)) (D__law_layer : Cl P w K mg base 3 "_law_layer" ["_law_state_here"] (sp__law_layer K)) (D__law_laying : Cl P w K mg base 1 "_law_laying" ["_law_layer_here", "_law_many"] (sp__law_laying K)) (D__law_take : Cl P w K mg base 1 "_law_take" ["_law_state_here", "_law_many"] (sp__law_take K)) (D__law_same : Cl P w K mg base 1 "_law_same" ["_law_found", "_law_due"] (sp__law_same K)) (D_drawing_at : Cl P w K mg base 5 "drawing_at" ["layer", "moment"] (sp_drawing_at K)) : FnOk P w K mg base CX0 6 f fd ["_law_script"] (sp_law K) := by
  refine F.ok sc_law (fun vs H Q E h => ?_) (fun cdv A outer s H vs Q E hr h => ?_)
  · obtain ⟨a, ns, rfl, _⟩ := h
    rfl
  · obtain ⟨a, ns, rfl, hS, hlen, q⟩ := h
    refine ⟨_, (pss_cons (ps_for PassesOwn.never rfl (pi_range1 (by rfl) T.b_range (pa_cons (pe_callB (call_max2 rfl) (by rfl) T.b_max (by decide +kernel) (pa_cons pe_int (pa_cons (pe_callB (call_min2 rfl) (by rfl) T.b_min (by decide +kernel) (pa_cons (pe_callB call_len_seq (by rfl) T.b_len (by decide +kernel) (pa_cons (pv 0) pa_nil)) (pa_cons pe_int pa_nil))) pa_nil))) pa_nil)) (pg_name (i := 1) sc_law.nd rfl (Or.inl rfl))
        (pss_cons (ps_set (i := 2) sc_law.nd rfl (Or.inl rfl) (pe_own D__law_state (hr.mono (by decide)) (by rfl) (pa_cons (pv 0) (pa_cons (pv 1) pa_nil))))
      (pss_cons (ps_set (i := 3) sc_law.nd rfl (Or.inl rfl) (pe_own D__law_layer (hr.mono (by decide)) (by rfl) (pa_cons (pv 2) pa_nil)))
      (pss_cons (ps_asg (pv 3) (pg_tup (by rfl) (pgs_cons (pg_name (i := 4) sc_law.nd rfl (Or.inl rfl)) (pgs_cons (pg_name (i := 5) sc_law.nd rfl (Or.inl rfl)) pgs_nil))))
      (pss_cons (ps_par (i := 6) (j := 7) (by rfl) sc_law.nd rfl rfl (by decide) rfl rfl (pa_cons (pe_callB (cr_sum rfl) (by rfl) T.b_sum (by decide +kernel) (pa_cons (pe_lc (own := [("_law_row_here", 13)]) (g := (gName 13)) (tt := tYes) (by rfl) sc_law.nd (pi_tup (pv 4)) (blkOk_by (own := [("_law_row_here", 13)]) (N := ["_law_script", "_law_k", "_law_state_here", "_law_layer_here", "_law_rows", "_law_back", "_law_whole", "_law_ahead", "_law_size", "_law_long", "_law_start", "_law_moment", "_law_near", "_law_row_here"]) (sc := defScope s_law) (by decide +kernel)) (fun _ _ _ _ _ => (pg_name (i := 13) sc_law.nd rfl (Or.inl rfl))) (fun _ _ _ _ _ => pts_nil) (fun _ _ _ _ _ => (pe_ix (r := rIxT K) ix_tup (pv 13) pe_int (fun _ _ => rfl)))) pa_nil)) (pa_cons (pe_callB (cr_sum rfl) (by rfl) T.b_sum (by decide +kernel) (pa_cons (pe_lc (own := [("_law_row_here", 13)]) (g := (gName 13)) (tt := tYes) (by rfl) sc_law.nd (pi_tup (pe_slice sl_tupA (pv 4) po_none (po_opt (pv 5)))) (blkOk_by (own := [("_law_row_here", 13)]) (N := ["_law_script", "_law_k", "_law_state_here", "_law_layer_here", "_law_rows", "_law_back", "_law_whole", "_law_ahead", "_law_size", "_law_long", "_law_start", "_law_moment", "_law_near", "_law_row_here"]) (sc := defScope s_law) (by decide +kernel)) (fun _ _ _ _ _ => (pg_name (i := 13) sc_law.nd rfl (Or.inl rfl))) (fun _ _ _ _ _ => pts_nil) (fun _ _ _ _ _ => (pe_ix (r := rIxT K) ix_tup (pv 13) pe_int (fun _ _ => rfl)))) pa_nil)) pa_nil)) (by rfl))
      (C8.pss_cut (ps_set (i := 8) sc_law.nd rfl (Or.inl rfl) (pe_ifExp (pt_cmpR op_isN (pv 5) pe_non (nomark _)) pe_int (pe_op op_sub (pv 6) (pv 7))))
      (pss_cons (ps_set (i := 9) sc_law.nd rfl (Or.inl rfl) (pe_own D__law_laying (hr.mono (by decide)) (by rfl) (pa_cons (pv 3) (pa_cons (pe_op op_add (pe_op op_add (pv 6) (pe_op op_mul pe_int (pv 8))) pe_int) pa_nil))))
      (pss_cons (ps_set (i := 10) sc_law.nd rfl (Or.inl rfl) (pe_own D__law_take (hr.mono (by decide)) (by rfl) (pa_cons (pv 2) (pa_cons (pe_callB call_len_seq (by rfl) T.b_len (by decide +kernel) (pa_cons (pv 9) pa_nil)) pa_nil))))
      (pss_cons (ps_for PassesOwn.never rfl (pi_list (pe_op op_cat (pe_listRg (by rfl) (by rfl) T.b_list (prg_1 (by rfl) T.b_range (pe_callB (call_min2 rfl) (by rfl) T.b_min (by decide +kernel) (pa_cons pe_int (pa_cons (pe_callB call_len_seq (by rfl) T.b_len (by decide +kernel) (pa_cons (pv 9) pa_nil)) pa_nil))))) (pe_listRg (by rfl) (by rfl) T.b_list (prg_2 (by rfl) T.b_range (pv 10) (pe_callB (call_min2 rfl) (by rfl) T.b_min (by decide +kernel) (pa_cons (pe_op op_add (pv 10) pe_int) (pa_cons (pe_callB call_len_seq (by rfl) T.b_len (by decide +kernel) (pa_cons (pv 9) pa_nil)) pa_nil))))))) (pg_name (i := 11) sc_law.nd rfl (Or.inl rfl))
        (pss_one (ps_if (pt_not (pt_val (pe_own D__law_same (hr.mono (by decide)) (by rfl) (pa_cons (pe_own D_drawing_at (hr.mono (by decide)) (by rfl) (pa_cons (pv 3) (pa_cons (pv 11) pa_nil))) (pa_cons (pe_ix ix_list (pv 9) (pv 11) (fun _ _ => rfl)) pa_nil))))) (pss_one (ps_ret pe_bl)) pss_nil)))
      (pss_one (ps_for PassesOwn.never rfl (pi_list (pe_lst (pa_cons (pe_op op_pow pe_int pe_int) (pa_cons (pe_op op_sub (pe_op op_pow pe_int pe_int) (pe_own D__law_take (hr.mono (by decide)) (by rfl) (pa_cons (pv 2) (pa_cons pe_int pa_nil)))) (pa_cons (pe_own D__law_take (hr.mono (by decide)) (by rfl) (pa_cons (pv 2) (pa_cons (pe_op op_pow pe_int pe_int) pa_nil))) pa_nil))))) (pg_name (i := 11) sc_law.nd rfl (Or.inl rfl))
        (C8.pss_cut (ps_set (i := 12) sc_law.nd rfl (Or.inl rfl) (pe_ifExp (pt_cmpR op_lt (pv 11) (pv 6) (nomark _)) (pv 11) (pe_op op_add (pv 6) (pe_op op_modN (pe_op op_sub (pv 11) (pv 6)) (pv 8)))))
      (pss_one (ps_if (pt_not (pt_val (pe_own D__law_same (hr.mono (by decide)) (by rfl) (pa_cons (pe_own D_drawing_at (hr.mono (by decide)) (by rfl) (pa_cons (pv 3) (pa_cons (pv 11) pa_nil))) (pa_cons (pe_ix ix_list (pv 9) (pv 12) (fun _ _ => rfl)) pa_nil))))) (pss_one (ps_ret pe_bl)) pss_nil))))))))))))))
      (pss_one (ps_ret pe_bl))), ?_⟩
    obtain ⟨c, c0, c1, ec⟩ : ∃ c : Int, 0 ≤ c ∧ c ≤ 5 ∧ (if (if (5 : Int) < ((ns.map V.int).length : Int) then (5 : Int) else ((ns.map V.int).length : Int)) > 1 then (if (5 : Int) < ((ns.map V.int).length : Int) then (5 : Int) else ((ns.map V.int).length : Int)) else (1 : Int)) = c := by
      refine ⟨_, ?_, ?_, rfl⟩ <;> (repeat' split) <;> omega
    refine ⟨_, rfl, a, _, rfl, .inl hS, _, _, rfl, _, _, rfl, c, ?_, by omega, by omega, ?_⟩
    · rw [ec]
    refine for_range (lo := 0) (n := c.toNat) (fun i σ H' => Same H H' ∧ ∃ y1 y2 y3 y4 y5 y6 y7 y8 y9 y10 y11 y12 y13, σ = [some (.ref a), y1, y2, y3, y4, y5, y6, y7, y8, y9, y10, y11, y12, y13])
      ⟨Same.refl _, none, none, none, none, none, none, none, none, none, none, none, none, none, rfl⟩ ?_ (fun _ H' _ => q H')
    rintro i σ H0 hi ⟨s0, y1, y2, y3, y4, y5, y6, y7, y8, y9, y10, y11, y12, y13, rfl⟩
    -- the state, the layer
    refine ⟨_, rfl, _, rfl, a, ns, _, rfl, s0.seq hS, by omega, fun H1 st s1 n1 hs1 => ?_⟩
    refine ⟨_, rfl, st, rfl, hs1, fun v rs bk H2 g2 hL vR vb => ?_⟩
    obtain ⟨p, rv, rfl, hp, pr, vs, rfl, hq, pd⟩ := id hL
    obtain ⟨v8, vr⟩ := id vR
    have hs2 := g2.2 hs1
    have hl : vs.length = rs.length := Paired.length pd
    have tb := tot_nonneg vr
    refine ⟨_, rfl, p, _, rfl, hp, rfl, _, _, rfl, _, _, rfl, rfl, ?_⟩
    -- whole
    refine ⟨_, rfl, pr, rfl, ⟨_, hq⟩, fun D hD => ?_⟩
    refine lcmap_tup ((rs.map (·.2)).map V.int) (by simp [hl]) (by omega) hq hD (fun i x y H3 R Z hx hy s3 hR => ?_) (fun H3 s3 hD3 => ?_)
    · obtain ⟨r, hr1, pw, rfl, hrow⟩ := Paired.at pd hx
      have ey : y = .int r.2 := by
        rw [List.map_map, List.getElem?_map, hr1] at hy
        exact (Option.some.inj hy).symm
      subst ey
      exact ⟨rfl, yes_ok ⟨_, rfl, pw, _, 1, _, rfl, rfl, Same.sqT s3 hrow, rfl, hR _ (Same.refl _)⟩⟩
    refine ⟨D, _, rfl, .inl (.inl hD3), ?_⟩
    -- ahead
    have hq3 := Same.sqT s3 hq
    have pd3 : Paired (RowAt K H3) vs rs := Paired.mono pd fun _ _ => RowAt.keep (Same.tk s3)
    refine ⟨_, rfl, _, rfl, bk, rfl, sl_rows (ahd rs bk) hq3 ?_ (fun H4 v4 s4 h4 => ?_)⟩
    · rw [cut_opt vb]
      cases bk with
      | none => exact pd3
      | some b => exact Paired.takeP b.toNat pd3
    obtain ⟨p4, vs4, rfl, hq4, pd4⟩ := h4
    have hl4 : vs4.length = (ahd rs bk).length := Paired.length pd4
    have ha4 : (ahd rs bk).length ≤ rs.length := by
      cases bk with
      | none => exact Nat.le_refl _
      | some b =>
        show (rs.take b.toNat).length ≤ _
        rw [List.length_take]
        omega
    refine ⟨p4, rfl, ⟨_, hq4⟩, fun D5 hD5 => ?_⟩
    refine lcmap_tup (((ahd rs bk).map (·.2)).map V.int) (by simp [hl4]) (by omega) hq4 hD5 (fun i x y H5 R Z hx hy s5 hR => ?_) (fun H5 s5 hD5' => ?_)
    · obtain ⟨r, hr1, pw, rfl, hrow⟩ := Paired.at pd4 hx
      have ey : y = .int r.2 := by
        rw [List.map_map, List.getElem?_map, hr1] at hy
        exact (Option.some.inj hy).symm
      subst ey
      exact ⟨rfl, yes_ok ⟨_, rfl, pw, _, 1, _, rfl, rfl, Same.sqT s5 hrow, rfl, hR _ (Same.refl _)⟩⟩
    refine ⟨D5, _, rfl, .inl (.inl hD5'), _, _, rfl, ?_⟩
    have s25 : Same H2 H5 := (s3.trans s4).trans s5
    have sp' := siz_pos vR vb
    -- size
    refine ⟨fun σ' H' => H5 = H' ∧ σ' = [some (.ref a), some (.int (0 + (i : Int))), some (.ref st), some (.ref p), some (.ref pr), some (bkV bk), some (.int (tot rs)), some (.int (tot (ahd rs bk))), some (.int (siz rs bk)), y9, y10, y11, y12, y13], ?_, ?_⟩
    · refine ⟨_, rfl, rfl, _, rfl, ?_⟩
      cases bk with
      | none => exact ite2 (fun _ => ⟨rfl, rfl⟩) (fun e => absurd (decide_eq_true rfl) e)
      | some b =>
        refine ite2 (fun e => nomatch (of_decide_eq_true e)) (fun _ => ?_)
        refine ⟨_, rfl, _, rfl, _, _, rfl, rfl, rfl, ?_⟩
        have e : tot rs - tot (rs.take b.toNat) = tot (rs.drop b.toNat) := by
          have := tot_split rs b.toNat
          omega
        show [some (V.ref a), some (.int (0 + (i : Int))), some (.ref st), some (.ref p), some (.ref pr), some (bkV (some b)), some (.int (tot rs)), some (.int (tot (rs.take b.toNat))), some (.int (tot rs - tot (rs.take b.toNat))), y9, y10, y11, y12, y13] = _
        rw [e]
        rfl
    rintro σ' H' ⟨rfl, rfl⟩
    clear hD5' s5 hD5 pd4 hq4 hl4 hD3 hD
    -- long
    have n6 : 0 ≤ tot rs + 2 * siz rs bk + 2 ∧ tot rs + 2 * siz rs bk + 2 ≤ 900 := by omega
    refine ⟨_, rfl, _, rfl, _, rfl, _, _, rfl, rfl, .inl ⟨by decide, by decide⟩, _, _, rfl, rfl, _, _, rfl, rfl, .ref p, rs, bk, _, rfl, hL.keep (Same.tk s25), vR, vb, n6.1, n6.2, fun H6 L s6 nL hL6 => ?_⟩
    generalize hN : (tot rs + 2 * siz rs bk + 2).toNat = N at hL6
    have hN' : (N : Int) = tot rs + 2 * siz rs bk + 2 := by omega
    have s26 : Same H2 H6 := s25.trans s6
    have hs6 : IsSt H6 st := (gr_same (st := st) s26).2 hs2
    have nLst : L ≠ st := by
      obtain ⟨u, z, hz, _⟩ := (gr_same (st := st) s25).2 hs2
      exact fun e => by rw [e, hz] at nL; cases nL
    -- start
    have gst : ∀ H', Gr st H6 H' → LayAt K H' (.ref p) rs bk ∧ SqL K H' L (lays rs bk N) := fun H' g => ⟨(hL.keep (Same.tk s26)).keep (g.tk hs6), .inl (.inl (g.1 _ _ nLst hL6))⟩
    refine ⟨_, rfl, _, rfl, L, _, rfl, .inl (.inl (.inl hL6)), st, _, rfl, hs6, by rw [lays_len]; omega, by rw [lays_len]; omega, fun r7 H7 a7 b7 g7 => ?_⟩
    rw [lays_len] at b7
    have one : ∀ H', Gr st H6 H' → ∀ m : Int, 0 ≤ m → m < N → atI (lays rs bk N) m = some (.int (shown rs bk m)) := fun H' g m h0 h1 => by
      obtain ⟨j, rfl⟩ : ∃ j : Nat, m = (j : Int) := ⟨m.toNat, by omega⟩
      exact atI_nat (lays_at (by omega))
    obtain ⟨c1, c10, c11, ec1⟩ : ∃ c : Int, 0 ≤ c ∧ c ≤ N ∧ (if ((lays rs bk N).length : Int) < 12 then ((lays rs bk N).length : Int) else 12) = c := by
      rw [lays_len]
      refine ⟨_, ?_, ?_, rfl⟩ <;> split <;> omega
    obtain ⟨c2, c20, c21, ec2⟩ : ∃ c : Int, 0 ≤ c ∧ c ≤ N ∧ (if ((lays rs bk N).length : Int) < r7 + 30 then ((lays rs bk N).length : Int) else r7 + 30) = c := by
      rw [lays_len]
      refine ⟨_, ?_, ?_, rfl⟩ <;> split <;> omega
    refine ⟨_, rfl, L, _, rfl, .inl (gst _ g7).2, _, _, rfl, _, rfl, ?_⟩
    rw [ec1]
    refine ⟨RgOk.of_le (by omega) (by omega) (by omega) (by omega), fun p8 np8 => ?_⟩
    obtain ⟨s8, e8⟩ := new_at (.lst (rgV 0 c1)) np8
    generalize upd H7 p8 (.lst (rgV 0 c1)) = H8 at s8 e8 ⊢
    have g8 := g7.trans (gr_same (st := st) s8)
    refine ⟨_, rfl, _, rfl, _, _, rfl, rfl, _, rfl, L, _, rfl, .inl (gst _ g8).2, _, _, rfl, _, _, rfl, rfl, ?_⟩
    rw [ec2]
    refine ⟨RgOk.of_le (by omega) (by omega) (by omega) (by omega), fun p9 np9 => ?_⟩
    obtain ⟨s9, e9⟩ := new_at (.lst (rgV r7 c2)) np9
    generalize upd H8 p9 (.lst (rgV r7 c2)) = H9 at s9 e9 ⊢
    have g9 := g8.trans (gr_same (st := st) s9)
    refine ⟨p8, p9, _, _, rfl, rfl, s9 _ _ e8, e9, ?_, fun p10 np10 => ?_⟩
    · rw [rgV_length, rgV_length]
      exact Nat.le_of_lt (Nat.lt_of_le_of_lt (show _ ≤ 2000 by omega) (by decide))
    obtain ⟨s10, e10⟩ := new_at (.lst (rgV 0 c1 ++ rgV r7 c2)) np10
    generalize upd H9 p10 (.lst (rgV 0 c1 ++ rgV r7 c2)) = H10 at s10 e10 ⊢
    have g10 := g9.trans (gr_same (st := st) s10)
    refine ⟨p10, rfl, ⟨_, .inl (.inl e10)⟩, for_list (K := K) (a := p10) (xs := rgV 0 c1 ++ rgV r7 c2) (fun j σ H' => Same H10 H' ∧ ∃ y11, σ = [some (.ref a), some (.int (0 + (i : Int))), some (.ref st), some (.ref p), some (.ref pr), some (bkV bk), some (.int (tot rs)), some (.int (tot (ahd rs bk))), some (.int (siz rs bk)), some (.ref L), some (.int r7), y11, y12, y13])
      ⟨Same.refl _, _, rfl⟩ (fun j σ H' _ z => .inl (.inl (z.1 _ _ e10))) ?_ ?_⟩
    · rintro j x σ H11 hx ⟨s11, z11, rfl⟩
      obtain ⟨m, rfl, m0, m1⟩ : ∃ m : Int, x = .int m ∧ 0 ≤ m ∧ m < N := by
        by_cases hj : j < (rgV 0 c1).length
        · rw [List.getElem?_append_left hj] at hx
          obtain ⟨m, e, h0, h1⟩ := rg_mem hx
          exact ⟨m, e, h0, by omega⟩
        · rw [List.getElem?_append_right (by omega)] at hx
          obtain ⟨m, e, h0, h1⟩ := rg_mem hx
          exact ⟨m, e, by omega, by omega⟩
      have g11 := g10.trans (gr_same (st := st) s11)
      refine ⟨_, rfl, _, rfl, .ref p, rs, bk, m, rfl, (gst _ g11).1, vR, vb, m0, by omega, fun H12 s12 => ?_⟩
      have g12 := g11.trans (gr_same (st := st) s12)
      refine ⟨_, rfl, _, rfl, L, _, m, _, rfl, rfl, (gst _ g12).2, one _ g12 m m0 m1, _, _, _, _, _, _, rfl, .int _, .int _, fun H13 s13 => ⟨_, rfl, iteNS rfl ⟨(s11.trans s12).trans s13, _, rfl⟩⟩⟩
    · rintro σ H11 ⟨s11, z11, rfl⟩
      have g11 := g10.trans (gr_same (st := st) s11)
      -- great moments
      refine ⟨10, 9, rfl, rfl, ⟨by decide, by decide, by decide⟩, 10, 9, rfl, rfl, ⟨by decide, by decide, by decide⟩, _, rfl, st, 40, rfl, g11.2 hs6, by decide, by decide, fun r12 H12 a12 b12 g12 => ?_⟩
      refine ⟨_, _, rfl, rfl, _, rfl, 10, 9, rfl, rfl, ⟨by decide, by decide, by decide⟩, st, _, rfl, (g11.trans g12).2 hs6, by decide, by decide, fun r13 H13 a13 b13 g13 => ?_⟩
      have g13' := (g11.trans g12).trans g13
      refine ⟨(by show 3 ≤ sizeLine; decide), fun p14 np14 => ?_⟩
      have e109 : (10 : Int) ^ (9 : Int).toNat = 1000000000 := by decide
      rw [e109] at b13
      have g14 := g13'
      refine ⟨p14, rfl, ⟨_, .inl (.inl upd_same)⟩, for_list (K := K) (a := p14) (xs := [.int (10 ^ (9 : Int).toNat), .int (10 ^ (9 : Int).toNat - r12), .int r13]) (fun j σ H' => Same H13 H' ∧ H' p14 = some (.lst [.int (10 ^ (9 : Int).toNat), .int (10 ^ (9 : Int).toNat - r12), .int r13]) ∧ ∃ y11 y12, σ = [some (.ref a), some (.int (0 + (i : Int))), some (.ref st), some (.ref p), some (.ref pr), some (bkV bk), some (.int (tot rs)), some (.int (tot (ahd rs bk))), some (.int (siz rs bk)), some (.ref L), some (.int r7), y11, y12, y13])
        ⟨same_upd np14, upd_same, _, _, rfl⟩ (fun j σ H' _ z => .inl (.inl z.2.1)) ?_ ?_⟩
      · rintro j x σ H15 hx ⟨s15, e15, z11', z12, rfl⟩
        rw [e109] at hx
        obtain ⟨m, rfl, m0, m1⟩ : ∃ m : Int, x = .int m ∧ 0 ≤ m ∧ m ≤ 1000000000 := by
          have hm := List.mem_of_getElem? hx
          rcases List.mem_cons.mp hm with e | hm
          · exact ⟨_, e, by omega, by omega⟩
          rcases List.mem_cons.mp hm with e | hm
          · exact ⟨_, e, by omega, by omega⟩
          · exact ⟨_, List.mem_singleton.mp hm, by omega, by omega⟩
        have g15 := g14.trans (gr_same (st := st) s15)
        refine ⟨fun σ' H' => H15 = H' ∧ ∃ nr : Int, σ' = [some (.ref a), some (.int (0 + (i : Int))), some (.ref st), some (.ref p), some (.ref pr), some (bkV bk), some (.int (tot rs)), some (.int (tot (ahd rs bk))), some (.int (siz rs bk)), some (.ref L), some (.int r7), some (.int m), some (.int nr), y13] ∧ 0 ≤ nr ∧ nr < N ∧ shown rs bk nr = shown rs bk m, ?_, ?_⟩
        · refine ⟨_, rfl, _, rfl, m, tot rs, rfl, rfl, _, rfl, ite2 (fun e => ?_) (fun e => ?_)⟩
          · have e1 : m < tot rs := of_decide_eq_true e
            exact ⟨_, rfl, rfl, m, rfl, m0, by omega, rfl⟩
          · have e1 : ¬ m < tot rs := fun z => e (decide_eq_true z)
            refine ⟨_, rfl, _, rfl, _, rfl, m, tot rs, rfl, rfl, _, rfl, _, _, rfl, rfl, (by show siz rs bk ≠ 0; omega), _, _, rfl, rfl, rfl, tot rs + (m - tot rs).fmod (siz rs bk), rfl, ?_, ?_, ?_⟩
            · have := (fm (x := m - tot rs) (m := siz rs bk) (by omega)).1
              omega
            · have := (fm (x := m - tot rs) (m := siz rs bk) (by omega)).2
              omega
            · rw [Int.fmod_eq_emod_of_nonneg _ (by omega)]
              refine shown_far vr vb ?_ (by omega)
              cases bk <;> rfl
        · rintro σ' H' ⟨rfl, nr, rfl, nr0, nr1, enr⟩
          refine ⟨_, rfl, _, rfl, .ref p, rs, bk, m, rfl, (gst _ g15).1, vR, vb, m0, m1, fun H16 s16 => ?_⟩
          have g16 := g15.trans (gr_same (st := st) s16)
          refine ⟨_, rfl, _, rfl, L, _, nr, _, rfl, rfl, (gst _ g16).2, one _ g16 nr nr0 nr1, _, _, _, _, _, _, rfl, .int _, .int _, fun H17 s17 => ⟨_, rfl, iteNS (by rw [enr]) ⟨(s15.trans s16).trans s17, s17 _ _ (s16 _ _ e15), _, _, rfl⟩⟩⟩
      · rintro σ H15 ⟨s15, _, z11', z12, rfl⟩
        have g15 := g14.trans (gr_same (st := st) s15)
        exact ⟨((g2.trans (gr_same s26)).trans g15).same (s0.trans s1) (s0.free n1), _, _, _, _, _, _, _, _, _, _, _, _, _, rfl⟩
end

theorem all_mk {l : PySem.W.OpenLaw} {w : World} {K : PySem.W.Frag} {h : Heap} {mg : Str → Option Value} {fa : Addr} (X : K.In h) (G : h.Ns mainGlobals mg) (hfa : mg "law" = some (.ref fa))
    {f0 f1 f2 f3 f4 f5 f6 f7 f8 f9 f10 f11 f12 f13 f14 f15 f16 f17 : Addr} {od0 an0 od1 an1 od2 an2 od3 an3 od4 an4 od5 an5 od6 an6 od7 an7 od8 an8 od9 an9 od10 an10 od11 an11 od12 an12 od13 an13 od14 an14 od15 an15 od16 an16 od17 an17 : Option Addr} {sl0 sl1 sl2 sl3 sl4 sl5 sl6 sl7 sl8 sl9 sl10 sl11 sl12 sl13 sl14 sl15 sl16 sl17 : Array (Option Value)} {oc0 kV0 dc0 pm0 cd0 ct0 oc1 kV1 dc1 pm1 cd1 ct1 oc2 kV2 dc2 pm2 cd2 ct2 oc3 kV3 dc3 pm3 cd3 ct3 oc4 kV4 dc4 pm4 cd4 ct4 oc5 kV5 dc5 pm5 cd5 ct5 oc6 kV6 dc6 pm6 cd6 ct6 oc7 kV7 dc7 pm7 cd7 ct7 oc8 kV8 dc8 pm8 cd8 ct8 oc9 kV9 dc9 pm9 cd9 ct9 oc10 kV10 dc10 pm10 cd10 ct10 oc11 kV11 dc11 pm11 cd11 ct11 oc12 kV12 dc12 pm12 cd12 ct12 oc13 kV13 dc13 pm13 cd13 ct13 oc14 kV14 dc14 pm14 cd14 ct14 oc15 kV15 dc15 pm15 cd15 ct15 oc16 kV16 dc16 pm16 cd16 ct16 oc17 kV17 dc17 pm17 cd17 ct17 : Value} {t0 t1 t2 t3 : Tok}
    (a0 : PySem.W.nsIn K mainGlobals "is_whole" = some (some (.ref f0))) (l0 : K.lookup f0 = some ⟨oc0, od0, .func (PySem.W.fnOf "is_whole" "is_whole" (defArgs s_is_whole) (defBody s_is_whole) (defScope s_is_whole) .none kV0 dc0 pm0 an0 cd0 ct0), sl0⟩) (c0 : PySem.W.codeIn K cd0 "is_whole" = true) (k0 : PySem.W.keepIn K (.ref f0) = true)
    (a1 : PySem.W.nsIn K mainGlobals "need_moment" = some (some (.ref f1))) (l1 : K.lookup f1 = some ⟨oc1, od1, .func (PySem.W.fnOf "need_moment" "need_moment" (defArgs s_need_moment) (defBody s_need_moment) (defScope s_need_moment) .none kV1 dc1 pm1 an1 cd1 ct1), sl1⟩) (c1 : PySem.W.codeIn K cd1 "need_moment" = true) (k1 : PySem.W.keepIn K (.ref f1) = true)
    (a2 : PySem.W.nsIn K mainGlobals "is_tuple" = some (some (.ref f2))) (l2 : K.lookup f2 = some ⟨oc2, od2, .func (PySem.W.fnOf "is_tuple" "is_tuple" (defArgs s_is_tuple) (defBody s_is_tuple) (defScope s_is_tuple) .none kV2 dc2 pm2 an2 cd2 ct2), sl2⟩) (c2 : PySem.W.codeIn K cd2 "is_tuple" = true) (k2 : PySem.W.keepIn K (.ref f2) = true)
    (a3 : PySem.W.nsIn K mainGlobals "is_row" = some (some (.ref f3))) (l3 : K.lookup f3 = some ⟨oc3, od3, .func (PySem.W.fnOf "is_row" "is_row" (defArgs s_is_row) (defBody s_is_row) (defScope s_is_row) .none kV3 dc3 pm3 an3 cd3 ct3), sl3⟩) (c3 : PySem.W.codeIn K cd3 "is_row" = true) (k3 : PySem.W.keepIn K (.ref f3) = true)
    (a4 : PySem.W.nsIn K mainGlobals "is_layer" = some (some (.ref f4))) (l4 : K.lookup f4 = some ⟨oc4, od4, .func (PySem.W.fnOf "is_layer" "is_layer" (defArgs s_is_layer) (defBody s_is_layer) (defScope s_is_layer) .none kV4 dc4 pm4 an4 cd4 ct4), sl4⟩) (c4 : PySem.W.codeIn K cd4 "is_layer" = true) (k4 : PySem.W.keepIn K (.ref f4) = true)
    (a5 : PySem.W.nsIn K mainGlobals "need_layer" = some (some (.ref f5))) (l5 : K.lookup f5 = some ⟨oc5, od5, .func (PySem.W.fnOf "need_layer" "need_layer" (defArgs s_need_layer) (defBody s_need_layer) (defScope s_need_layer) .none kV5 dc5 pm5 an5 cd5 ct5), sl5⟩) (c5 : PySem.W.codeIn K cd5 "need_layer" = true) (k5 : PySem.W.keepIn K (.ref f5) = true)
    (a6 : PySem.W.nsIn K mainGlobals "held" = some (some (.ref f6))) (l6 : K.lookup f6 = some ⟨oc6, od6, .func (PySem.W.fnOf "held" "held" (defArgs s_held) (defBody s_held) (defScope s_held) .none kV6 dc6 pm6 an6 cd6 ct6), sl6⟩) (c6 : PySem.W.codeIn K cd6 "held" = true) (k6 : PySem.W.keepIn K (.ref f6) = true)
    (a7 : PySem.W.nsIn K mainGlobals "first_time" = some (some (.ref f7))) (l7 : K.lookup f7 = some ⟨oc7, od7, .func (PySem.W.fnOf "first_time" "first_time" (defArgs s_first_time) (defBody s_first_time) (defScope s_first_time) .none kV7 dc7 pm7 an7 cd7 ct7), sl7⟩) (c7 : PySem.W.codeIn K cd7 "first_time" = true) (k7 : PySem.W.keepIn K (.ref f7) = true)
    (a8 : PySem.W.nsIn K mainGlobals "drawing_of" = some (some (.ref f8))) (l8 : K.lookup f8 = some ⟨oc8, od8, .func (PySem.W.fnOf "drawing_of" "drawing_of" (defArgs s_drawing_of) (defBody s_drawing_of) (defScope s_drawing_of) .none kV8 dc8 pm8 an8 cd8 ct8), sl8⟩) (c8 : PySem.W.codeIn K cd8 "drawing_of" = true) (k8 : PySem.W.keepIn K (.ref f8) = true)
    (a9 : PySem.W.nsIn K mainGlobals "drawing_at" = some (some (.ref f9))) (l9 : K.lookup f9 = some ⟨oc9, od9, .func (PySem.W.fnOf "drawing_at" "drawing_at" (defArgs s_drawing_at) (defBody s_drawing_at) (defScope s_drawing_at) .none kV9 dc9 pm9 an9 cd9 ct9), sl9⟩) (c9 : PySem.W.codeIn K cd9 "drawing_at" = true) (k9 : PySem.W.keepIn K (.ref f9) = true)
    (a10 : PySem.W.nsIn K mainGlobals "_law_cell_at" = some (some (.ref f10))) (l10 : K.lookup f10 = some ⟨oc10, od10, .func (PySem.W.fnOf "_law_cell_at" "_law_cell_at" (defArgs s__law_cell_at) (defBody s__law_cell_at) (defScope s__law_cell_at) .none kV10 dc10 pm10 an10 cd10 ct10), sl10⟩) (c10 : PySem.W.codeIn K cd10 "_law_cell_at" = true) (k10 : PySem.W.keepIn K (.ref f10) = true)
    (a11 : PySem.W.nsIn K mainGlobals "_law_state" = some (some (.ref f11))) (l11 : K.lookup f11 = some ⟨oc11, od11, .func (PySem.W.fnOf "_law_state" "_law_state" (defArgs s__law_state) (defBody s__law_state) (defScope s__law_state) .none kV11 dc11 pm11 an11 cd11 ct11), sl11⟩) (c11 : PySem.W.codeIn K cd11 "_law_state" = true) (k11 : PySem.W.keepIn K (.ref f11) = true)
    (a12 : PySem.W.nsIn K mainGlobals "_law_take" = some (some (.ref f12))) (l12 : K.lookup f12 = some ⟨oc12, od12, .func (PySem.W.fnOf "_law_take" "_law_take" (defArgs s__law_take) (defBody s__law_take) (defScope s__law_take) .none kV12 dc12 pm12 an12 cd12 ct12), sl12⟩) (c12 : PySem.W.codeIn K cd12 "_law_take" = true) (k12 : PySem.W.keepIn K (.ref f12) = true)
    (a13 : PySem.W.nsIn K mainGlobals "_law_same" = some (some (.ref f13))) (l13 : K.lookup f13 = some ⟨oc13, od13, .func (PySem.W.fnOf "_law_same" "_law_same" (defArgs s__law_same) (defBody s__law_same) (defScope s__law_same) .none kV13 dc13 pm13 an13 cd13 ct13), sl13⟩) (c13 : PySem.W.codeIn K cd13 "_law_same" = true) (k13 : PySem.W.keepIn K (.ref f13) = true)
    (a14 : PySem.W.nsIn K mainGlobals "_law_row" = some (some (.ref f14))) (l14 : K.lookup f14 = some ⟨oc14, od14, .func (PySem.W.fnOf "_law_row" "_law_row" (defArgs s__law_row) (defBody s__law_row) (defScope s__law_row) .none kV14 dc14 pm14 an14 cd14 ct14), sl14⟩) (c14 : PySem.W.codeIn K cd14 "_law_row" = true) (k14 : PySem.W.keepIn K (.ref f14) = true)
    (a15 : PySem.W.nsIn K mainGlobals "_law_layer" = some (some (.ref f15))) (l15 : K.lookup f15 = some ⟨oc15, od15, .func (PySem.W.fnOf "_law_layer" "_law_layer" (defArgs s__law_layer) (defBody s__law_layer) (defScope s__law_layer) .none kV15 dc15 pm15 an15 cd15 ct15), sl15⟩) (c15 : PySem.W.codeIn K cd15 "_law_layer" = true) (k15 : PySem.W.keepIn K (.ref f15) = true)
    (a16 : PySem.W.nsIn K mainGlobals "_law_laying" = some (some (.ref f16))) (l16 : K.lookup f16 = some ⟨oc16, od16, .func (PySem.W.fnOf "_law_laying" "_law_laying" (defArgs s__law_laying) (defBody s__law_laying) (defScope s__law_laying) .none kV16 dc16 pm16 an16 cd16 ct16), sl16⟩) (c16 : PySem.W.codeIn K cd16 "_law_laying" = true) (k16 : PySem.W.keepIn K (.ref f16) = true)
    (a17 : PySem.W.nsIn K mainGlobals "law" = some (some (.ref f17))) (l17 : K.lookup f17 = some ⟨oc17, od17, .func (PySem.W.fnOf "law" "law" (defArgs s_law) (defBody s_law) (defScope s_law) .none kV17 dc17 pm17 an17 cd17 ct17), sl17⟩) (c17 : PySem.W.codeIn K cd17 "law" = true) (k17 : PySem.W.keepIn K (.ref f17) = true)
    (z_len : PySem.W.nsIn K mainGlobals "len" = some none)
    (z_isinstance : PySem.W.nsIn K mainGlobals "isinstance" = some none)
    (z_max : PySem.W.nsIn K mainGlobals "max" = some none)
    (z_min : PySem.W.nsIn K mainGlobals "min" = some none)
    (z_sum : PySem.W.nsIn K mainGlobals "sum" = some none)
    (z_all : PySem.W.nsIn K mainGlobals "all" = some none)
    (z_tuple : PySem.W.nsIn K mainGlobals "tuple" = some none)
    (z_list : PySem.W.nsIn K mainGlobals "list" = some none)
    (z_range : PySem.W.nsIn K mainGlobals "range" = some none)
    (z_zip : PySem.W.nsIn K mainGlobals "zip" = some none)
    (z_bool : PySem.W.nsIn K mainGlobals "bool" = some none)
    (z_int : PySem.W.nsIn K mainGlobals "int" = some none)
    (v_LAST_MOMENT : PySem.W.nsIn K mainGlobals "LAST_MOMENT" = some (some (.int 1000000000 t0)))
    (v_MOST_DRAWING : PySem.W.nsIn K mainGlobals "MOST_DRAWING" = some (some (.int 9 t1)))
    (v_MOST_HOLD : PySem.W.nsIn K mainGlobals "MOST_HOLD" = some (some (.int 24 t2)))
    (v_MOST_ROWS : PySem.W.nsIn K mainGlobals "MOST_ROWS" = some (some (.int 8 t3))) :
    ∃ fd : FuncData, (∀ (s : Shared) (v : Value), BindsTo s fd ⟨[v], []⟩ [("_law_script", v)]) ∧ ∀ base : Heap, K.In base → base.Ns mainGlobals mg → FnOk l.prog w K mg base CX0 6 fa fd ["_law_script"] (sp_law K) := by
  have e := hfa.symm.trans (PySem.W.mg_of X G a17)
  cases e
  have T : Txt K mg := ⟨PySem.W.mg_none_of X G z_len, PySem.W.mg_none_of X G z_isinstance, PySem.W.mg_none_of X G z_max, PySem.W.mg_none_of X G z_min, PySem.W.mg_none_of X G z_sum, PySem.W.mg_none_of X G z_all, PySem.W.mg_none_of X G z_tuple, PySem.W.mg_none_of X G z_list, PySem.W.mg_none_of X G z_range, PySem.W.mg_none_of X G z_zip, PySem.W.mg_none_of X G z_bool, PySem.W.mg_none_of X G z_int, ⟨_, PySem.W.mg_of X G v_LAST_MOMENT⟩, ⟨_, PySem.W.mg_of X G v_MOST_DRAWING⟩, ⟨_, PySem.W.mg_of X G v_MOST_HOLD⟩, ⟨_, PySem.W.mg_of X G v_MOST_ROWS⟩⟩
  refine ⟨PySem.W.fnOf "law" "law" (defArgs s_law) (defBody s_law) (defScope s_law) .none kV17 dc17 pm17 an17 cd17 ct17, fun s v => .of_eq rfl, fun base _ _ => ?_⟩
  have F0 := fun_mk (st := s_is_whole) l0 c0 k0
  have b0 := F0.binds (ps := ["thing", "least", "most"]) fun _ _ _ _ _ _ us hl => match us, hl with | [_, _, _], _ => rfl
  have D_is_whole : Cl l.prog w K mg base 1 "is_whole" ["thing", "least", "most"] (sp_is_whole K) := ⟨_, _, ok_is_whole F0 T , k0, b0, PySem.W.mg_of X G a0⟩
  have F1 := fun_mk (st := s_need_moment) l1 c1 k1
  have b1 := F1.binds (ps := ["thing"]) fun _ _ _ _ _ _ us hl => match us, hl with | [_], _ => rfl
  have D_need_moment : Cl l.prog w K mg base 2 "need_moment" ["thing"] (sp_need_moment K) := ⟨_, _, ok_need_moment F1 T (D_is_whole), k1, b1, PySem.W.mg_of X G a1⟩
  have F2 := fun_mk (st := s_is_tuple) l2 c2 k2
  have b2 := F2.binds (ps := ["thing", "least", "most"]) fun _ _ _ _ _ _ us hl => match us, hl with | [_, _, _], _ => rfl
  have D_is_tuple : Cl l.prog w K mg base 1 "is_tuple" ["thing", "least", "most"] (sp_is_tuple K) := ⟨_, _, ok_is_tuple F2 T , k2, b2, PySem.W.mg_of X G a2⟩
  have F3 := fun_mk (st := s_is_row) l3 c3 k3
  have b3 := F3.binds (ps := ["thing"]) fun _ _ _ _ _ _ us hl => match us, hl with | [_], _ => rfl
  have D_is_row : Cl l.prog w K mg base 2 "is_row" ["thing"] (sp_is_row K) := ⟨_, _, ok_is_row F3 T (D_is_tuple) (D_is_whole), k3, b3, PySem.W.mg_of X G a3⟩
  have F4 := fun_mk (st := s_is_layer) l4 c4 k4
  have b4 := F4.binds (ps := ["thing"]) fun _ _ _ _ _ _ us hl => match us, hl with | [_], _ => rfl
  have D_is_layer : Cl l.prog w K mg base 3 "is_layer" ["thing"] (sp_is_layer K) := ⟨_, _, ok_is_layer F4 T (D_is_tuple) (D_is_row) (D_is_whole), k4, b4, PySem.W.mg_of X G a4⟩
  have F5 := fun_mk (st := s_need_layer) l5 c5 k5
  have b5 := F5.binds (ps := ["thing"]) fun _ _ _ _ _ _ us hl => match us, hl with | [_], _ => rfl
  have D_need_layer : Cl l.prog w K mg base 4 "need_layer" ["thing"] (sp_need_layer K) := ⟨_, _, ok_need_layer F5 T (D_is_layer), k5, b5, PySem.W.mg_of X G a5⟩
  have F6 := fun_mk (st := s_held) l6 c6 k6
  have b6 := F6.binds (ps := ["rows"]) fun _ _ _ _ _ _ us hl => match us, hl with | [_], _ => rfl
  have D_held : Cl l.prog w K mg base 1 "held" ["rows"] (sp_held K) := ⟨_, _, ok_held F6 T , k6, b6, PySem.W.mg_of X G a6⟩
  have F7 := fun_mk (st := s_first_time) l7 c7 k7
  have b7 := F7.binds (ps := ["rows", "back", "moment"]) fun _ _ _ _ _ _ us hl => match us, hl with | [_, _, _], _ => rfl
  have D_first_time : Cl l.prog w K mg base 2 "first_time" ["rows", "back", "moment"] (sp_first_time K) := ⟨_, _, ok_first_time F7 T (D_held), k7, b7, PySem.W.mg_of X G a7⟩
  have F8 := fun_mk (st := s_drawing_of) l8 c8 k8
  have b8 := F8.binds (ps := ["layer", "moment"]) fun _ _ _ _ _ _ us hl => match us, hl with | [_, _], _ => rfl
  have D_drawing_of : Cl l.prog w K mg base 3 "drawing_of" ["layer", "moment"] (sp_drawing_of K) := ⟨_, _, ok_drawing_of F8 T (D_first_time), k8, b8, PySem.W.mg_of X G a8⟩
  have F9 := fun_mk (st := s_drawing_at) l9 c9 k9
  have b9 := F9.binds (ps := ["layer", "moment"]) fun _ _ _ _ _ _ us hl => match us, hl with | [_, _], _ => rfl
  have D_drawing_at : Cl l.prog w K mg base 5 "drawing_at" ["layer", "moment"] (sp_drawing_at K) := ⟨_, _, ok_drawing_at F9 T (D_need_layer) (D_need_moment) (D_drawing_of), k9, b9, PySem.W.mg_of X G a9⟩
  have F10 := fun_mk (st := s__law_cell_at) l10 c10 k10
  have b10 := F10.binds (ps := ["_law_script", "_law_k"]) fun _ _ _ _ _ _ us hl => match us, hl with | [_, _], _ => rfl
  have D__law_cell_at : Cl l.prog w K mg base 1 "_law_cell_at" ["_law_script", "_law_k"] (sp__law_cell_at K) := ⟨_, _, ok__law_cell_at F10 T , k10, b10, PySem.W.mg_of X G a10⟩
  have F11 := fun_mk (st := s__law_state) l11 c11 k11
  have b11 := F11.binds (ps := ["_law_script", "_law_k"]) fun _ _ _ _ _ _ us hl => match us, hl with | [_, _], _ => rfl
  have D__law_state : Cl l.prog w K mg base 2 "_law_state" ["_law_script", "_law_k"] (sp__law_state K) := ⟨_, _, ok__law_state F11 T (D__law_cell_at), k11, b11, PySem.W.mg_of X G a11⟩
  have F12 := fun_mk (st := s__law_take) l12 c12 k12
  have b12 := F12.binds (ps := ["_law_state_here", "_law_many"]) fun _ _ _ _ _ _ us hl => match us, hl with | [_, _], _ => rfl
  have D__law_take : Cl l.prog w K mg base 1 "_law_take" ["_law_state_here", "_law_many"] (sp__law_take K) := ⟨_, _, ok__law_take F12 T , k12, b12, PySem.W.mg_of X G a12⟩
  have F13 := fun_mk (st := s__law_same) l13 c13 k13
  have b13 := F13.binds (ps := ["_law_found", "_law_due"]) fun _ _ _ _ _ _ us hl => match us, hl with | [_, _], _ => rfl
  have D__law_same : Cl l.prog w K mg base 1 "_law_same" ["_law_found", "_law_due"] (sp__law_same K) := ⟨_, _, ok__law_same F13 T , k13, b13, PySem.W.mg_of X G a13⟩
  have F14 := fun_mk (st := s__law_row) l14 c14 k14
  have b14 := F14.binds (ps := ["_law_state_here", "_law_way"]) fun _ _ _ _ _ _ us hl => match us, hl with | [_, _], _ => rfl
  have D__law_row : Cl l.prog w K mg base 2 "_law_row" ["_law_state_here", "_law_way"] (sp__law_row K) := ⟨_, _, ok__law_row F14 T (D__law_take), k14, b14, PySem.W.mg_of X G a14⟩
  have F15 := fun_mk (st := s__law_layer) l15 c15 k15
  have b15 := F15.binds (ps := ["_law_state_here"]) fun _ _ _ _ _ _ us hl => match us, hl with | [_], _ => rfl
  have D__law_layer : Cl l.prog w K mg base 3 "_law_layer" ["_law_state_here"] (sp__law_layer K) := ⟨_, _, ok__law_layer F15 T (D__law_take) (D__law_row), k15, b15, PySem.W.mg_of X G a15⟩
  have F16 := fun_mk (st := s__law_laying) l16 c16 k16
  have b16 := F16.binds (ps := ["_law_layer_here", "_law_many"]) fun _ _ _ _ _ _ us hl => match us, hl with | [_, _], _ => rfl
  have D__law_laying : Cl l.prog w K mg base 1 "_law_laying" ["_law_layer_here", "_law_many"] (sp__law_laying K) := ⟨_, _, ok__law_laying F16 T , k16, b16, PySem.W.mg_of X G a16⟩
  have F17 := fun_mk (st := s_law) l17 c17 k17
  exact ok_law F17 T (D__law_state) (D__law_layer) (D__law_laying) (D__law_take) (D__law_same) (D_drawing_at)

end Lan
open PySem PySem.W PyProof.Rows
set_option maxRecDepth 100000 in
set_option maxHeartbeats 0 in
theorem PySem.Challenge.cw_lanternrows_k04_drawings_at_moments_holds : PySem.Challenge.rw_lanternrows_k04_drawings_at_moments.Holds := by
  w_on; o_law; k_head; (case hw => w_witness2)
  k_fill
  refine L2.walk_of (l := PySem.Challenge.rw_lanternrows_k04_drawings_at_moments) (n := 63) (k := 6) (x := "_law_script") (CX := fun _ => L2.CX0) (sp := fun w => Lan.sp_law _) rfl (by decide) rfl ⟨rfl, by decide, by decide⟩ (fun w h Y => PySem.W.kIn_of Y) ?F (fun _ _ a ns hl _ hS => ⟨a, ns, rfl, hS, hl, fun _ => rfl⟩) (fun _ _ _ _ _ h => h)
  case F =>
    intro w mg fa h KX G hmg
    refine' Lan.all_mk KX G hmg ?a0 ?l0 ?c0 ?k0 ?a1 ?l1 ?c1 ?k1 ?a2 ?l2 ?c2 ?k2 ?a3 ?l3 ?c3 ?k3 ?a4 ?l4 ?c4 ?k4 ?a5 ?l5 ?c5 ?k5 ?a6 ?l6 ?c6 ?k6 ?a7 ?l7 ?c7 ?k7 ?a8 ?l8 ?c8 ?k8 ?a9 ?l9 ?c9 ?k9 ?a10 ?l10 ?c10 ?k10 ?a11 ?l11 ?c11 ?k11 ?a12 ?l12 ?c12 ?k12 ?a13 ?l13 ?c13 ?k13 ?a14 ?l14 ?c14 ?k14 ?a15 ?l15 ?c15 ?k15 ?a16 ?l16 ?c16 ?k16 ?a17 ?l17 ?c17 ?k17 ?z_len ?z_isinstance ?z_max ?z_min ?z_sum ?z_all ?z_tuple ?z_list ?z_range ?z_zip ?z_bool ?z_int ?v_LAST_MOMENT ?v_MOST_DRAWING ?v_MOST_HOLD ?v_MOST_ROWS
    (case a0 => k_is)
    (case l0 => k_is)
    (case c0 => k_is)
    (case k0 => k_is)
    (case a1 => k_is)
    (case l1 => k_is)
    (case c1 => k_is)
    (case k1 => k_is)
    (case a2 => k_is)
    (case l2 => k_is)
    (case c2 => k_is)
    (case k2 => k_is)
    (case a3 => k_is)
    (case l3 => k_is)
    (case c3 => k_is)
    (case k3 => k_is)
    (case a4 => k_is)
    (case l4 => k_is)
    (case c4 => k_is)
    (case k4 => k_is)
    (case a5 => k_is)
    (case l5 => k_is)
    (case c5 => k_is)
    (case k5 => k_is)
    (case a6 => k_is)
    (case l6 => k_is)
    (case c6 => k_is)
    (case k6 => k_is)
    (case a7 => k_is)
    (case l7 => k_is)
    (case c7 => k_is)
    (case k7 => k_is)
    (case a8 => k_is)
    (case l8 => k_is)
    (case c8 => k_is)
    (case k8 => k_is)
    (case a9 => k_is)
    (case l9 => k_is)
    (case c9 => k_is)
    (case k9 => k_is)
    (case a10 => k_is)
    (case l10 => k_is)
    (case c10 => k_is)
    (case k10 => k_is)
    (case a11 => k_is)
    (case l11 => k_is)
    (case c11 => k_is)
    (case k11 => k_is)
    (case a12 => k_is)
    (case l12 => k_is)
    (case c12 => k_is)
    (case k12 => k_is)
    (case a13 => k_is)
    (case l13 => k_is)
    (case c13 => k_is)
    (case k13 => k_is)
    (case a14 => k_is)
    (case l14 => k_is)
    (case c14 => k_is)
    (case k14 => k_is)
    (case a15 => k_is)
    (case l15 => k_is)
    (case c15 => k_is)
    (case k15 => k_is)
    (case a16 => k_is)
    (case l16 => k_is)
    (case c16 => k_is)
    (case k16 => k_is)
    (case a17 => k_is)
    (case l17 => k_is)
    (case c17 => k_is)
    (case k17 => k_is)
    (case z_len => k_is)
    (case z_isinstance => k_is)
    (case z_max => k_is)
    (case z_min => k_is)
    (case z_sum => k_is)
    (case z_all => k_is)
    (case z_tuple => k_is)
    (case z_list => k_is)
    (case z_range => k_is)
    (case z_zip => k_is)
    (case z_bool => k_is)
    (case z_int => k_is)
    (case v_LAST_MOMENT => k_is)
    (case v_MOST_DRAWING => k_is)
    (case v_MOST_HOLD => k_is)
    (case v_MOST_ROWS => k_is)
