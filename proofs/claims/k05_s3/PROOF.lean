import PyProof.Rows.All
import Wide.All
import OpenK.AllK
import Wide.FinOn
import HandS.ForMost
import HandS.IsInst
import HandS.TupAny
import HandS.TupMul
import HandS.Conv
import HandS.Style
import HandS.Flow
import HandS.Codes
import HandS.Zip
import PySem.Challenge.RW_lanternrows_k05_places_of_a_window
set_option Elab.async false
set_option linter.all false
set_option maxRecDepth 100000
set_option maxHeartbeats 4000000
namespace Lan
open PySem PySem.Spec PyProof.Rows L2
/-! ### short rules -/
def bkV : Option Int → V
  | none => .non
  | some i => .int i
structure Cl (P : Program) (w : World) (K : PySem.W.Frag) (mg : Str → Option Value) (base : Heap) (k : Nat) (x : Str) (ps : List Str) (sp : Sp) : Prop where
  ex : ∃ (f : Addr) (fd : FuncData), FnOk P w K mg base CX0 k f fd ps sp ∧ PySem.W.keepIn K (.ref f) = true ∧ Binds K fd ps [] ∧ mg x = some (.ref f)
section
variable {X : Cx}
theorem pe_gint {x : Str} {pos : Pos} {n : Int} (hg : Gl X x) (h : ∃ t, X.mg x = some (.int n t)) (hd : (x == ("__debug__" : Str)) = false := by decide) : PE X (.Name x pos) (tC (.int n)) := by
  obtain ⟨t, h⟩ := h
  exact pe_glob hg h ⟨_, rfl⟩ hd
theorem pe_own {k : Nat} {x : Str} {ps : List Str} {sp : Sp} {e : Expr} {es : List Expr} {t : TA} {p pos : Pos} (C : Cl X.prog X.w X.K X.mg X.base k x ps sp) (hr : Room k X.A) (hg : Gl X x) (ha : PA X (e :: es) t)
    (hdb : (x == ("__debug__" : Str)) = false := by decide) (he : starEach (e :: es) X.env = (false, eval e X.env) :: starEach es X.env := by rfl) (hpl : (backTo pos (starEach es X.env)).any (·.1) = false := by rfl) :
    PE X (.Call (.Name x p) (e :: es) [] pos) (tCall sp [] E0 t) := by
  obtain ⟨f, fd, F, hk, hb, hm⟩ := C.ex
  exact pe_call F hr hg hm hk hb .nil pass0 ha hdb he hpl
def tPartN (t : TE) : TO := fun σ H Q => t σ H fun x H1 => ∃ o : Option Int, x = bkV o ∧ Q o H1
theorem po_opt {e : Expr} {te : TE} (h : PE X e te) : PO X (some e) (tPartN te) := by
  refine ⟨fun pins s σ H Q I hw => ?_⟩
  rw [evalPart_some]
  refine thn (h.run pins s σ H _ I hw) fun u s1 ⟨x, H1, I1, r1, q1⟩ => ?_
  obtain ⟨o, rfl, q⟩ := q1
  cases o with
  | none =>
    cases r1
    exact ⟨none, H1, I1, .none, q⟩
  | some i =>
    obtain ⟨t, rfl⟩ := r1
    exact ⟨some i, H1, I1, .int i t, q⟩
end
/-! ### heaps -/
theorem same_upd {H : Hp} {p : Addr} {o : HO} (h : H p = none) : Same H (upd H p o) := fun b x e => by
  rw [upd_ne (ne_of_none e h)]
  exact e
theorem new_at {H : Hp} {p : Addr} (o : HO) (h : H p = none) : Same H (upd H p o) ∧ (upd H p o) p = some o := ⟨same_upd h, upd_same⟩
theorem Same.sqT {K : PySem.W.Frag} {H H' : Hp} {a : Addr} {xs : List V} (e : Same H H') (h : SqT K H a xs) : SqT K H' a xs := by
  rcases h with (h | ⟨o, h⟩) | h
  · exact .inl (.inl (e _ _ h))
  · exact .inl (.inr ⟨o, e _ _ h⟩)
  · exact .inr h
def IsSt (H : Hp) (st : Addr) : Prop := ∃ a b : Int, H st = some (.lst [.int a, .int b]) ∧ 0 ≤ a ∧ 0 ≤ b ∧ b < 2147483647
/-- all but the state at st stands, and st holds a state as before -/
def Gr (st : Addr) (H H' : Hp) : Prop := (∀ b o, b ≠ st → H b = some o → H' b = some o) ∧ (IsSt H st → IsSt H' st)
theorem Gr.refl {st : Addr} {H : Hp} : Gr st H H := ⟨fun _ _ _ h => h, id⟩
theorem Gr.trans {st : Addr} {H H1 H2 : Hp} (a : Gr st H H1) (b : Gr st H1 H2) : Gr st H H2 := ⟨fun c o n h => b.1 c o n (a.1 c o n h), fun h => b.2 (a.2 h)⟩
theorem gr_same {st : Addr} {H H' : Hp} (s : Same H H') : Gr st H H' := ⟨fun b o _ h => s b o h, fun ⟨a, b, h, r⟩ => ⟨a, b, s _ _ h, r⟩⟩
theorem gr_set {st : Addr} {H : Hp} {a b : Int} (h0 : 0 ≤ a) (h1 : 0 ≤ b) (h2 : b < 2147483647) : Gr st H (upd H st (.lst [.int a, .int b])) :=
  ⟨fun c o n h => by rw [upd_ne n]; exact h, fun _ => ⟨a, b, upd_same, h0, h1, h2⟩⟩
theorem Gr.sqT {st : Addr} {K : PySem.W.Frag} {H H' : Hp} {a : Addr} {xs : List V} (g : Gr st H H') (s : IsSt H st) (h : SqT K H a xs) : SqT K H' a xs := by
  obtain ⟨u, v, hs, _⟩ := s
  rcases h with (h | ⟨o, h⟩) | h
  · exact .inl (.inl (g.1 _ _ (ne_of h hs (by intro z; cases z)) h))
  · exact .inl (.inr ⟨o, g.1 _ _ (ne_of h hs (by intro z; cases z)) h⟩)
  · exact .inr h
/-- behind a state that was not there before -/
theorem Gr.same {st : Addr} {H H1 H2 : Hp} (g : Gr st H1 H2) (s : Same H H1) (n : H st = none) : Same H H2 := fun b o h => g.1 b o (ne_of_none h n) (s b o h)
theorem tyT {K : PySem.W.Frag} {H : Hp} {a : Addr} {xs : List V} (h : SqT K H a xs) : TyX K H (.ref a) (.type "tuple") := by
  rcases h with (h | ⟨o, h⟩) | ⟨o, its, n, h, c, _⟩
  · exact .base (.tup h)
  · exact .fTuple h
  · exact .kTuple h c
theorem yes_ok {σ : L2.St} {H : Hp} {te : TE} {R : VK} {Z : Hp → Prop} (h : te σ H R) : tYes σ H (fun b H3 => if b = true then te σ H3 R else Z H3) := by
  show if true = true then te σ H R else Z H
  rw [if_pos rfl]
  exact h
/-! ### comprehensions that make one value an item and leave the heap -/
theorem lcmap_tup {K : PySem.W.Frag} {a : Addr} {xs : List V} {g : TG} {tt : TT} {te : TE} {vs : List Nat} {σ : L2.St} {H1 : Hp} {D : Addr} {Qd : Hp → Prop} (ys : List V) (hl : ys.length = xs.length) (hz : xs.length ≤ 1000) (hS : SqT K H1 a xs) (hD : H1 D = none)
    (hs : ∀ (i : Nat) (x y : V) (H : Hp) (R : V → Hp → Prop) (Z : Hp → Prop), xs[i]? = some x → ys[i]? = some y → Same H1 H → (∀ H4, Same H H4 → R y H4) → g x (wipe σ vs) H fun σ2 H2 => wipe σ2 vs = wipe σ vs ∧ tt σ2 H2 fun b H3 => if b = true then te σ2 H3 R else Z H3)
    (hd : ∀ H, Same H1 H → H D = some (.lst ys) → Qd H) :
    ∃ W : Nat → Nat → Hp → Prop, (∃ m, W 0 m (upd H1 D (.lst []))) ∧ ∀ i m H, W i m H →
      ((Itt K a).stop i H ∧ Qd H) ∨ ((Itt K a).go i H ∧ ∃ Nx : Hp → Prop, (∀ H', Nx H' → ∃ m', m' < m ∧ W (i + 1) m' H') ∧ ∀ x H', (Itt K a).yld i H x H' → g x (wipe σ vs) H' fun σ2 H2 => wipe σ2 vs = wipe σ vs ∧ tt σ2 H2 fun b H3 =>
        if b = true then te σ2 H3 fun y H4 => ∃ acc, H4 D = some (.lst acc) ∧ acc.length < sizeLine ∧ Nx (upd H4 D (.lst (acc ++ [y]))) else Nx H3) := by
  refine lc_tup (K := K) (a := a) (xs := xs) (fun i H => Same H1 H ∧ H D = some (.lst (ys.take i))) ⟨same_upd hD, upd_same⟩ (fun i H _ p => Same.sqT p.1 hS) (fun i x H hx p => ?_) (fun H p => ?_)
  · have hi : i < xs.length := (List.getElem?_eq_some_iff.mp hx).1
    obtain ⟨y, hy⟩ : ∃ y, ys[i]? = some y := ⟨_, List.getElem?_eq_getElem (by omega)⟩
    refine hs i x y H _ _ hx hy p.1 (fun H4 s4 => ⟨ys.take i, s4 _ _ p.2, ?_, ?_, ?_⟩)
    · rw [List.length_take]
      exact Nat.lt_of_le_of_lt (Nat.min_le_left _ _) (small1000 (by omega))
    · intro b o e
      rw [upd_ne (ne_of_none e hD)]
      exact s4 _ _ (p.1 _ _ e)
    · rw [upd_same, List.take_add_one, hy]
      rfl
  · refine hd H p.1 ?_
    rw [p.2, List.take_of_length_le (by omega)]
/-! ### paired lists -/
theorem Paired.mono {α β : Type} {F G : α → β → Prop} {l₁ : List α} {l₂ : List β} (p : Paired F l₁ l₂) (f : ∀ a b, F a b → G a b) : Paired G l₁ l₂ := Paired.mapP p f
theorem Paired.takeP {α β : Type} {F : α → β → Prop} : ∀ {l₁ : List α} {l₂ : List β} (n : Nat), Paired F l₁ l₂ → Paired F (l₁.take n) (l₂.take n)
  | _, _, 0, _ => .nil
  | _, _, _ + 1, .nil => .nil
  | _, _, n + 1, .cons r t => .cons r (Paired.takeP n t)
theorem Paired.dropP {α β : Type} {F : α → β → Prop} : ∀ {l₁ : List α} {l₂ : List β} (n : Nat), Paired F l₁ l₂ → Paired F (l₁.drop n) (l₂.drop n)
  | _, _, 0, p => p
  | _, _, _ + 1, .nil => .nil
  | _, _, n + 1, .cons _ t => Paired.dropP n t
theorem Paired.at {α β : Type} {F : α → β → Prop} : ∀ {l₁ : List α} {l₂ : List β} {i : Nat} {x : α}, Paired F l₁ l₂ → l₁[i]? = some x → ∃ y, l₂[i]? = some y ∧ F x y
  | _, _, i, x, .nil, h => by simp at h
  | _, _, 0, x, .cons (a := a) r t, h => by
    have e : _ = x := Option.some.inj h
    subst e
    exact ⟨_, rfl, r⟩
  | _, _, i + 1, x, .cons r t, h => Paired.at (i := i) t h
theorem Paired.at2 {α β : Type} {F : α → β → Prop} : ∀ {l₁ : List α} {l₂ : List β} {i : Nat} {y : β}, Paired F l₁ l₂ → l₂[i]? = some y → ∃ x, l₁[i]? = some x ∧ F x y
  | _, _, i, y, .nil, h => by simp at h
  | _, _, 0, y, .cons r t, h => by
    have e : _ = y := Option.some.inj h
    subst e
    exact ⟨_, rfl, r⟩
  | _, _, i + 1, y, .cons r t, h => Paired.at2 (i := i) t h
theorem Paired.snocP {α β : Type} {F : α → β → Prop} : ∀ {l₁ : List α} {l₂ : List β} {x : α} {y : β}, Paired F l₁ l₂ → F x y → Paired F (l₁ ++ [x]) (l₂ ++ [y])
  | _, _, _, _, .nil, h => .cons h .nil
  | _, _, _, _, .cons r t, h => .cons r (Paired.snocP t h)
/-! ### rows, layers as they lie in the heap -/
abbrev RW := Int × Int
def RowAt (K : PySem.W.Frag) (H : Hp) (v : V) (r : RW) : Prop := ∃ p, v = .ref p ∧ SqT K H p [.int r.1, .int r.2]
def RowsAt (K : PySem.W.Frag) (H : Hp) (v : V) (rs : List RW) : Prop := ∃ p vs, v = .ref p ∧ SqT K H p vs ∧ Paired (RowAt K H) vs rs
def LayAt (K : PySem.W.Frag) (H : Hp) (v : V) (rs : List RW) (bk : Option Int) : Prop := ∃ p rv, v = .ref p ∧ SqT K H p [rv, bkV bk] ∧ RowsAt K H rv rs
def VRow (r : RW) : Prop := 0 ≤ r.1 ∧ r.1 ≤ 9 ∧ 1 ≤ r.2 ∧ r.2 ≤ 24
def VRows (rs : List RW) : Prop := rs.length ≤ 8 ∧ ∀ r ∈ rs, VRow r
def VBack (rs : List RW) (bk : Option Int) : Prop := ∀ i, bk = some i → 0 ≤ i ∧ i < rs.length
abbrev TKeep (K : PySem.W.Frag) (H H' : Hp) : Prop := ∀ a xs, SqT K H a xs → SqT K H' a xs
theorem Same.tk {K : PySem.W.Frag} {H H' : Hp} (s : Same H H') : TKeep K H H' := fun _ _ h => Same.sqT s h
theorem Gr.tk {st : Addr} {K : PySem.W.Frag} {H H' : Hp} (g : Gr st H H') (s : IsSt H st) : TKeep K H H' := fun _ _ h => g.sqT s h
theorem RowAt.keep {K : PySem.W.Frag} {H H' : Hp} {v : V} {r : RW} (k : TKeep K H H') : RowAt K H v r → RowAt K H' v r := fun ⟨p, e, h⟩ => ⟨p, e, k _ _ h⟩
theorem RowsAt.keep {K : PySem.W.Frag} {H H' : Hp} {v : V} {rs : List RW} (k : TKeep K H H') : RowsAt K H v rs → RowsAt K H' v rs := fun ⟨p, vs, e, h, q⟩ => ⟨p, vs, e, k _ _ h, Paired.mono q fun _ _ => RowAt.keep k⟩
theorem LayAt.keep {K : PySem.W.Frag} {H H' : Hp} {v : V} {rs : List RW} {bk : Option Int} (k : TKeep K H H') : LayAt K H v rs bk → LayAt K H' v rs bk := fun ⟨p, rv, e, h, q⟩ => ⟨p, rv, e, k _ _ h, q.keep k⟩
/-! ### what a layer shows -/
def tot (rs : List RW) : Int := (rs.map (·.2)).sum
theorem tot_nil : tot [] = 0 := rfl
theorem tot_cons (r : RW) (rs : List RW) : tot (r :: rs) = r.2 + tot rs := by
  unfold tot
  rw [List.map_cons, List.sum_cons]
theorem tot_append (rs qs : List RW) : tot (rs ++ qs) = tot rs + tot qs := by
  induction rs with
  | nil => simp [tot_nil]
  | cons r t ih =>
    rw [List.cons_append, tot_cons, tot_cons, ih]
    omega
theorem tot_split (rs : List RW) (k : Nat) : tot rs = tot (rs.take k) + tot (rs.drop k) := by
  rw [← tot_append, List.take_append_drop]
theorem tot_nonneg : ∀ {rs : List RW}, (∀ r ∈ rs, VRow r) → (rs.length : Int) ≤ tot rs ∧ tot rs ≤ 24 * rs.length
  | [], _ => by
    rw [tot_nil]
    exact ⟨Int.le_refl _, Int.le_refl _⟩
  | r :: t, h => by
    have h1 := h r (List.mem_cons_self ..)
    have ih := tot_nonneg (rs := t) fun q hq => h q (List.mem_cons_of_mem _ hq)
    rw [tot_cons, List.length_cons]
    obtain ⟨_, _, h3, h4⟩ := h1
    obtain ⟨i1, i2⟩ := ih
    constructor <;> omega
def walk : List RW → Int → Int
  | [], _ => 0
  | r :: t, m => if m < r.2 then r.1 else walk t (m - r.2)
def near (rs : List RW) (bk : Option Int) (m : Int) : Int := match bk with
  | none => m
  | some b => if m < tot (rs.take b.toNat) then m else tot (rs.take b.toNat) + (m - tot (rs.take b.toNat)) % tot (rs.drop b.toNat)
def shown (rs : List RW) (bk : Option Int) (m : Int) : Int := walk rs (near rs bk m)
theorem walk_out : ∀ (rs : List RW) (m : Int), tot rs ≤ m → (∀ r ∈ rs, VRow r) → walk rs m = 0
  | [], _, _, _ => rfl
  | r :: t, m, h, v => by
    have v1 := v r (List.mem_cons_self ..)
    have vt : ∀ q ∈ t, VRow q := fun q hq => v q (List.mem_cons_of_mem _ hq)
    have t0 := (tot_nonneg vt).1
    rw [tot_cons] at h
    unfold walk
    rw [if_neg (by omega)]
    exact walk_out t _ (by omega) vt
theorem walk_at : ∀ (rs : List RW) (p : Nat) (r : RW) (j : Int), rs[p]? = some r → (∀ r ∈ rs, VRow r) → 0 ≤ j → j < r.2 → walk rs (tot (rs.take p) + j) = r.1
  | [], p, r, j, h, _, _, _ => by simp at h
  | q :: t, 0, r, j, h, _, h0, h1 => by
    have e : q = r := Option.some.inj h
    subst e
    rw [List.take_zero, tot_nil]
    unfold walk
    rw [if_pos (by omega)]
  | q :: t, p + 1, r, j, h, v, h0, h1 => by
    have vq := v q (List.mem_cons_self ..)
    have vt : ∀ q ∈ t, VRow q := fun q hq => v q (List.mem_cons_of_mem _ hq)
    have tp : 0 ≤ tot (t.take p) := by
      have := (tot_nonneg (rs := t.take p) fun q hq => vt q (List.mem_of_mem_take hq)).1
      omega
    rw [List.take_succ_cons, tot_cons]
    unfold walk
    rw [if_neg (by omega), show q.2 + tot (t.take p) + j - q.2 = tot (t.take p) + j by omega]
    exact walk_at t p r j h vt h0 h1
theorem tot_take_le {rs : List RW} (v : ∀ r ∈ rs, VRow r) {p : Nat} {r : RW} (h : rs[p]? = some r) : tot (rs.take p) + r.2 ≤ tot rs := by
  have hp : p < rs.length := (List.getElem?_eq_some_iff.mp h).1
  have e : rs.take (p + 1) = rs.take p ++ [r] := by
    rw [List.take_add_one, h]
    rfl
  have s := tot_split rs (p + 1)
  rw [e, tot_append] at s
  have e1 : tot [r] = r.2 := by
    rw [tot_cons, tot_nil]
    omega
  have := (tot_nonneg (rs := rs.drop (p + 1)) fun q hq => v q (List.mem_of_mem_drop hq)).1
  omega
/-- the j-th picture of the row p, behind k more rounds -/
theorem shown_at {rs : List RW} {bk : Option Int} (v : ∀ r ∈ rs, VRow r) (vb : VBack rs bk) {p k : Nat} {r : RW} {j c : Int} (h : rs[p]? = some r) (h0 : 0 ≤ j) (h1 : j < r.2)
    (hc : ∀ b, bk = some b → c = tot (rs.drop b.toNat)) (hk : 0 < k → ∃ b, bk = some b ∧ b ≤ p) : shown rs bk (tot (rs.take p) + k * c + j) = r.1 := by
  have w := walk_at rs p r j h v h0 h1
  have tp : 0 ≤ tot (rs.take p) := by
    have := (tot_nonneg (rs := rs.take p) fun q hq => v q (List.mem_of_mem_take hq)).1
    omega
  unfold shown near
  cases bk with
  | none =>
    have k0 : k = 0 := by
      rcases Nat.eq_zero_or_pos k with z | z
      · exact z
      · obtain ⟨b, e, _⟩ := hk z
        cases e
    subst k0
    dsimp only
    rw [show tot (rs.take p) + ((0 : Nat) : Int) * c + j = tot (rs.take p) + j by simp]
    exact w
  | some b =>
    have hb := vb b rfl
    have ec := hc b rfl
    have s := tot_split rs b.toNat
    have le := tot_take_le v h
    rw [← ec] at s
    dsimp only
    rw [← ec]
    have cpos : 0 < c := by
      have := (tot_nonneg (rs := rs.drop b.toNat) fun q hq => v q (List.mem_of_mem_drop hq)).1
      rw [← ec, List.length_drop] at this
      omega
    rcases Nat.eq_zero_or_pos k with z | z
    · subst z
      rw [show tot (rs.take p) + ((0 : Nat) : Int) * c + j = tot (rs.take p) + j by simp]
      by_cases hm : tot (rs.take p) + j < tot (rs.take b.toNat)
      · rw [if_pos hm]
        exact w
      · rw [if_neg hm, Int.emod_eq_of_lt (by omega) (by omega)]
        rw [show tot (rs.take b.toNat) + (tot (rs.take p) + j - tot (rs.take b.toNat)) = tot (rs.take p) + j by omega]
        exact w
    · obtain ⟨b', e, hbp⟩ := hk z
      have e' : b = b' := Option.some.inj e
      subst e'
      have bp : b.toNat ≤ p := by omega
      have tb : tot (rs.take b.toNat) ≤ tot (rs.take p) := by
        have e1 : rs.take b.toNat = (rs.take p).take b.toNat := by
          rw [List.take_take, Nat.min_eq_left bp]
        have s1 := tot_split (rs.take p) b.toNat
        rw [← e1] at s1
        have := (tot_nonneg (rs := (rs.take p).drop b.toNat) fun q hq => v q (List.mem_of_mem_take (List.mem_of_mem_drop hq))).1
        omega
      have kc : 0 ≤ (k : Int) * c := Int.mul_nonneg (by omega) (by omega)
      rw [if_neg (by omega)]
      rw [show tot (rs.take p) + (k : Int) * c + j - tot (rs.take b.toNat) = (tot (rs.take p) + j - tot (rs.take b.toNat)) + c * k by rw [Int.mul_comm c]; omega, Int.add_mul_emod_self_left, Int.emod_eq_of_lt (by omega) (by omega)]
      rw [show tot (rs.take b.toNat) + (tot (rs.take p) + j - tot (rs.take b.toNat)) = tot (rs.take p) + j by omega]
      exact w
theorem shown_end {rs : List RW} (v : ∀ r ∈ rs, VRow r) {m : Int} (h : tot rs ≤ m) : shown rs none m = 0 := walk_out rs m h v
/-- a great moment is as the one so many whole rounds ahead -/
theorem shown_far {rs : List RW} {bk : Option Int} (v : ∀ r ∈ rs, VRow r) (vb : VBack rs bk) {m s : Int} (hs : s = match bk with | none => 1 | some b => tot (rs.drop b.toNat)) (h : tot rs ≤ m) :
    shown rs bk (tot rs + (m - tot rs) % s) = shown rs bk m := by
  cases bk with
  | none =>
    dsimp only at hs
    subst hs
    rw [shown_end v h, shown_end v (by omega)]
  | some b =>
    dsimp only at hs
    have hb := vb b rfl
    have e := tot_split rs b.toNat
    have spos : 0 < s := by
      have := (tot_nonneg (rs := rs.drop b.toNat) fun q hq => v q (List.mem_of_mem_drop hq)).1
      rw [← hs, List.length_drop] at this
      omega
    have hm := Int.emod_nonneg (m - tot rs) (show s ≠ 0 by omega)
    unfold shown near
    dsimp only
    rw [← hs] at e ⊢
    rw [if_neg (by omega), if_neg (by omega)]
    congr 2
    rw [show tot rs + (m - tot rs) % s - tot (rs.take b.toNat) = (m - tot rs) % s + s * 1 by omega, Int.add_mul_emod_self_left, Int.emod_emod,
      show m - tot (rs.take b.toNat) = (m - tot rs) + s * 1 by omega, Int.add_mul_emod_self_left]
theorem shown_walk_none (rs : List RW) (m : Int) : shown rs none m = walk rs m := rfl
/-! ### slices -/
theorem cut_to (xs : List V) (k : Nat) : cutV xs none (some (k : Int)) = xs.take k := by
  unfold cutV
  rw [HT.sIx_none, HT.sIx_nat, List.drop_zero, Nat.sub_zero]
  rcases Nat.le_total k xs.length with h | h
  · rw [Nat.min_eq_left h]
  · rw [Nat.min_eq_right h, List.take_length, List.take_of_length_le h]
theorem cut_from (xs : List V) (k : Nat) : cutV xs (some (k : Int)) none = xs.drop k := by
  unfold cutV
  rw [HT.sIx_none, HT.sIx_nat]
  rcases Nat.le_total k xs.length with h | h
  · rw [Nat.min_eq_left h, List.take_of_length_le (by rw [List.length_drop]; omega)]
  · rw [Nat.min_eq_right h, Nat.sub_self, List.take_zero, List.drop_of_length_le h]
theorem cut_all (xs : List V) : cutV xs none none = xs := by
  unfold cutV
  rw [HT.sIx_none, HT.sIx_none, List.drop_zero, Nat.sub_zero, List.take_length]
theorem cut_whole {xs : List V} {lo hi : Option Int} (h : HT.sIx xs.length 0 lo = 0 ∧ HT.sIx xs.length xs.length hi = xs.length) : cutV xs lo hi = xs := by
  unfold cutV
  rw [h.1, h.2, List.drop_zero, Nat.sub_zero, List.take_length]
theorem sl_rows {K : PySem.W.Frag} {H : Hp} {a : Addr} {xs : List V} {lo hi : Option Int} (rs : List RW) {R : VK} (hS : SqT K H a xs) (hp : Paired (RowAt K H) (cutV xs lo hi) rs) (h : ∀ H' v, Same H H' → RowsAt K H' v rs → R v H') :
    rSlA K (.ref a) lo hi H R := by
  refine ⟨a, xs, rfl, hS, fun w => h H _ (Same.refl _) ⟨a, xs, rfl, hS, ?_⟩, fun _ p np => ?_⟩
  · rw [cut_whole w] at hp
    exact hp
  · have s := same_upd (o := .tup (cutV xs lo hi)) np
    exact h _ _ s ⟨p, _, rfl, .inl (.inl upd_same), Paired.mono hp fun _ _ => RowAt.keep (Same.tk s)⟩
/-! ### windows -/
abbrev MV := Int × Int × Int
def MoveAt (K : PySem.W.Frag) (H : Hp) (v : V) (m : MV) : Prop := ∃ p, v = .ref p ∧ SqT K H p [.int m.1, .int m.2.1, .int m.2.2]
def MovesAt (K : PySem.W.Frag) (H : Hp) (v : V) (ms : List MV) : Prop := ∃ p vs, v = .ref p ∧ SqT K H p vs ∧ Paired (MoveAt K H) vs ms
def WinAt (K : PySem.W.Frag) (H : Hp) (v : V) (x y : Int) (ms : List MV) : Prop := ∃ p mv, v = .ref p ∧ SqT K H p [.int x, .int y, mv] ∧ MovesAt K H mv ms
def VMove (m : MV) : Prop := (-20 ≤ m.1 ∧ m.1 ≤ 20) ∧ (-20 ≤ m.2.1 ∧ m.2.1 ≤ 20) ∧ 0 ≤ m.2.2 ∧ m.2.2 ≤ 24
def VWin (x y : Int) (ms : List MV) : Prop := (-20 ≤ x ∧ x ≤ 20) ∧ (-20 ≤ y ∧ y ≤ 20) ∧ ms.length ≤ 8 ∧ ∀ m ∈ ms, VMove m
theorem MoveAt.keep {K : PySem.W.Frag} {H H' : Hp} {v : V} {m : MV} (k : TKeep K H H') : MoveAt K H v m → MoveAt K H' v m := fun ⟨p, e, h⟩ => ⟨p, e, k _ _ h⟩
theorem MovesAt.keep {K : PySem.W.Frag} {H H' : Hp} {v : V} {ms : List MV} (k : TKeep K H H') : MovesAt K H v ms → MovesAt K H' v ms := fun ⟨p, vs, e, h, q⟩ => ⟨p, vs, e, k _ _ h, Paired.mono q fun _ _ => MoveAt.keep k⟩
theorem WinAt.keep {K : PySem.W.Frag} {H H' : Hp} {v : V} {x y : Int} {ms : List MV} (k : TKeep K H H') : WinAt K H v x y ms → WinAt K H' v x y ms := fun ⟨p, mv, e, h, q⟩ => ⟨p, mv, e, k _ _ h, q.keep k⟩
def mtot (ms : List MV) : Int := (ms.map (·.2.2)).sum
/-! ### sheets -/
abbrev LY := List RW × Option Int
def LyAt (K : PySem.W.Frag) (H : Hp) (v : V) (l : LY) : Prop := LayAt K H v l.1 l.2
def LaysAt (K : PySem.W.Frag) (H : Hp) (v : V) (ls : List LY) : Prop := ∃ p vs, v = .ref p ∧ SqT K H p vs ∧ Paired (LyAt K H) vs ls
def VLy (l : LY) : Prop := VRows l.1 ∧ VBack l.1 l.2
def VLays (ls : List LY) : Prop := 1 ≤ ls.length ∧ ls.length ≤ 4 ∧ ∀ l ∈ ls, VLy l
def ShAt (K : PySem.W.Frag) (H : Hp) (v : V) (ls : List LY) (x y : Int) (ms : List MV) : Prop := ∃ p lv wv, v = .ref p ∧ SqT K H p [lv, wv] ∧ LaysAt K H lv ls ∧ WinAt K H wv x y ms
theorem LyAt.keep {K : PySem.W.Frag} {H H' : Hp} {v : V} {l : LY} (k : TKeep K H H') : LyAt K H v l → LyAt K H' v l := LayAt.keep k
theorem LaysAt.keep {K : PySem.W.Frag} {H H' : Hp} {v : V} {ls : List LY} (k : TKeep K H H') : LaysAt K H v ls → LaysAt K H' v ls := fun ⟨p, vs, e, h, q⟩ => ⟨p, vs, e, k _ _ h, Paired.mono q fun _ _ => LyAt.keep k⟩
theorem ShAt.keep {K : PySem.W.Frag} {H H' : Hp} {v : V} {ls : List LY} {x y : Int} {ms : List MV} (k : TKeep K H H') : ShAt K H v ls x y ms → ShAt K H' v ls x y ms := fun ⟨p, lv, wv, e, h, q, r⟩ => ⟨p, lv, wv, e, k _ _ h, q.keep k, r.keep k⟩
/-! ### places -/
def PlAt (K : PySem.W.Frag) (H : Hp) (v : V) (p : RW × RW) : Prop := ∃ a v1 v2, v = .ref a ∧ SqT K H a [v1, v2] ∧ RowAt K H v1 p.1 ∧ RowAt K H v2 p.2
theorem PlAt.keep {K : PySem.W.Frag} {H H' : Hp} {v : V} {p : RW × RW} (k : TKeep K H H') : PlAt K H v p → PlAt K H' v p := fun ⟨a, v1, v2, e, h, r1, r2⟩ => ⟨a, v1, v2, e, k _ _ h, r1.keep k, r2.keep k⟩
/-! ### pictures -/
abbrev PIC := List Int × (RW × RW)
def PicAt (K : PySem.W.Frag) (H : Hp) (v : V) (c : PIC) : Prop := ∃ a b v2, v = .ref a ∧ SqT K H a [.ref b, v2] ∧ SqT K H b (c.1.map V.int) ∧ PlAt K H v2 c.2
theorem PicAt.keep {K : PySem.W.Frag} {H H' : Hp} {v : V} {c : PIC} (k : TKeep K H H') : PicAt K H v c → PicAt K H' v c := fun ⟨a, b, v2, e, h, h1, h2⟩ => ⟨a, b, v2, e, k _ _ h, k _ _ h1, h2.keep k⟩
/-! ### fractions in lowest terms -/
def lo (t b : Int) : RW := (t / ((Nat.gcd t.natAbs b.natAbs : Nat) : Int), b / ((Nat.gcd t.natAbs b.natAbs : Nat) : Int))
theorem gcd_facts {t b : Int} (hb : 0 < b) : ∃ g t' b' : Int, ((Nat.gcd t.natAbs b.natAbs : Nat) : Int) = g ∧ 0 < g ∧ t = g * t' ∧ b = g * b' ∧ 0 < b' ∧ (lo t b) = (t', b') ∧ g ≤ b ∧ Nat.Coprime b'.natAbs t'.natAbs := by
  have g0 : 0 < Nat.gcd t.natAbs b.natAbs := Nat.gcd_pos_of_pos_right _ (by omega)
  obtain ⟨t', ht⟩ : ((Nat.gcd t.natAbs b.natAbs : Nat) : Int) ∣ t := Int.natAbs_dvd_natAbs.mp (by rw [Int.natAbs_natCast]; exact Nat.gcd_dvd_left _ _)
  obtain ⟨b', hb'⟩ : ((Nat.gcd t.natAbs b.natAbs : Nat) : Int) ∣ b := Int.natAbs_dvd_natAbs.mp (by rw [Int.natAbs_natCast]; exact Nat.gcd_dvd_right _ _)
  have gp : (0 : Int) < ((Nat.gcd t.natAbs b.natAbs : Nat) : Int) := by omega
  have bp : 0 < b' := Int.pos_of_mul_pos_left (a := b') (b := ((Nat.gcd t.natAbs b.natAbs : Nat) : Int)) (by rw [Int.mul_comm, ← hb']; exact hb) gp
  have gle : ((Nat.gcd t.natAbs b.natAbs : Nat) : Int) ≤ b := by
    have := Nat.gcd_le_right t.natAbs (show 0 < b.natAbs by omega)
    omega
  have cop : Nat.gcd b'.natAbs t'.natAbs = 1 := by
    have e1 : t.natAbs = Nat.gcd t.natAbs b.natAbs * t'.natAbs := by
      have := congrArg Int.natAbs ht
      rw [Int.natAbs_mul, Int.natAbs_natCast] at this
      exact this
    have e2 : b.natAbs = Nat.gcd t.natAbs b.natAbs * b'.natAbs := by
      have := congrArg Int.natAbs hb'
      rw [Int.natAbs_mul, Int.natAbs_natCast] at this
      exact this
    have e3 : Nat.gcd (Nat.gcd t.natAbs b.natAbs * t'.natAbs) (Nat.gcd t.natAbs b.natAbs * b'.natAbs) = Nat.gcd t.natAbs b.natAbs * Nat.gcd t'.natAbs b'.natAbs := Nat.gcd_mul_left _ _ _
    rw [← e1, ← e2] at e3
    rw [Nat.gcd_comm]
    exact Nat.eq_of_mul_eq_mul_left g0 (by rw [← e3, Nat.mul_one])
  refine ⟨_, t', b', rfl, gp, ht, hb', bp, ?_, gle, cop⟩
  unfold lo
  congr 1
  · conv => lhs; arg 1; rw [ht]
    exact Int.mul_ediv_cancel_left _ (by omega)
  · conv => lhs; arg 1; rw [hb']
    exact Int.mul_ediv_cancel_left _ (by omega)
theorem lo_mem {t b k : Int} (hb : 0 < b) : t * k % b = 0 ↔ (lo t b).2 ∣ k := by
  obtain ⟨g, t', b', _, gp, et, eb, bp, el, _, cop⟩ := gcd_facts (t := t) hb
  rw [el]
  show _ ↔ b' ∣ k
  constructor
  · intro h
    have h1 := Int.dvd_of_emod_eq_zero h
    rw [et, eb, Int.mul_assoc] at h1
    obtain ⟨c, hc⟩ := h1
    rw [Int.mul_assoc] at hc
    have h2 : b' ∣ t' * k := ⟨c, Int.eq_of_mul_eq_mul_left (by omega) hc⟩
    have h3 := Int.natAbs_dvd_natAbs.mpr h2
    rw [Int.natAbs_mul] at h3
    exact Int.natAbs_dvd_natAbs.mp (Nat.Coprime.dvd_of_dvd_mul_left cop h3)
  · rintro ⟨c, hc⟩
    apply Int.emod_eq_zero_of_dvd
    refine ⟨t' * c, ?_⟩
    rw [et, eb, hc]
    rw [Int.mul_assoc, Int.mul_assoc, Int.mul_left_comm t' b' c]
/-- the numbers from 1 to n that the law looks through -/
def ks (t b : Int) (n : Nat) : List Int := ((List.range n).map fun j => 1 + ((j : Nat) : Int)).filter fun k => decide (t * k % b = 0)
theorem ks_head {t b : Int} (hb : 0 < b) : (ks t b b.toNat)[0]? = some (lo t b).2 := by
  obtain ⟨g, t', b', _, gp, et, eb, bp, el, _, cop⟩ := gcd_facts (t := t) hb
  have hm : ∀ k, t * k % b = 0 ↔ b' ∣ k := fun k => by
    have := lo_mem (t := t) (k := k) hb
    rw [el] at this
    exact this
  rw [el]
  show (ks t b b.toNat)[0]? = some b'
  have ble : b' ≤ b := by
    rw [eb]
    have : 1 * b' ≤ g * b' := Int.mul_le_mul_of_nonneg_right (by omega) (by omega)
    omega
  unfold ks
  rw [List.filter_map, List.getElem?_map, ← List.head?_eq_getElem?, List.head?_filter]
  have e : (List.range b.toNat).find? ((fun k : Int => decide (t * k % b = 0)) ∘ fun j : Nat => 1 + (j : Int)) = some (b'.toNat - 1) := by
    rw [List.find?_range_eq_some]
    refine ⟨?_, List.mem_range.mpr (by omega), fun j hj => ?_⟩
    · show decide (t * (1 + ((b'.toNat - 1 : Nat) : Int)) % b = 0) = true
      rw [decide_eq_true_eq, hm, show 1 + ((b'.toNat - 1 : Nat) : Int) = b' by omega]
      exact Int.dvd_refl _
    · show (!decide (t * (1 + (j : Int)) % b = 0)) = true
      rw [Bool.not_eq_true', decide_eq_false_iff_not, hm]
      intro hd
      have := Int.le_of_dvd (by omega) hd
      omega
  rw [e]
  show some (1 + ((b'.toNat - 1 : Nat) : Int)) = some b'
  congr 1
  omega
theorem lo_top {t b : Int} (hb : 0 < b) : t * (lo t b).2 / b = (lo t b).1 := by
  obtain ⟨g, t', b', _, gp, et, eb, bp, el, _, cop⟩ := gcd_facts (t := t) hb
  rw [el]
  show t * b' / b = t'
  rw [et, show g * t' * b' = b * t' by rw [eb, Int.mul_assoc, Int.mul_assoc, Int.mul_comm t' b']]
  exact Int.mul_ediv_cancel_left _ (by omega)
/-! ### where a window stands -/
def plc (x y : Int) : List MV → Int → RW × RW
  | [], _ => ((x, 1), (y, 1))
  | m :: r, t => if t < m.2.2 then (lo (x * m.2.2 + (m.1 - x) * (t + 1)) m.2.2, lo (y * m.2.2 + (m.2.1 - y) * (t + 1)) m.2.2) else plc m.1 m.2.1 r (t - m.2.2)
theorem way_eq (x g n k : Int) : x * (n - k) + g * k = x * n + (g - x) * k := by
  rw [Int.mul_sub, Int.sub_mul]
  omega
theorem plc_nil (x y t : Int) : plc x y [] t = ((x, 1), (y, 1)) := rfl
theorem plc_cons (x y : Int) (m : MV) (r : List MV) (t : Int) : plc x y (m :: r) t = if t < m.2.2 then (lo (x * m.2.2 + (m.1 - x) * (t + 1)) m.2.2, lo (y * m.2.2 + (m.2.1 - y) * (t + 1)) m.2.2) else plc m.1 m.2.1 r (t - m.2.2) := rfl
theorem mtot_cons (m : MV) (r : List MV) : mtot (m :: r) = m.2.2 + mtot r := by
  unfold mtot
  rw [List.map_cons, List.sum_cons]
theorem mtot_nonneg : ∀ {ms : List MV}, (∀ m ∈ ms, VMove m) → 0 ≤ mtot ms ∧ mtot ms ≤ 24 * ms.length
  | [], _ => ⟨Int.le_refl _, Int.le_refl _⟩
  | m :: r, h => by
    have ih := mtot_nonneg (ms := r) fun q hq => h q (List.mem_cons_of_mem _ hq)
    obtain ⟨_, _, h3, h4⟩ := h m (List.mem_cons_self ..)
    rw [mtot_cons, List.length_cons]
    obtain ⟨i1, i2⟩ := ih
    constructor <;> omega
theorem plc_far : ∀ (ms : List MV) (x y a b : Int), (∀ m ∈ ms, VMove m) → mtot ms ≤ a → mtot ms ≤ b → plc x y ms a = plc x y ms b
  | [], _, _, _, _, _, _, _ => rfl
  | m :: r, x, y, a, b, h, ha, hb => by
    have hr : ∀ q ∈ r, VMove q := fun q hq => h q (List.mem_cons_of_mem _ hq)
    have := (mtot_nonneg hr).1
    rw [mtot_cons] at ha hb
    rw [plc_cons, plc_cons, if_neg (by omega), if_neg (by omega)]
    exact plc_far r _ _ _ _ hr (by omega) (by omega)
def pic (ls : List LY) (x y : Int) (ms : List MV) (m : Int) : PIC := (ls.map (fun l => shown l.1 l.2 m), plc x y ms m)
/-! ### the law's own helpers -/
theorem fm {x m : Int} (h : 0 < m) : 0 ≤ x.fmod m ∧ x.fmod m < m := by
  rw [Int.fmod_eq_emod_of_nonneg x (by omega)]
  exact ⟨Int.emod_nonneg _ (by omega), Int.emod_lt_of_pos _ h⟩
theorem tk_updL {K : PySem.W.Frag} {H : Hp} {D : Addr} {xs ys : List V} (h : H D = some (.lst xs)) : TKeep K H (upd H D (.lst ys)) := by
  intro a zs q
  rcases q with (q | ⟨o, q⟩) | q
  · refine .inl (.inl ?_)
    rw [upd_ne (ne_of q h (by intro z; cases z))]
    exact q
  · refine .inl (.inr ⟨o, ?_⟩)
    rw [upd_ne (ne_of q h (by intro z; cases z))]
    exact q
  · exact .inr q
inductive Fl : V → String → Bool → Prop
  | non : Fl .non "NoneType" false
  | bl (b : Bool) : Fl (.bl b) "bool" true
  | int (i : Int) : Fl (.int i) "int" false
theorem Fl.ty {K : PySem.W.Frag} {H : Hp} {x : V} {t : String} {b : Bool} (f : Fl x t b) : TyX K H x (.type t) := by
  cases f with
  | non => exact .base .non
  | bl b => exact .base (.bl b)
  | int i => exact .base (.int i)
theorem Fl.kit {x : V} {t : String} {b : Bool} (f : Fl x t b) : kitB t "bool" = some b := by
  cases f <;> decide +kernel
theorem Fl.kit2 {K : PySem.W.Frag} {x : V} {t : String} {b : Bool} (f : Fl x t b) : PySem.W.kitAny K (.type t) [.type "tuple", .type "list"] = some false := by
  cases f <;> exact kitAny_cons (kit_ty (r := false) (by decide +kernel)) (fun _ => kitAny_cons (kit_ty (r := false) (by decide +kernel)) (fun _ => kitAny_nil) (fun z => nomatch z)) (fun z => nomatch z)
theorem Fl.scal {x y : V} {t u : String} {b : Bool} (f : Fl x t b) (g : Fl y u b) : L2.scal x y = true := by
  cases f <;> cases g <;> rfl
theorem Fl.ne {x y : V} {t u : String} {b c : Bool} (f : Fl x t b) (g : Fl y u c) (h : b ≠ c) : x ≠ y := by
  cases f <;> cases g <;> first | exact absurd rfl h | (intro z; cases z)
theorem st_ne {H : Hp} {st p : Addr} (s : IsSt H st) (h : H p = none) : p ≠ st := by
  obtain ⟨x, y, hx, _⟩ := s
  exact fun z => by rw [z, hx] at h; cases h
theorem st_neT {H : Hp} {st p : Addr} {xs : List V} (s : IsSt H st) (h : H p = some (.tup xs)) : p ≠ st := by
  obtain ⟨x, y, hx, _⟩ := s
  exact ne_of h hx (by intro z; cases z)
/-! ### the law's own comparison, of equal data -/
theorem tyL {K : PySem.W.Frag} {H : Hp} {a : Addr} {xs : List V} (h : SqL K H a xs) : TyX K H (.ref a) (.type "list") := by
  rcases h with (h | ⟨o, h⟩) | ⟨o, its, n, h, c, _⟩
  · exact .base (.lst h)
  · exact .base (.frz h)
  · exact .kList h c
mutual
theorem Dp.sm {K : PySem.W.Frag} {H H' : Hp} (s : Same H H') : ∀ {v : V} {d : PyData}, Dp K H v d → Dp K H' v d
  | _, _, .non => .non
  | _, _, .bl b => .bl b
  | _, _, .int i => .int i
  | _, _, .str x => .str x
  | _, _, .lst h q => .lst (s.seq h) (DpAll.sm s q)
  | _, _, .tup h q => .tup (Same.sqT s h) (DpAll.sm s q)
theorem DpAll.sm {K : PySem.W.Frag} {H H' : Hp} (s : Same H H') : ∀ {v : List V} {d : List PyData}, DpAll K H v d → DpAll K H' v d
  | _, _, .nil => .nil
  | _, _, .cons h q => .cons (Dp.sm s h) (DpAll.sm s q)
end
theorem DpAll.at {K : PySem.W.Frag} {H : Hp} : ∀ {vs : List V} {ds : List PyData} {i : Nat} {v : V}, DpAll K H vs ds → vs[i]? = some v → ∃ d, ds[i]? = some d ∧ Dp K H v d
  | _, _, i, v, .nil, h => by simp at h
  | _, _, 0, v, .cons a t, h => by
    have e : _ = v := Option.some.inj h
    subst e
    exact ⟨_, rfl, a⟩
  | _, _, i + 1, v, .cons a t, h => DpAll.at (i := i) t h
theorem DpAll.len {K : PySem.W.Frag} {H : Hp} : ∀ {vs : List V} {ds : List PyData}, DpAll K H vs ds → vs.length = ds.length
  | _, _, .nil => rfl
  | _, _, .cons _ t => by rw [List.length_cons, List.length_cons, DpAll.len t]
def flD (d : PyData) : Prop := d = .none ∨ (∃ b, d = .bool b) ∨ ∃ i, d = .int i
def dOk : Nat → PyData → Prop
  | 0, d => flD d
  | n + 1, d => flD d ∨ ∃ ds, (d = .list ds ∨ d = .tuple ds) ∧ ds.length ≤ 1000 ∧ ∀ e ∈ ds, dOk n e
theorem flD.fl {K : PySem.W.Frag} {H : Hp} {x y : V} {d : PyData} (f : flD d) (hx : Dp K H x d) (hy : Dp K H y d) : x = y ∧ ∃ t b, Fl x t b := by
  rcases f with rfl | ⟨b, rfl⟩ | ⟨i, rfl⟩
  · cases hx
    cases hy
    exact ⟨rfl, _, _, .non⟩
  · cases hx
    cases hy
    exact ⟨rfl, _, _, .bl b⟩
  · cases hx
    cases hy
    exact ⟨rfl, _, _, .int i⟩
/-- a comprehension over a zip of two that stand still, each item True -/
theorem lc_zip {J : It} {xs ys : List V} {g : TG} {tt : TT} {te : TE} {vs : List Nat} {σ : L2.St} {H1 : Hp} {D : Addr} {Qd : Hp → Prop} (hl : ys.length = xs.length) (hz : xs.length ≤ 1000) (hD : H1 D = none)
    (st : ∀ H, Same H1 H → J.stop xs.length H) (go : ∀ (i : Nat) (H : Hp), Same H1 H → i < xs.length → J.go i H)
    (yl : ∀ (i : Nat) (H : Hp) (v : V) (H' : Hp), Same H1 H → J.yld i H v H' → ∃ T x y, v = .ref T ∧ H T = none ∧ H' = upd H T (.tup [x, y]) ∧ xs[i]? = some x ∧ ys[i]? = some y)
    (hs : ∀ (i : Nat) (x y : V) (T : Addr) (H : Hp) (R : V → Hp → Prop) (Z : Hp → Prop), xs[i]? = some x → ys[i]? = some y → Same H1 H → H T = some (.tup [x, y]) → (∀ H4, Same H H4 → R (.bl true) H4) →
      g (.ref T) (wipe σ vs) H fun σ2 H2 => wipe σ2 vs = wipe σ vs ∧ tt σ2 H2 fun b H3 => if b = true then te σ2 H3 R else Z H3)
    (hd : ∀ H, Same H1 H → H D = some (.lst ((List.replicate xs.length true).map V.bl)) → Qd H) :
    ∃ W : Nat → Nat → Hp → Prop, (∃ m, W 0 m (upd H1 D (.lst []))) ∧ ∀ i m H, W i m H →
      (J.stop i H ∧ Qd H) ∨ (J.go i H ∧ ∃ Nx : Hp → Prop, (∀ H', Nx H' → ∃ m', m' < m ∧ W (i + 1) m' H') ∧ ∀ x H', J.yld i H x H' → g x (wipe σ vs) H' fun σ2 H2 => wipe σ2 vs = wipe σ vs ∧ tt σ2 H2 fun b H3 =>
        if b = true then te σ2 H3 fun y H4 => ∃ acc, H4 D = some (.lst acc) ∧ acc.length < sizeLine ∧ Nx (upd H4 D (.lst (acc ++ [y]))) else Nx H3) := by
  refine ⟨fun i m H => m = xs.length - i ∧ i ≤ xs.length ∧ Same H1 H ∧ H D = some (.lst ((List.replicate i true).map V.bl)), ⟨xs.length, by simp, Nat.zero_le _, same_upd hD, upd_same⟩, ?_⟩
  rintro i m H ⟨rfl, hi, s1, eD⟩
  by_cases hlt : i < xs.length
  · refine .inr ⟨go i H s1 hlt, fun H' => Same H1 H' ∧ H' D = some (.lst ((List.replicate (i + 1) true).map V.bl)), fun H' p => ⟨xs.length - (i + 1), by omega, rfl, hlt, p⟩, fun v H' hy => ?_⟩
    obtain ⟨T, x, y, rfl, nT, rfl, hx, hy⟩ := yl i H v H' s1 hy
    have sT : Same H (upd H T (.tup [x, y])) := same_upd nT
    refine hs i x y T _ _ _ hx hy (s1.trans sT) upd_same (fun H4 s4 => ⟨_, s4 _ _ (sT _ _ eD), ?_, ?_, ?_⟩)
    · rw [List.length_map, List.length_replicate]
      exact small1000 (by omega)
    · intro b o e
      rw [upd_ne (ne_of_none e hD)]
      exact s4 _ _ (sT _ _ (s1 _ _ e))
    · rw [upd_same, List.replicate_succ', List.map_append]
      rfl
  · have e : i = xs.length := by omega
    subst e
    exact .inl ⟨st H s1, hd H s1 eD⟩
/-! ### a def that is entered where nothing is being shown: repr is known there -/
structure FnG (P : Program) (w : World) (K : PySem.W.Frag) (mg : Str → Option Value) (base : Heap) (k : Nat) (f : Addr) (fd : FuncData) (ps : List Str) (sp : Sp) : Prop where
  len : ∀ vs H Q E, sp vs H Q E → vs.length = ps.length
  run : ∀ (A : Around) (outer : List Env) (s : Shared) (H : Hp) (args : Args) (us : List Value) (vs : List V) (Q : VK) (E : XK), A.guards = some [] → Room k A → Env0 P w K mg base A outer s H → BindsTo s fd args (ps.zip us) →
    Vals vs us → sp vs H Q E → codeAny (model P w) A (.call (.ref f) args) (CR CX0 outer P w H s Q E) s
/-! ### a call goes by the def's body, in whatever context the body is read -/
/-- the def st stands at f, its code object is cdv -/
structure DefAt (K : PySem.W.Frag) (x qual : Str) (st : Stmt) (f : Addr) (fd : FuncData) (cdv : Value) : Prop where
  isFn : ∃ (kV doc pm : Value) (an : Option Addr) (ct : Value), fd = PySem.W.fnOf x qual (defArgs st) (defBody st) (defScope st) .none kV doc pm an cdv ct
  there : ∃ (oc : Value) (od : Option Addr) (osl : Array (Option Value)), K.lookup f = some ⟨oc, od, .func fd, osl⟩
  coded : PySem.W.codeIn K cdv qual = true
/-- what a call's value is, told by how the body ends -/
def given : Flow → Value
  | .ret u => u
  | _ => .none
/-- the state in which a body begins whose parameters ps hold us -/
abbrev Begun (qual : Str) (st : Stmt) (f : Addr) (cdv : Value) (ps : List Str) (us : List Value) (s s1 : Shared) : Prop :=
  InCallC s s.heap.objs.size (bindL (envOfC qual (defScope st) s.heap.objs.size f cdv).kindOf (ps.zip us) fun _ => none) (cellsFrom (s.heap.objs.size + 1) (defScope st).names [])
    (bindC (envOfC qual (defScope st) s.heap.objs.size f cdv).kindOf (ps.zip us) fun _ => none) s1
theorem given_by {X : Cx} {Q : VK} {fl : Flow} {s' : Shared} (none : X.ex = []) (h : SP X [] { nx := fun _ H' => Q .non H', rt := Q } fl s') : CE X.outer X.prog X.w X.H_0 X.s_0 Q (given fl) s' := by
  have told : ∀ {σ : L2.St} {H' : Hp} {v : V}, Inv X [] σ H' s' → RelV v (given fl) → Q v H' → CE X.outer X.prog X.w X.H_0 X.s_0 Q (given fl) s' := fun J rv q => ⟨_, _, J.os, J.bare, none ▸ J.base, J.hok, rv, q⟩
  match fl, h with
  | .ret _, ⟨_, _, _, J, rv, q⟩ => exact told J rv q
  | .next, ⟨_, _, J, q⟩ => exact told (v := .non) J rfl q
  | .brk, ⟨_, _, _, q⟩ | .cont, ⟨_, _, _, q⟩ => exact q.elim
section
variable {P : Program} {w : World} {K : PySem.W.Frag} {mg : Str → Option Value} {base : Heap}
theorem defAt_of {x qual : Str} {st : Stmt} {f : Addr} {fd : FuncData} (F : Fun K x qual st f fd) : ∃ cdv, DefAt K x qual st f fd cdv :=
  let ⟨oc, od, kV, doc, pm, an, cdv, ct, osl, e, l, c⟩ := F.ex
  ⟨cdv, ⟨kV, doc, pm, an, ct, e⟩, ⟨oc, od, osl, l⟩, c⟩
theorem DefAt.call {x qual : Str} {st : Stmt} {f : Addr} {fd : FuncData} {cdv : Value} {N ps : List Str} {A : Around} {outer : List Env} {s : Shared} {H : Hp} {args : Args} {us : List Value} {R : Result → Shared → Prop} (D : DefAt K x qual st f fd cdv) (S : FnScope N ps (defScope st))
    (room : A.depth < recursionLimit) (e0 : Env0 P w K mg base A outer s H) (hb : BindsTo s fd args (ps.zip us))
    (body : ∀ s1, Begun qual st f cdv ps us s s1 → wpAny (model P w) (A.deeper (envOfC qual (defScope st) s.heap.objs.size f cdv)) (execs (defBody st) (envOfC qual (defScope st) s.heap.objs.size f cdv)) (fun fl s' => R (.ok (.ret (given fl))) s')
      (fun e s' => wpAny (model P w) (A.deeper (envOfC qual (defScope st) s.heap.objs.size f cdv)) (leaving (envOfC qual (defScope st) s.heap.objs.size f cdv) e) (fun _ z => R (.error e) z) (fun e' z => R (.error e') z) s') s1) :
    codeAny (model P w) A (.call (.ref f) args) R s := by
  obtain ⟨⟨kV, doc, pm, an, ct, rfl⟩, ⟨oc, od, osl, there⟩, coded⟩ := D
  have stands : ∀ b o, base.get? b = some o → s.heap.get? b = some o := fun b o z => (e0.bs b o z).1
  have kin := e0.mod.kin.keeps stands
  apply codeAny_call_function room (kin f _ there) rfl S.co S.gen rfl (PySem.W.codeRec_of kin coded)
  apply hb
  apply wpAny_newFunctionEnv_cells S.kind
  · exact fun y hy => (S.par y.1 (List.of_mem_zip hy).1).imp id fun c => ⟨c, PySem.W.cellsFrom_some _ _ _ (.inl c)⟩
  · rintro _ rfl s1 begun
    exact ⟨(e0.mod.nolimit.keeps stands).keeps begun.toInCall.keep, codeAny_func (wpAny_mono (body s1 begun) (fun fl _ h => by cases fl <;> exact h) fun _ _ h => h)⟩
theorem fun_okG {x qual : Str} {st : Stmt} {f : Addr} {fd : FuncData} {N ps : List Str} {k : Nat} {sp : Sp} (F : Fun K x qual st f fd) (S : FnScope N ps (defScope st)) (ln : ∀ vs H Q E, sp vs H Q E → vs.length = ps.length)
    (hbody : ∀ (cdv : Value) (A : Around) (outer : List Env) (s : Shared) (H : Hp) (vs : List V) (Q : VK) (E : XK), A.guards = some [] → Room k (A.deeper (envOfC qual (defScope st) s.heap.objs.size f cdv)) → sp vs H Q E →
      ∃ t, PSs (cxOf CX0 P w K mg base N qual (defScope st) f cdv A outer s H E).nox (defBody st) t ∧ t { nx := fun _ H' => Q .non H', rt := Q } (L2.start N vs) H) : FnG P w K mg base (k + 1) f fd ps sp := by
  obtain ⟨cdv, D⟩ := defAt_of F
  refine ⟨ln, fun A outer s H args us vs Q E hgu hr e0 hb r hsp => D.call S hr.depth e0 hb fun s1 begun => ?_⟩
  obtain ⟨t, ht, hq⟩ := hbody cdv A outer s H vs Q E hgu (hr.deeper _) hsp
  exact thn (ht.nox.run [] s1 _ H _ (inv_start S hr.hd e0 (ln _ _ _ _ hsp) r begun) hq) fun _ _ h => given_by rfl h
/-- the law's call from such a promise -/
theorem law_callG {mb : Str → Option Value} {k : Nat} {fa a : Addr} {fd : FuncData} {x : Str} {sp : Sp} {s₁ : Shared} {vs : List Value} {ns : List Int}
    (KX : K.In s₁.heap) (hns : s₁.heap.Ns mainGlobals mg) (hb : s₁.heap.Ns builtinsNs mb) (hbb : ∀ x : Str, x ≠ "__name__" → mb x = bootBuiltins x) (hlim : s₁.heap.NoLimit)
    (hge : s₁.gens = #[]) (ha : s₁.heap.get? a = some { cls := .type "list", data := .seq vs.toArray }) (hi : IntsAre vs ns) (hl : ns.length ≤ sizeLine) (hr : Room k callerA)
    (F : ∀ base : Heap, K.In base → base.Ns mainGlobals mg → FnG P w K mg base k fa fd [x] sp)
    (hbind : ∀ (s : Shared) (u : Value), BindsTo s fd ⟨[u], []⟩ [(x, u)])
    (hsp : ∀ H : Hp, SqL K H a (ns.map V.int) → sp [.ref a] H (fun v _ => v = .bl true) fun _ _ _ => False) :
    codeAny (model P w) callerA (.call (.ref fa) ⟨[.ref a], []⟩)
      (fun r s' => r = .ok (.ret (.bool true)) ∧ OldK s₁.heap s'.heap ∧ s'.os = s₁.os ∧ AllBare s'.gens) s₁ := by
  have rv := vals_ints hi
  have lv := hi.length
  obtain ⟨H, hH⟩ : ∃ H : Hp, ∀ b, H b = if b = a ∧ K.lookup a = none then some (.frz { cls := .type "list", data := .seq vs.toArray } (.lst (ns.map V.int))) else none := ⟨fun b => _, fun _ => rfl⟩
  have some_of : ∀ {b u}, H b = some u → b = a ∧ K.lookup a = none ∧ u = .frz { cls := .type "list", data := .seq vs.toArray } (.lst (ns.map V.int)) := by
    intro b u e
    rw [hH b] at e
    by_cases c : b = a ∧ K.lookup a = none
    · rw [if_pos c] at e
      exact ⟨c.1, c.2, (Option.some.inj e).symm⟩
    · rw [if_neg c] at e
      cases e
  have none_of : ∀ {b o} {es : Array DictEntry} {ep : Nat}, s₁.heap.get? b = some o → o.data = .dict es ep → H b = none := by
    intro b o es ep e d
    cases c : H b with
    | none => rfl
    | some u =>
      obtain ⟨rfl, _, _⟩ := some_of c
      rw [ha] at e
      cases e
      cases d
  have hS : SqL K H a (ns.map V.int) := by
    cases hk : K.lookup a with
    | none => exact .inl (.inr ⟨_, by rw [hH a, if_pos ⟨rfl, hk⟩]⟩)
    | some o =>
      have e := KX a o hk
      rw [ha] at e
      cases e
      refine .inr ⟨_, vs.toArray, _, hk, rfl, rfl, rfl, ?_, by simpa using rv⟩
      rw [List.size_toArray, lv]
      exact hl
  have hok : HOk P w H s₁.heap := by
    intro b u e
    obtain ⟨rfl, _, rfl⟩ := some_of e
    refine ⟨ha, ?_, vs, _, rv, ha⟩
    rw [List.length_map]
    exact hl
  have nsB : ∀ {b : Addr} {m : Str → Option Value}, s₁.heap.Ns b m → (hidT s₁.heap H).Ns b m := by
    rintro b m ⟨o, es, ep, e, d, r⟩
    exact ⟨o, es, ep, hidT_get e (none_of e d), d, r⟩
  have kB : K.In (hidT s₁.heap H) := by
    intro b o e
    refine hidT_get (KX b o e) ?_
    cases c : H b with
    | none => rfl
    | some u =>
      obtain ⟨rfl, k0, _⟩ := some_of c
      rw [k0] at e
      cases e
  have md : Mod K mg (hidT s₁.heap H) := by
    obtain ⟨mc, h1, h2⟩ := hlim
    exact ⟨kB, nsB hns, ⟨mb, nsB hb, hbb⟩, ⟨mc, nsB h1, h2⟩⟩
  have e0 : Env0 P w K mg (hidT s₁.heap H) callerA [] s₁ H := by
    refine ⟨rfl, md, fun b o e => of_hidT e, Nat.le_of_eq (hidT_size _ _), trivial, ?_, hok, .of_eq hge⟩
    intro b hb
    exact absurd (show b ∈ ([] : List Addr) from hb) (by simp)
  have go := (F _ kB (nsB hns)).run callerA [] s₁ H ⟨[.ref a], []⟩ [.ref a] [.ref a] _ _ rfl hr e0
    (hbind s₁ (.ref a)) (.cons rfl .nil) (hsp H hS)
  refine codeAny_mono go fun r s' h => ?_
  cases r with
  | error e => exact h.elim
  | ok fl =>
    cases fl with
    | ret u =>
      obtain ⟨v, H', os, bare, un, hok', r', qv⟩ := h
      have qv' : v = .bl true := qv
      subst qv'
      obtain rfl : u = Value.bool true := r'
      refine ⟨rfl, OldK.of_keep fun b o e => ?_, os, bare⟩
      cases c : H b with
      | none =>
        refine un.keep b o e c ?_ (by simp)
        intro z
        exact absurd (show b ∈ ([] : List Addr) from z) (by simp)
      | some u =>
        obtain ⟨_, _, rfl⟩ := some_of c
        have c2 := un.frzs b _ _ c
        obtain ⟨e1, _⟩ := hok b _ c
        obtain ⟨e2, _⟩ := hok' b _ c2
        rw [e] at e1
        cases e1
        exact e2
    | next => exact False.elim h
    | brk => exact False.elim h
    | cont => exact False.elim h
end
theorem walk_ofG {l : PySem.W.OpenLaw} {n k : Nat} {q : Program} {loose : List Str} {XP : (Str → Option Value) → Heap → Prop} {YP : World → Heap → Prop} {d : DefRec} {K : Params → PySem.W.Frag} {sp : World → Sp} {x : Str}
    (hn : l.most = some n) (hn2 : n ≤ sizeLine) (hdf : d.params.defaults = []) (hr : Room k callerA) (hY : ∀ (w : World) (h : Heap), YP w h → (K w.params).In h)
    (F : ∀ (w : World) (mg : Str → Option Value) (fa : Addr) (h : Heap), (K w.params).In h → h.Ns mainGlobals mg → mg d.name = some (.ref fa) →
      ∃ fd : FuncData, (∀ (s : Shared) (u : Value), BindsTo s fd ⟨[u], []⟩ [(x, u)]) ∧
        ∀ base : Heap, (K w.params).In base → base.Ns mainGlobals mg → FnG l.prog w (K w.params) mg base k fa fd [x] (sp w))
    (hsp : ∀ (w : World) (H : Hp) (a : Addr) (ns : List Int), ns.length ≤ n → SqL (K w.params) H a (ns.map V.int) → sp w [.ref a] H (fun v _ => v = .bl true) fun _ _ _ => False) :
    PySem.W.WalkO q loose XP YP l.row.toRowW d [] (fun f vs => PySem.call f vs) := by
  refine Att.attach_call hn hdf fun w s₀ s₁ mg mb fa o pm cd doc a vs ns G Y _ _ _ hmg hobj hints hlen hge => ?_
  have KX := hY w _ Y
  obtain ⟨fd, hb, hF⟩ := F w mg fa _ KX G.T.g hmg
  exact law_callG KX G.T.g G.T.b G.T.builtins G.T.nolimit hge hobj hints (Nat.le_trans hlen hn2) hr hF hb
    (fun H hS => hsp w H a ns hlen hS)
/-! ### repr of data -/
def rRepr (K : PySem.W.Frag) : List V → Hp → VK → Prop := fun xs H Q => ∃ (a : Addr) (d : PyData) (S : Str), xs = [.ref a] ∧ Dp K H (.ref a) d ∧ d.showable = true ∧ d.hasDict = false ∧ d.depth ≤ 30 ∧ d.shown.length ≤ sizeLine ∧ d.shown = S ∧ Q (.str S) H
theorem call_repr {X : Cx} (hg : X.A.guards = some []) (hu : X.A.units + 64 < cLine) : CallR X (.builtin "repr") (rRepr X.K) := by
  intro pins s σ H xs us Q I r h
  obtain ⟨a, d, S, rfl, hd, hs, hnd, hdep, hsz, hS, q⟩ := h
  subst hS
  obtain ⟨u, rfl, rx⟩ := vals1 r
  cases (show u = Value.ref a from rx)
  obtain ⟨as, rd⟩ := Dp.reads I d _ _ hd rfl
  refine repr_of_reads' rd hs (fun z => by rw [hnd] at z; cases z) hg (by omega) (fun _ _ e => e) (fun h' u tk hk => ?_) hsz
  exact ⟨.str d.shown, H, I.kept hk, ⟨_, rfl⟩, q⟩
/-! ### data that can be shown -/
structure RO (k w : Nat) (d : PyData) : Prop where
  sh : d.showable = true
  nd : d.hasDict = false
  dp : d.depth ≤ k
  lv : d.leavesShort 13 = true
  wt : d.weight ≤ w
theorem RO.none {w : Nat} : RO 0 w .none := ⟨rfl, rfl, Nat.le_refl _, rfl, Nat.zero_le _⟩
theorem RO.bool {w : Nat} (b : Bool) : RO 0 w (.bool b) := ⟨rfl, rfl, Nat.le_refl _, rfl, Nat.zero_le _⟩
theorem RO.int {i : Int} (h1 : -999999999999 ≤ i) (h2 : i ≤ 999999999999) : RO 0 41 (.int i) := by
  have hl : i.natAbs.log2 < 41 := by
    rcases Nat.eq_zero_or_pos i.natAbs with e | e
    · rw [e]
      decide
    · exact (Nat.log2_lt (by omega)).mpr (Nat.lt_of_le_of_lt (show i.natAbs ≤ 999999999999 by omega) (by decide))
  refine ⟨decide_eq_true (by omega), rfl, Nat.le_refl _, decide_eq_true (PyData.shown_int_le2 h1 h2), ?_⟩
  show (if i == 0 then 0 else i.natAbs.log2 + 1) ≤ 41
  split <;> omega
theorem RO.more {k w k' w' : Nat} {d : PyData} (h : RO k w d) (h1 : k ≤ k') (h2 : w ≤ w') : RO k' w' d := ⟨h.sh, h.nd, Nat.le_trans h.dp h1, h.lv, Nat.le_trans h.wt h2⟩
theorem ro_all {k w : Nat} : ∀ {ds : List PyData}, (∀ e ∈ ds, RO k w e) → PyData.showableAll ds = true ∧ PyData.hasDictAll ds = false ∧ PyData.depthAll ds ≤ k ∧ PyData.leavesShortAll 13 ds = true ∧ PyData.weightAll ds ≤ ds.length * (w + 1)
  | [], _ => ⟨rfl, rfl, Nat.zero_le _, rfl, Nat.zero_le _⟩
  | d :: t, h => by
    obtain ⟨a, b, c, e, f⟩ := ro_all (ds := t) fun x hx => h x (List.mem_cons_of_mem _ hx)
    have h1 := h d (List.mem_cons_self ..)
    refine ⟨?_, ?_, ?_, ?_, ?_⟩
    · show (d.showable && PyData.showableAll t) = true
      rw [h1.sh, a]
      rfl
    · show (d.hasDict || PyData.hasDictAll t) = false
      rw [h1.nd, b]
      rfl
    · show max d.depth (PyData.depthAll t) ≤ k
      exact Nat.max_le.mpr ⟨h1.dp, c⟩
    · show (d.leavesShort 13 && PyData.leavesShortAll 13 t) = true
      rw [h1.lv, e]
      rfl
    · show d.weight + 1 + PyData.weightAll t ≤ (t.length + 1) * (w + 1)
      have := h1.wt
      rw [Nat.add_mul, Nat.one_mul]
      omega
theorem RO.tup {k w n : Nat} {ds : List PyData} (h : ∀ e ∈ ds, RO k w e) (hn : ds.length * (w + 1) ≤ n) : RO (k + 1) n (.tuple ds) := by
  obtain ⟨a, b, c, e, f⟩ := ro_all h
  exact ⟨a, b, Nat.succ_le_succ c, e, Nat.le_trans f hn⟩
theorem RO.lst {k w n : Nat} {ds : List PyData} (h : ∀ e ∈ ds, RO k w e) (hn : ds.length * (w + 1) ≤ n) : RO (k + 1) n (.list ds) := by
  obtain ⟨a, b, c, e, f⟩ := ro_all h
  exact ⟨a, b, Nat.succ_le_succ c, e, Nat.le_trans f hn⟩
theorem RO.fits {k w : Nat} {d : PyData} (h : RO k w d) (hw : w ≤ 1000000) : d.shown.length ≤ sizeLine := by
  have := PyData.shown_le 13 (by decide) d h.lv
  have := h.wt
  have e : sizeLine = 16777216 := by decide
  omega
/-! ### windows and places as data -/
theorem dpAll_of {K : PySem.W.Frag} {H : Hp} {β : Type} {R : V → β → Prop} {f : β → PyData} (h : ∀ v m, R v m → Dp K H v (f m)) : ∀ {vs : List V} {ms : List β}, Paired R vs ms → DpAll K H vs (ms.map f)
  | _, _, .nil => .nil
  | _, _, .cons r t => .cons (h _ _ r) (dpAll_of h t)
def rwD (r : RW) : PyData := .tuple [.int r.1, .int r.2]
def plD (p : RW × RW) : PyData := .tuple [rwD p.1, rwD p.2]
def mvD (m : MV) : PyData := .tuple [.int m.1, .int m.2.1, .int m.2.2]
def winD (x y : Int) (ms : List MV) : PyData := .tuple [.int x, .int y, .tuple (ms.map mvD)]
theorem RowAt.dp {K : PySem.W.Frag} {H : Hp} {v : V} {r : RW} : RowAt K H v r → Dp K H v (rwD r) := by
  rintro ⟨p, rfl, h⟩
  exact .tup h (.cons (.int _) (.cons (.int _) .nil))
theorem PlAt.dp {K : PySem.W.Frag} {H : Hp} {v : V} {p : RW × RW} : PlAt K H v p → Dp K H v (plD p) := by
  rintro ⟨a, v1, v2, rfl, h, r1, r2⟩
  exact .tup h (.cons r1.dp (.cons r2.dp .nil))
theorem MoveAt.dp {K : PySem.W.Frag} {H : Hp} {v : V} {m : MV} : MoveAt K H v m → Dp K H v (mvD m) := by
  rintro ⟨p, rfl, h⟩
  exact .tup h (.cons (.int _) (.cons (.int _) (.cons (.int _) .nil)))
theorem WinAt.dp {K : PySem.W.Frag} {H : Hp} {v : V} {x y : Int} {ms : List MV} : WinAt K H v x y ms → Dp K H v (winD x y ms) := by
  rintro ⟨p, mv, rfl, h, pm, vs, rfl, hq, pd⟩
  exact .tup h (.cons (.int _) (.cons (.int _) (.cons (.tup hq (dpAll_of (f := mvD) (fun _ _ h => MoveAt.dp h) pd)) .nil)))
theorem mem3 {α : Type} {a b c e : α} (h : e ∈ [a, b, c]) : e = a ∨ e = b ∨ e = c := by
  simpa using h
theorem mvD_ro {m : MV} (h : VMove m) : RO 1 126 (mvD m) := by
  obtain ⟨h1, h2, h3, h4⟩ := h
  refine RO.tup (k := 0) (w := 41) (fun e he => ?_) (by show 3 * 42 ≤ 126; decide)
  rcases mem3 he with rfl | rfl | rfl <;> exact RO.int (by omega) (by omega)
theorem winD_ro {x y : Int} {ms : List MV} (h : VWin x y ms) : RO 3 3051 (winD x y ms) := by
  obtain ⟨h1, h2, h3, h4⟩ := h
  refine RO.tup (k := 2) (w := 1016) (fun e he => ?_) (by show 3 * 1017 ≤ 3051; decide)
  rcases mem3 he with rfl | rfl | rfl
  · exact (RO.int (by omega) (by omega)).more (by omega) (by omega)
  · exact (RO.int (by omega) (by omega)).more (by omega) (by omega)
  · refine RO.tup (k := 1) (w := 126) (fun e he => ?_) ?_
    · obtain ⟨m, hm, rfl⟩ := List.mem_map.mp he
      exact mvD_ro (h4 m hm)
    · rw [List.length_map]
      omega
theorem ro_args {k w : Nat} {d : PyData} (h : RO k w d) (hk : k ≤ 30) (hw : w ≤ 1000000) : d.showable = true ∧ d.hasDict = false ∧ d.depth ≤ 30 ∧ d.shown.length ≤ sizeLine := ⟨h.sh, h.nd, Nat.le_trans h.dp hk, h.fits hw⟩
theorem fl_int (i : Int) : flD (.int i) := .inr (.inr ⟨i, rfl⟩)
theorem dOk_rw (r : RW) : dOk 1 (rwD r) := by
  refine .inr ⟨_, .inr rfl, (by show 2 ≤ 1000; decide), fun e he => ?_⟩
  rcases List.mem_cons.mp he with rfl | he
  · exact fl_int _
  · rw [List.mem_singleton.mp he]
    exact fl_int _
theorem dOk_pl (p : RW × RW) : dOk 2 (plD p) := by
  refine .inr ⟨_, .inr rfl, (by show 2 ≤ 1000; decide), fun e he => ?_⟩
  rcases List.mem_cons.mp he with rfl | he
  · exact dOk_rw _
  · rw [List.mem_singleton.mp he]
    exact dOk_rw _
/-! ### layers, sheets, pictures as data -/
def bkD : Option Int → PyData
  | none => .none
  | some i => .int i
def lyD (l : LY) : PyData := .tuple [.tuple (l.1.map rwD), bkD l.2]
def shD (ls : List LY) (x y : Int) (ms : List MV) : PyData := .tuple [.tuple (ls.map lyD), winD x y ms]
def picD (c : PIC) : PyData := .tuple [.tuple (c.1.map .int), plD c.2]
theorem bkD_dp {K : PySem.W.Frag} {H : Hp} (o : Option Int) : Dp K H (bkV o) (bkD o) := by
  cases o with
  | none => exact .non
  | some i => exact .int i
theorem LyAt.dp {K : PySem.W.Frag} {H : Hp} {v : V} {l : LY} : LyAt K H v l → Dp K H v (lyD l) := by
  rintro ⟨p, rv, rfl, h, pr, vs, rfl, hq, pd⟩
  exact .tup h (.cons (.tup hq (dpAll_of (f := rwD) (fun _ _ h => RowAt.dp h) pd)) (.cons (bkD_dp _) .nil))
theorem ShAt.dp {K : PySem.W.Frag} {H : Hp} {v : V} {ls : List LY} {x y : Int} {ms : List MV} : ShAt K H v ls x y ms → Dp K H v (shD ls x y ms) := by
  rintro ⟨p, lv, wv, rfl, h, ⟨pl, vs, rfl, hq, pd⟩, hw⟩
  exact .tup h (.cons (.tup hq (dpAll_of (f := lyD) (fun _ _ h => LyAt.dp h) pd)) (.cons hw.dp .nil))
theorem ints_dp {K : PySem.W.Frag} {H : Hp} : ∀ ns : List Int, DpAll K H (ns.map V.int) (ns.map .int)
  | [] => .nil
  | n :: r => .cons (.int n) (ints_dp r)
theorem PicAt.dp {K : PySem.W.Frag} {H : Hp} {v : V} {c : PIC} : PicAt K H v c → Dp K H v (picD c) := by
  rintro ⟨a, b, v2, rfl, h, h1, h2⟩
  exact .tup h (.cons (.tup h1 (ints_dp _)) (.cons h2.dp .nil))
theorem mem2 {α : Type} {a b e : α} (h : e ∈ [a, b]) : e = a ∨ e = b := by
  simpa using h
theorem rwD_ro {r : RW} (h : VRow r) : RO 1 84 (rwD r) := by
  obtain ⟨h1, h2, h3, h4⟩ := h
  refine RO.tup (k := 0) (w := 41) (fun e he => ?_) (by show 2 * 42 ≤ 84; decide)
  rcases mem2 he with rfl | rfl <;> exact RO.int (by omega) (by omega)
theorem lyD_ro {l : LY} (h : VLy l) : RO 3 1362 (lyD l) := by
  obtain ⟨⟨h8, hr⟩, hb⟩ := h
  refine RO.tup (k := 2) (w := 680) (fun e he => ?_) (by show 2 * 681 ≤ 1362; decide)
  rcases mem2 he with rfl | rfl
  · refine RO.tup (k := 1) (w := 84) (fun e he => ?_) ?_
    · obtain ⟨r, hm, rfl⟩ := List.mem_map.mp he
      exact rwD_ro (hr r hm)
    · rw [List.length_map]
      omega
  · cases e : l.2 with
    | none => exact RO.none.more (by omega) (Nat.le_refl _)
    | some i =>
      have := hb i e
      exact (RO.int (by omega) (by omega)).more (by omega) (by omega)
theorem shD_ro {ls : List LY} {x y : Int} {ms : List MV} (h : VLays ls) (hw : VWin x y ms) : RO 5 10906 (shD ls x y ms) := by
  obtain ⟨h1, h4, hl⟩ := h
  refine RO.tup (k := 4) (w := 5452) (fun e he => ?_) (by show 2 * 5453 ≤ 10906; decide)
  rcases mem2 he with rfl | rfl
  · refine RO.tup (k := 3) (w := 1362) (fun e he => ?_) ?_
    · obtain ⟨l, hm, rfl⟩ := List.mem_map.mp he
      exact lyD_ro (hl l hm)
    · rw [List.length_map]
      omega
  · exact (winD_ro hw).more (by omega) (by omega)
theorem dOk_up : ∀ {n : Nat} {d : PyData}, dOk n d → dOk (n + 1) d
  | 0, _, h => .inl h
  | n + 1, _, .inl h => .inl h
  | n + 1, _, .inr ⟨ds, h1, h2, h3⟩ => .inr ⟨ds, h1, h2, fun e he => dOk_up (h3 e he)⟩
theorem dOk_pic {c : PIC} (h : c.1.length ≤ 1000) : dOk 3 (picD c) := by
  refine .inr ⟨_, .inr rfl, (by show 2 ≤ 1000; decide), fun e he => ?_⟩
  rcases mem2 he with rfl | rfl
  · refine dOk_up (n := 1) (.inr ⟨_, .inr rfl, by rw [List.length_map]; exact h, fun e he => ?_⟩)
    obtain ⟨i, _, rfl⟩ := List.mem_map.mp he
    exact fl_int i
  · exact dOk_pl _
theorem dOk_pics {cs : List PIC} (h : cs.length ≤ 1000) (hc : ∀ c ∈ cs, c.1.length ≤ 1000) : dOk 4 (.list (cs.map picD)) := by
  refine .inr ⟨_, .inl rfl, by rw [List.length_map]; exact h, fun e he => ?_⟩
  obtain ⟨c, hm, rfl⟩ := List.mem_map.mp he
  exact dOk_pic (hc c hm)
theorem lcmap_list {K : PySem.W.Frag} {a : Addr} {xs : List V} {g : TG} {tt : TT} {te : TE} {vs : List Nat} {σ : L2.St} {H1 : Hp} {D : Addr} {Qd : Hp → Prop} (ys : List V) (hl : ys.length = xs.length) (hz : xs.length ≤ 1000) (hS : SqL K H1 a xs) (hD : H1 D = none)
    (hs : ∀ (i : Nat) (x y : V) (H : Hp) (R : V → Hp → Prop) (Z : Hp → Prop), xs[i]? = some x → ys[i]? = some y → Same H1 H → (∀ H4, Same H H4 → R y H4) → g x (wipe σ vs) H fun σ2 H2 => wipe σ2 vs = wipe σ vs ∧ tt σ2 H2 fun b H3 => if b = true then te σ2 H3 R else Z H3)
    (hd : ∀ H, Same H1 H → H D = some (.lst ys) → Qd H) :
    ∃ W : Nat → Nat → Hp → Prop, (∃ m, W 0 m (upd H1 D (.lst []))) ∧ ∀ i m H, W i m H →
      ((Itl K a).stop i H ∧ Qd H) ∨ ((Itl K a).go i H ∧ ∃ Nx : Hp → Prop, (∀ H', Nx H' → ∃ m', m' < m ∧ W (i + 1) m' H') ∧ ∀ x H', (Itl K a).yld i H x H' → g x (wipe σ vs) H' fun σ2 H2 => wipe σ2 vs = wipe σ vs ∧ tt σ2 H2 fun b H3 =>
        if b = true then te σ2 H3 fun y H4 => ∃ acc, H4 D = some (.lst acc) ∧ acc.length < sizeLine ∧ Nx (upd H4 D (.lst (acc ++ [y]))) else Nx H3) := by
  refine lc_list (K := K) (a := a) (xs := xs) (fun i H => Same H1 H ∧ H D = some (.lst (ys.take i))) ⟨same_upd hD, upd_same⟩ (fun i H _ p => p.1.seq hS) (fun i x H hx p => ?_) (fun H p => ?_)
  · have hi : i < xs.length := (List.getElem?_eq_some_iff.mp hx).1
    obtain ⟨y, hy⟩ : ∃ y, ys[i]? = some y := ⟨_, List.getElem?_eq_getElem (by omega)⟩
    refine hs i x y H _ _ hx hy p.1 (fun H4 s4 => ⟨ys.take i, s4 _ _ p.2, ?_, ?_, ?_⟩)
    · rw [List.length_take]
      exact Nat.lt_of_le_of_lt (Nat.min_le_left _ _) (small1000 (by omega))
    · intro b o e
      rw [upd_ne (ne_of_none e hD)]
      exact s4 _ _ (p.1 _ _ e)
    · rw [upd_same, List.take_add_one, hy]
      rfl
  · refine hd H p.1 ?_
    rw [p.2, List.take_of_length_le (by omega)]
/-! ### laying -/
def rnd (rs : List RW) : Option Int → Int
  | none => 0
  | some b => tot (rs.drop b.toNat)
def lays (rs : List RW) (bk : Option Int) (n : Nat) : List V := (List.range n).map fun i => V.int (shown rs bk (i : Nat))
theorem lays_at {rs : List RW} {bk : Option Int} {n i : Nat} (h : i < n) : (lays rs bk n)[i]? = some (.int (shown rs bk (i : Nat))) := by
  unfold lays
  rw [List.getElem?_map, List.getElem?_range h]
  rfl
theorem lays_len (rs : List RW) (bk : Option Int) (n : Nat) : (lays rs bk n).length = n := by
  unfold lays
  rw [List.length_map, List.length_range]
theorem lays_of {rs : List RW} {bk : Option Int} {n : Nat} {fs : List Int} (hl : n ≤ fs.length) (h : ∀ i, i < fs.length → fs[i]? = some (shown rs bk (i : Nat))) : (fs.map V.int).take n = lays rs bk n := by
  apply List.ext_getElem?
  intro i
  by_cases hi : i < n
  · rw [lays_at hi, List.getElem?_take_of_lt hi, List.getElem?_map, h i (by omega)]
    rfl
  · rw [List.getElem?_eq_none (by rw [List.length_take]; omega), List.getElem?_eq_none (by rw [lays_len]; omega)]
/-! ### laid out, row by row -/
/-- a walk over J: Body tells what is asked of a turn, Qd what is asked at the end -/
abbrev Goes (J : It) (Body : V → Hp → (Hp → Prop) → Prop) (Hs : Hp) (Qd : Hp → Prop) : Prop :=
  ∃ W : Nat → Nat → Hp → Prop, (∃ m, W 0 m Hs) ∧ ∀ i m H, W i m H →
    (J.stop i H ∧ Qd H) ∨ (J.go i H ∧ ∃ Nx : Hp → Prop, (∀ H', Nx H' → ∃ m', m' < m ∧ W (i + 1) m' H') ∧ ∀ x H', J.yld i H x H' → Body x H' Nx)
/-- n turns: Pv i stands when i of them are done -/
theorem goes_by {J : It} {n : Nat} {Body : V → Hp → (Hp → Prop) → Prop} {Hs : Hp} {Qd : Hp → Prop} (Pv : Nat → Hp → Prop) (h0 : Pv 0 Hs) (last : ∀ H, Pv n H → J.stop n H ∧ Qd H)
    (turn : ∀ i H, i < n → Pv i H → J.go i H ∧ ∀ x H', J.yld i H x H' → Body x H' (Pv (i + 1))) : Goes J Body Hs Qd := by
  refine ⟨fun done left H => done + left = n ∧ Pv done H, ⟨n, Nat.zero_add n, h0⟩, fun i left H here => ?_⟩
  cases left with
  | zero =>
    obtain ⟨rfl, p⟩ := here
    exact .inl (last H p)
  | succ less =>
    have now := turn i H (by have := here.1; omega) here.2
    exact .inr ⟨now.1, Pv (i + 1), fun H' p => ⟨less, Nat.lt_succ_self less, by have := here.1; omega, p⟩, now.2⟩
theorem wk_tup {K : PySem.W.Frag} {a : Addr} {xs : List V} {Body : V → Hp → (Hp → Prop) → Prop} {Hs : Hp} {Qd : Hp → Prop} (Pv : Nat → Hp → Prop) (h0 : Pv 0 Hs) (hl : ∀ i H, i ≤ xs.length → Pv i H → SqT K H a xs)
    (hs : ∀ i x H, xs[i]? = some x → Pv i H → Body x H (Pv (i + 1))) (hd : ∀ H, Pv xs.length H → Qd H) : Goes (Itt K a) Body Hs Qd :=
  goes_by (n := xs.length) Pv h0 (fun H p => ⟨⟨xs, hl _ H (Nat.le_refl _) p, Nat.le_refl _⟩, hd H p⟩) fun i H lt p =>
    have stays := hl i H (Nat.le_of_lt lt) p
    ⟨⟨xs, _, stays, List.getElem?_eq_getElem lt⟩, fun x _ y => y.1 ▸ hs i x H (y.2 xs stays) p⟩
theorem wk_list {K : PySem.W.Frag} {a : Addr} {xs : List V} {Body : V → Hp → (Hp → Prop) → Prop} {Hs : Hp} {Qd : Hp → Prop} (Pv : Nat → Hp → Prop) (h0 : Pv 0 Hs) (hl : ∀ i H, i ≤ xs.length → Pv i H → SqL K H a xs)
    (hs : ∀ i x H, xs[i]? = some x → Pv i H → Body x H (Pv (i + 1))) (hd : ∀ H, Pv xs.length H → Qd H) : Goes (Itl K a) Body Hs Qd :=
  goes_by (n := xs.length) Pv h0 (fun H p => ⟨⟨xs, hl _ H (Nat.le_refl _) p, Nat.le_refl _⟩, hd H p⟩) fun i H lt p =>
    have stays := hl i H (Nat.le_of_lt lt) p
    ⟨⟨xs, _, stays, List.getElem?_eq_getElem lt⟩, fun x _ y => y.1 ▸ hs i x H (y.2 xs stays) p⟩
theorem wk_range {lo : Int} {n : Nat} {Body : V → Hp → (Hp → Prop) → Prop} {Hs : Hp} {Qd : Hp → Prop} (Pv : Nat → Hp → Prop) (h0 : Pv 0 Hs)
    (hs : ∀ i H, i < n → Pv i H → Body (.int (lo + i)) H (Pv (i + 1))) (hd : ∀ H, Pv n H → Qd H) : Goes (Itr lo n) Body Hs Qd :=
  goes_by Pv h0 (fun H p => ⟨Nat.le_refl n, hd H p⟩) fun i H lt p => ⟨lt, fun _ _ y => y.1 ▸ y.2 ▸ hs i H lt p⟩
theorem yes_ok2 {σ : L2.St} {H : Hp} {X Z : Hp → Prop} (h : X H) : tYes σ H (fun b H3 => if b = true then X H3 else Z H3) := by
  show if true = true then X H else Z H
  rw [if_pos rfl]
  exact h
def dwg : List RW → List Int
  | [] => []
  | r :: t => List.replicate r.2.toNat r.1 ++ dwg t
theorem dwg_append (a b : List RW) : dwg (a ++ b) = dwg a ++ dwg b := by
  induction a with
  | nil => rfl
  | cons r t ih => rw [List.cons_append, dwg, dwg, ih, List.append_assoc]
theorem dwg_len : ∀ {rs : List RW}, (∀ r ∈ rs, VRow r) → ((dwg rs).length : Int) = tot rs
  | [], _ => rfl
  | r :: t, v => by
    have v1 := v r (List.mem_cons_self ..)
    have ih := dwg_len (rs := t) fun q hq => v q (List.mem_cons_of_mem _ hq)
    rw [dwg, List.length_append, List.length_replicate, tot_cons]
    obtain ⟨_, _, h3, _⟩ := v1
    omega
theorem dwg_at : ∀ {rs : List RW} {i : Nat}, (∀ r ∈ rs, VRow r) → (i : Int) < tot rs → (dwg rs)[i]? = some (walk rs i)
  | [], i, _, h => by
    rw [tot_nil] at h
    omega
  | r :: t, i, v, h => by
    have v1 := v r (List.mem_cons_self ..)
    have vt : ∀ q ∈ t, VRow q := fun q hq => v q (List.mem_cons_of_mem _ hq)
    obtain ⟨_, _, h3, _⟩ := v1
    rw [tot_cons] at h
    rw [dwg]
    unfold walk
    by_cases c : (i : Int) < r.2
    · rw [if_pos c, List.getElem?_append_left (by rw [List.length_replicate]; omega), List.getElem?_replicate, if_pos (by omega)]
    · rw [if_neg c, List.getElem?_append_right (by rw [List.length_replicate]; omega), List.length_replicate]
      have := dwg_at (rs := t) (i := i - r.2.toNat) vt (by omega)
      rw [this]
      congr 2
      omega
theorem walk_cons (r : RW) (t : List RW) (m : Int) : walk (r :: t) m = if m < r.2 then r.1 else walk t (m - r.2) := rfl
theorem walk_append : ∀ {a b : List RW} {m : Int}, (∀ r ∈ a, VRow r) → 0 ≤ m → walk (a ++ b) m = if m < tot a then walk a m else walk b (m - tot a)
  | [], b, m, _, h => by
    rw [tot_nil, if_neg (by omega), List.nil_append, show m - 0 = m by omega]
  | r :: t, b, m, v, h => by
    have v1 := v r (List.mem_cons_self ..)
    have vt : ∀ q ∈ t, VRow q := fun q hq => v q (List.mem_cons_of_mem _ hq)
    have t0 := (tot_nonneg vt).1
    obtain ⟨_, _, h3, _⟩ := v1
    rw [List.cons_append, tot_cons, walk_cons, walk_cons]
    by_cases c : m < r.2
    · rw [if_pos c, if_pos (by omega), if_pos c]
    · rw [if_neg c, walk_append vt (by omega), if_neg c]
      by_cases d : m < r.2 + tot t
      · rw [if_pos d, if_pos (by omega)]
      · rw [if_neg d, if_neg (by omega), show m - r.2 - tot t = m - (r.2 + tot t) by omega]
theorem rep_at {α : Type} {B : List α} (hB : 0 < B.length) : ∀ (t j : Nat), j < t * B.length → (List.replicate t B).flatten[j]? = B[j % B.length]?
  | 0, j, h => by omega
  | t + 1, j, h => by
    rw [List.replicate_succ, List.flatten_cons]
    by_cases c : j < B.length
    · rw [List.getElem?_append_left c, Nat.mod_eq_of_lt c]
    · rw [List.getElem?_append_right (by omega), rep_at hB t (j - B.length) (by rw [Nat.add_mul, Nat.one_mul] at h; omega), ← Nat.mod_eq_sub_mod (by omega)]
/-- what a layer shows: ahead once, around again and again -/
def ahL (rs : List RW) : Option Int → List Int
  | none => dwg rs
  | some b => dwg (rs.take b.toNat)
def arL (rs : List RW) : Option Int → List Int
  | none => [0]
  | some b => dwg (rs.drop b.toNat)
theorem VRows.takeV {rs : List RW} (v : VRows rs) (k : Nat) : VRows (rs.take k) := ⟨by rw [List.length_take]; have := v.1; omega, fun r hr => v.2 r (List.mem_of_mem_take hr)⟩
theorem VRows.dropV {rs : List RW} (v : VRows rs) (k : Nat) : VRows (rs.drop k) := ⟨by rw [List.length_drop]; have := v.1; omega, fun r hr => v.2 r (List.mem_of_mem_drop hr)⟩
theorem ahL_len {rs : List RW} {bk : Option Int} (v : VRows rs) : (ahL rs bk).length ≤ 192 := by
  cases bk with
  | none =>
    have h := dwg_len v.2
    have t := (tot_nonneg v.2).2
    have := v.1
    show (dwg rs).length ≤ 192
    omega
  | some b =>
    have h := dwg_len (v.takeV b.toNat).2
    have t := (tot_nonneg (v.takeV b.toNat).2).2
    have := (v.takeV b.toNat).1
    show (dwg (rs.take b.toNat)).length ≤ 192
    omega
theorem arL_len {rs : List RW} {bk : Option Int} (v : VRows rs) (vb : VBack rs bk) : 1 ≤ (arL rs bk).length ∧ (arL rs bk).length ≤ 192 := by
  cases bk with
  | none => exact ⟨Nat.le_refl _, by show 1 ≤ 192; omega⟩
  | some b =>
    have hb := vb b rfl
    have h := dwg_len (v.dropV b.toNat).2
    have t := tot_nonneg (v.dropV b.toNat).2
    have := v.1
    rw [List.length_drop] at t
    show 1 ≤ (dwg (rs.drop b.toNat)).length ∧ (dwg (rs.drop b.toNat)).length ≤ 192
    omega
theorem shown_lay {rs : List RW} {bk : Option Int} (v : VRows rs) (vb : VBack rs bk) (i : Nat) :
    some (shown rs bk i) = if i < (ahL rs bk).length then (ahL rs bk)[i]? else (arL rs bk)[(i - (ahL rs bk).length) % (arL rs bk).length]? := by
  cases bk with
  | none =>
    have h := dwg_len v.2
    show some (walk rs i) = if i < (dwg rs).length then (dwg rs)[i]? else ([0] : List Int)[(i - (dwg rs).length) % 1]?
    by_cases c : i < (dwg rs).length
    · rw [if_pos c, dwg_at v.2 (by omega)]
    · rw [if_neg c, walk_out rs i (by omega) v.2, Nat.mod_one]
      rfl
  | some b =>
    have hb := vb b rfl
    have h := dwg_len (v.takeV b.toNat).2
    have h2 := dwg_len (v.dropV b.toNat).2
    have t2 := (tot_nonneg (v.dropV b.toNat).2).1
    rw [List.length_drop] at t2
    have cpos : 0 < tot (rs.drop b.toNat) := by omega
    show some (walk rs (if (i : Int) < tot (rs.take b.toNat) then (i : Int) else tot (rs.take b.toNat) + ((i : Int) - tot (rs.take b.toNat)) % tot (rs.drop b.toNat))) = if i < (dwg (rs.take b.toNat)).length then (dwg (rs.take b.toNat))[i]? else (dwg (rs.drop b.toNat))[(i - (dwg (rs.take b.toNat)).length) % (dwg (rs.drop b.toNat)).length]?
    have wa := fun m h0 => walk_append (a := rs.take b.toNat) (b := rs.drop b.toNat) (m := m) (v.takeV b.toNat).2 h0
    rw [List.take_append_drop] at wa
    by_cases c : i < (dwg (rs.take b.toNat)).length
    · rw [if_pos c, if_pos (by omega), wa _ (by omega), if_pos (by omega), dwg_at (v.takeV b.toNat).2 (by omega)]
    · have m0 := Int.emod_nonneg ((i : Int) - tot (rs.take b.toNat)) (show tot (rs.drop b.toNat) ≠ 0 by omega)
      have m1 := Int.emod_lt_of_pos ((i : Int) - tot (rs.take b.toNat)) cpos
      have t1 := (tot_nonneg (v.takeV b.toNat).2).1
      have em : (((i - (dwg (rs.take b.toNat)).length) % (dwg (rs.drop b.toNat)).length : Nat) : Int) = ((i : Int) - tot (rs.take b.toNat)) % tot (rs.drop b.toNat) := by
        rw [Int.natCast_emod, h2, Int.natCast_sub (by omega), h]
      rw [if_neg c, if_neg (by omega), wa _ (by omega), if_neg (by omega), dwg_at (v.dropV b.toNat).2 (by omega), em]
      congr 2
      omega
def laysI (rs : List RW) (bk : Option Int) (n : Nat) : List Int := (List.range n).map fun i => shown rs bk (i : Nat)
theorem laysI_map (rs : List RW) (bk : Option Int) (n : Nat) : lays rs bk n = (laysI rs bk n).map V.int := by
  unfold lays laysI
  rw [List.map_map]
  rfl
theorem first_lay {rs : List RW} {bk : Option Int} (v : VRows rs) (vb : VBack rs bk) {n t : Nat} (ht : n ≤ (ahL rs bk).length + t * (arL rs bk).length) :
    ((ahL rs bk) ++ (List.replicate t (arL rs bk)).flatten).take n = laysI rs bk n := by
  have hp := (arL_len v vb).1
  apply List.ext_getElem?
  intro i
  unfold laysI
  by_cases hi : i < n
  · rw [List.getElem?_take_of_lt hi, List.getElem?_map, List.getElem?_range hi]
    show _ = some (shown rs bk (i : Nat))
    rw [shown_lay v vb]
    by_cases c : i < (ahL rs bk).length
    · rw [if_pos c, List.getElem?_append_left c]
    · rw [if_neg c, List.getElem?_append_right (by omega), rep_at (by omega) t _ (by omega)]
  · rw [List.getElem?_eq_none (by rw [List.length_take]; omega), List.getElem?_eq_none (by rw [List.length_map, List.length_range]; omega)]
/-! ### data that is compared -/
mutual
def nb : PyData → Bool
  | .none => true
  | .int _ => true
  | .str x => PyData.strOk x
  | .bool _ => false
  | .list xs => nbs xs
  | .tuple xs => nbs xs
  | .dict _ => false
def nbs : List PyData → Bool
  | [] => true
  | x :: xs => nb x && nbs xs
end
theorem nbs_all : ∀ {xs : List PyData}, (∀ x ∈ xs, nb x = true) → nbs xs = true
  | [], _ => rfl
  | x :: xs, h => by
    show (nb x && nbs xs) = true
    rw [h x (List.mem_cons_self ..), nbs_all fun y hy => h y (List.mem_cons_of_mem _ hy)]
    rfl
mutual
theorem nb_can : ∀ d : PyData, nb d = true → d.canLay0 = true
  | .none, _ => rfl
  | .int _, _ => rfl
  | .str x, h => h
  | .bool _, h => nomatch h
  | .list xs, h => nbs_can xs h
  | .tuple xs, h => nbs_can xs h
  | .dict _, h => nomatch h
theorem nbs_can : ∀ xs : List PyData, nbs xs = true → PyData.canLayAll0 xs = true
  | [], _ => rfl
  | x :: xs, h => by
    have h' : (nb x && nbs xs) = true := h
    rw [Bool.and_eq_true] at h'
    show (x.canLay0 && PyData.canLayAll0 xs) = true
    rw [nb_can x h'.1, nbs_can xs h'.2]
    rfl
end
mutual
theorem nb_eq : ∀ d e : PyData, nb d = true → nb e = true → (PyData.eqv d e = true → d = e)
  | .none, e, _, h => by cases e <;> first | (intro _; rfl) | (intro z; cases z) | (cases h)
  | .int i, e, _, h => by
    cases e <;> first | (intro z; cases z) | (cases h) | skip
    intro z
    rw [PyData.eqv] at z
    rw [eq_of_beq z]
  | .str x, e, _, h => by
    cases e <;> first | (intro z; cases z) | (cases h) | skip
    intro z
    rw [PyData.eqv] at z
    rw [eq_of_beq z]
  | .bool _, _, h, _ => nomatch h
  | .list xs, e, h0, h => by
    cases e <;> first | (intro z; cases z) | (cases h) | skip
    intro z
    rw [PyData.eqv] at z
    rw [nbs_eq xs _ h0 h z]
  | .tuple xs, e, h0, h => by
    cases e <;> first | (intro z; cases z) | (cases h) | skip
    intro z
    rw [PyData.eqv] at z
    rw [nbs_eq xs _ h0 h z]
  | .dict _, _, h, _ => nomatch h
theorem nbs_eq : ∀ xs ys : List PyData, nbs xs = true → nbs ys = true → (PyData.eqvAll xs ys = true → xs = ys)
  | [], [], _, _ => fun _ => rfl
  | [], _ :: _, _, _ => fun z => nomatch z
  | _ :: _, [], _, _ => fun z => nomatch z
  | x :: xs, y :: ys, h0, h => by
    intro z
    have h0' : (nb x && nbs xs) = true := h0
    have h' : (nb y && nbs ys) = true := h
    rw [Bool.and_eq_true] at h0' h'
    rw [PyData.eqvAll, Bool.and_eq_true] at z
    rw [nb_eq x y h0'.1 h'.1 z.1, nbs_eq xs ys h0'.2 h'.2 z.2]
end
theorem nb_eqv {d e : PyData} (h0 : nb d = true) (h : nb e = true) : PyData.eqv d e = true ↔ d = e :=
  ⟨nb_eq d e h0 h, fun z => by rw [z]; exact SeqAt.eqv_refl e (nb_can e h)⟩
/-- may be compared: depth at most k -/
structure Sd (k : Nat) (d : PyData) : Prop where
  nb : nb d = true
  dp : d.depth ≤ k
theorem Sd.int {k : Nat} (i : Int) : Sd k (.int i) := ⟨rfl, Nat.zero_le _⟩
theorem Sd.none {k : Nat} : Sd k .none := ⟨rfl, Nat.zero_le _⟩
theorem Sd.more {k k' : Nat} {d : PyData} (h : Sd k d) (h1 : k ≤ k') : Sd k' d := ⟨h.nb, Nat.le_trans h.dp h1⟩
theorem sd_all {k : Nat} : ∀ {ds : List PyData}, (∀ e ∈ ds, Sd k e) → PyData.depthAll ds ≤ k
  | [], _ => Nat.zero_le _
  | d :: t, h => Nat.max_le.mpr ⟨(h d (List.mem_cons_self ..)).dp, sd_all fun x hx => h x (List.mem_cons_of_mem _ hx)⟩
theorem Sd.tup {k : Nat} {ds : List PyData} (h : ∀ e ∈ ds, Sd k e) : Sd (k + 1) (.tuple ds) := ⟨nbs_all fun x hx => (h x hx).nb, Nat.succ_le_succ (sd_all h)⟩
theorem Sd.lst {k : Nat} {ds : List PyData} (h : ∀ e ∈ ds, Sd k e) : Sd (k + 1) (.list ds) := ⟨nbs_all fun x hx => (h x hx).nb, Nat.succ_le_succ (sd_all h)⟩
theorem Sd.sh {k : Nat} {d : PyData} (h : Sd k d) (hk : k ≤ 64) : SeqAt.shaped d = true := by
  show (d.canLay0 && decide (d.depth ≤ 64)) = true
  rw [nb_can d h.nb, decide_eq_true (Nat.le_trans h.dp hk)]
  rfl
theorem Sd.ints {ns : List Int} : Sd 1 (.list (ns.map .int)) := Sd.lst fun e he => by
  obtain ⟨i, _, rfl⟩ := List.mem_map.mp he
  exact Sd.int i
theorem Sd.intsT {ns : List Int} : Sd 1 (.tuple (ns.map .int)) := Sd.tup fun e he => by
  obtain ⟨i, _, rfl⟩ := List.mem_map.mp he
  exact Sd.int i
theorem ints_inj {ns ms : List Int} : ns.map PyData.int = ms.map PyData.int ↔ ns = ms :=
  ⟨fun h => List.map_inj_right (fun _ _ e => PyData.int.inj e) |>.mp h, fun h => by rw [h]⟩
theorem eqv_ints (ns ms : List Int) : PyData.eqv (.list (ns.map .int)) (.list (ms.map .int)) = decide (ns = ms) := by
  have h := nb_eqv (Sd.ints (ns := ns)).nb (Sd.ints (ns := ms)).nb
  by_cases e : ns = ms
  · rw [decide_eq_true e]
    exact h.mpr (by rw [e])
  · rw [decide_eq_false e]
    exact Bool.eq_false_iff.mpr fun z => e (ints_inj.mp (PyData.list.inj (h.mp z)))
/-- x != y of data: the readings -/
theorem ne_data {K : PySem.W.Frag} {H : Hp} {x y : V} {d e : PyData} {k : Nat} {Q : VK} (hx : Dp K H x d) (hy : Dp K H y e) (sd : Sd k d) (se : Sd k e) (hk : k ≤ 64) (q : ∀ b : Bool, (b = true ↔ d = e) → Q (.bl (!b)) H) : rNeD K x y H Q :=
  ⟨d, e, hx, hy, sd.sh hk, se.sh hk, q _ (nb_eqv sd.nb se.nb)⟩
theorem ne_same {K : PySem.W.Frag} {H : Hp} {x y : V} {d : PyData} {k : Nat} {Q : VK} (hx : Dp K H x d) (hy : Dp K H y d) (sd : Sd k d) (hk : k ≤ 64) (q : Q (.bl false) H) : rNeD K x y H Q :=
  ⟨d, d, hx, hy, sd.sh hk, sd.sh hk, by rw [(nb_eqv sd.nb sd.nb).mpr rfl]; exact q⟩
theorem eq_data {K : PySem.W.Frag} {H : Hp} {x y : V} {d e : PyData} {k : Nat} {Q : VK} (hx : Dp K H x d) (hy : Dp K H y e) (sd : Sd k d) (se : Sd k e) (hk : k ≤ 64) (q : ∀ b : Bool, (b = true ↔ d = e) → Q (.bl b) H) : rEqD K x y H Q :=
  ⟨d, e, hx, hy, sd.sh hk, se.sh hk, q _ (nb_eqv sd.nb se.nb)⟩
theorem ne_ints {K : PySem.W.Frag} {H : Hp} {x y : Addr} {ns ms : List Int} {Q : VK} (hx : SqL K H x (ns.map V.int)) (hy : SqL K H y (ms.map V.int)) (q : Q (.bl (!decide (ns = ms))) H) : rNeD K (.ref x) (.ref y) H Q :=
  ⟨_, _, .lst hx (ints_dp _), .lst hy (ints_dp _), Sd.ints.sh (by decide), Sd.ints.sh (by decide), by rw [eqv_ints]; exact q⟩
theorem ints_dpl {K : PySem.W.Frag} {H : Hp} {p : Addr} {ns : List Int} (h : SqL K H p (ns.map V.int)) : Dp K H (.ref p) (.list (ns.map .int)) := .lst h (ints_dp _)
theorem while_R {c : TT} {tb : TS} {D : Ends} {σ : L2.St} {H : Hp} (Pv : L2.St → Hp → Prop) (μ : L2.St → Hp → Nat) (h0 : Pv σ H)
    (hs : ∀ σ H, Pv σ H → ∀ R : Bool → Hp → Prop, (∀ H1, tb { D with nx := fun σ' H' => Pv σ' H' ∧ μ σ' H' < μ σ H, ct := fun σ' H' => Pv σ' H' ∧ μ σ' H' < μ σ H, bk := D.nx } σ H1 → R true H1) → (∀ H1, D.nx σ H1 → R false H1) → c σ H R) : tWhile c tb D σ H := by
  refine ⟨fun m σ H => m = μ σ H ∧ Pv σ H, ⟨_, rfl, h0⟩, ?_⟩
  rintro m σ H ⟨rfl, p⟩
  refine hs σ H p _ (fun H1 h => ?_) (fun H1 h => ?_)
  · show if true = true then _ else _
    rw [if_pos rfl]
    exact ⟨_, fun σ' H' ⟨p', l⟩ => ⟨_, l, rfl, p'⟩, h⟩
  · show if false = true then _ else _
    rw [if_neg (by decide)]
    exact h
/-! ### what comes again and again -/
section
variable {f : Nat → Int}
theorem per_mul {A m : Nat} (h : ∀ t, A ≤ t → f (t + m) = f t) : ∀ (k t : Nat), A ≤ t → f (t + m * k) = f t
  | 0, t, _ => by rw [Nat.mul_zero, Nat.add_zero]
  | k + 1, t, ht => by rw [Nat.mul_succ, ← Nat.add_assoc, h _ (by omega), per_mul h k t ht]
theorem per_mod {A m n : Nat} (h : ∀ t, A ≤ t → f (t + m) = f t) (h' : ∀ t, A ≤ t → f (t + n) = f t) : ∀ t, A ≤ t → f (t + n % m) = f t := fun t ht => by
  rw [← per_mul h (n / m) _ (show A ≤ t + n % m by omega), Nat.add_assoc, Nat.mod_add_div, h' t ht]
theorem per_ev {A c m B : Nat} (hc : 1 ≤ c) (hp : ∀ t, A ≤ t → f (t + c) = f t) (h : ∀ t, B ≤ t → f (t + m) = f t) : ∀ t, A ≤ t → f (t + m) = f t := fun t ht => by
  have hb : B ≤ c * B := Nat.le_mul_of_pos_left B hc
  rw [← per_mul hp B t ht, ← h (t + c * B) (by omega), ← per_mul hp B (t + m) (by omega)]
  congr 1
  omega
/-- the least round -/
structure Lst (f : Nat → Int) (a m : Nat) : Prop where
  m1 : 1 ≤ m
  per : ∀ t, a ≤ t → f (t + m) = f t
  dvd : ∀ n B, (∀ t, B ≤ t → f (t + n) = f t) → m ∣ n
  fst : ∀ b, b + 1 = a → f (b + m) ≠ f b
theorem ex_least {A c : Nat} (hc : 1 ≤ c) (hp : ∀ t, A ≤ t → f (t + c) = f t) : ∃ m, 1 ≤ m ∧ m ≤ c ∧ (∀ t, A ≤ t → f (t + m) = f t) ∧ ∀ k, 1 ≤ k → (∀ t, A ≤ t → f (t + k) = f t) → m ≤ k := by
  induction c using Nat.strongRecOn with
  | ind c ih =>
    by_cases h : ∃ k, 1 ≤ k ∧ k < c ∧ ∀ t, A ≤ t → f (t + k) = f t
    · obtain ⟨k, k1, kc, kp⟩ := h
      obtain ⟨m, m1, mk, r⟩ := ih k kc k1 kp
      exact ⟨m, m1, by omega, r⟩
    · refine ⟨c, hc, Nat.le_refl _, hp, fun k k1 kp => ?_⟩
      exact Nat.le_of_not_lt fun z => h ⟨k, k1, z, kp⟩
/-- the least many, then the least ahead -/
theorem lst_of {A c m a : Nat} (hc : 1 ≤ c) (hp : ∀ t, A ≤ t → f (t + c) = f t) (m1 : 1 ≤ m) (hm : ∀ t, A ≤ t → f (t + m) = f t) (least : ∀ k, 1 ≤ k → k < m → c % k = 0 → ¬ ∀ t, A ≤ t → f (t + k) = f t)
    (ha : a ≤ A) (hb : ∀ t, a ≤ t → t < A → f (t + m) = f t) (hf : ∀ b, b + 1 = a → f (b + m) ≠ f b) : Lst f a m := by
  obtain ⟨n, n1, nc, np, nl⟩ := ex_least hc hp
  have div : ∀ k, (∀ t, A ≤ t → f (t + k) = f t) → n ∣ k := fun k kp => by
    apply Nat.dvd_of_mod_eq_zero
    rcases Nat.eq_zero_or_pos (k % n) with z | z
    · exact z
    · have := nl (k % n) z (per_mod np kp)
      have := Nat.mod_lt k (show 0 < n by omega)
      omega
  have e : m = n := by
    have h1 := Nat.le_of_dvd (by omega) (div m hm)
    rcases Nat.lt_or_ge n m with z | z
    · exact absurd np (least n n1 z (Nat.mod_eq_zero_of_dvd (div c hp)))
    · omega
  subst e
  refine ⟨m1, fun t ht => ?_, fun k B h => div k (per_ev hc hp h), hf⟩
  rcases Nat.lt_or_ge t A with z | z
  · exact hb t ht z
  · exact hm t z
theorem Lst.uniq {a m a' m' : Nat} (h : Lst f a m) (h' : Lst f a' m') : a = a' ∧ m = m' := by
  have e : m = m' := Nat.dvd_antisymm (h.dvd m' a' h'.per) (h'.dvd m a h.per)
  subst e
  refine ⟨?_, rfl⟩
  rcases Nat.lt_trichotomy a a' with z | z | z
  · exact absurd (h.per (a' - 1) (by omega)) (h'.fst (a' - 1) (by omega))
  · exact z
  · exact absurd (h'.per (a - 1) (by omega)) (h.fst (a - 1) (by omega))
/-- rounds by the least one -/
theorem Lst.iff {a m : Nat} (h : Lst f a m) (b n : Nat) (n1 : 1 ≤ n) : (∀ t, b ≤ t → f (t + n) = f t) ↔ a ≤ b ∧ m ∣ n := by
  constructor
  · intro hp
    have d := h.dvd n b hp
    refine ⟨?_, d⟩
    rcases Nat.lt_or_ge b a with z | z
    · obtain ⟨k, rfl⟩ := d
      have k1 : 1 ≤ k := by
        rcases Nat.eq_zero_or_pos k with z | z
        · rw [z] at n1
          omega
        · exact z
      exfalso
      refine h.fst (a - 1) (by omega) ?_
      have e := hp (a - 1) (by omega)
      have e2 := per_mul h.per (k - 1) (a - 1 + m) (by have := h.m1; omega)
      rw [show a - 1 + m + m * (k - 1) = a - 1 + m * k by
        obtain ⟨j, rfl⟩ : ∃ j, k = j + 1 := ⟨k - 1, by omega⟩
        rw [Nat.add_sub_cancel, Nat.mul_succ]
        omega, e] at e2
      exact e2.symm
    · exact z
  · rintro ⟨z, k, rfl⟩ t ht
    exact per_mul h.per k t (by omega)
def seg (f : Nat → Int) (A c : Nat) : List Int := (List.range c).map fun j => f (A + j)
theorem seg_len (A c : Nat) : (seg f A c).length = c := by
  unfold seg
  rw [List.length_map, List.length_range]
theorem seg_at {A c i : Nat} (h : i < c) : (seg f A c)[i]? = some (f (A + i)) := by
  unfold seg
  rw [List.getElem?_map, List.getElem?_range h]
  rfl
theorem rot_at {A c m j : Nat} (hp : ∀ t, A ≤ t → f (t + c) = f t) (hm : m ≤ c) (hj : j < c) : ((seg f A c).drop m ++ (seg f A c).take m)[j]? = some (f (A + j + m)) := by
  by_cases h : j < c - m
  · rw [List.getElem?_append_left (by rw [List.length_drop, seg_len]; exact h), List.getElem?_drop, seg_at (by omega)]
    congr 2
    omega
  · rw [List.getElem?_append_right (by rw [List.length_drop, seg_len]; omega), List.length_drop, seg_len, List.getElem?_take_of_lt (by omega), seg_at (by omega), ← hp _ (by omega)]
    congr 2
    omega
theorem rot_iff {A c m : Nat} (hc : 1 ≤ c) (hp : ∀ t, A ≤ t → f (t + c) = f t) (hm : m ≤ c) : (seg f A c).drop m ++ (seg f A c).take m = seg f A c ↔ ∀ t, A ≤ t → f (t + m) = f t := by
  constructor
  · intro h t ht
    have l := Nat.mod_lt (t - A) (show 0 < c by omega)
    have e := rot_at hp hm l
    rw [h, seg_at l] at e
    have e1 := Option.some.inj e
    have q := Nat.mod_add_div (t - A) c
    have e2 := per_mul hp ((t - A) / c) (A + (t - A) % c) (by omega)
    have e3 := per_mul hp ((t - A) / c) (A + (t - A) % c + m) (by omega)
    rw [show A + (t - A) % c + c * ((t - A) / c) = t by omega] at e2
    rw [show A + (t - A) % c + m + c * ((t - A) / c) = t + m by omega] at e3
    rw [e2, e3]
    exact e1.symm
  · intro h
    apply List.ext_getElem?
    intro i
    by_cases hi : i < c
    · rw [rot_at hp hm hi, seg_at hi, h _ (by omega)]
    · rw [List.getElem?_eq_none (by rw [List.length_append, List.length_drop, List.length_take, seg_len]; omega), List.getElem?_eq_none (by rw [seg_len]; omega)]
end
/-- what a layer shows, by the moment -/
def shN (rs : List RW) (bk : Option Int) (t : Nat) : Int := shown rs bk (t : Nat)
theorem shN_per {rs : List RW} {bk : Option Int} (v : VRows rs) (vb : VBack rs bk) : ∀ t, (ahL rs bk).length ≤ t → shN rs bk (t + (arL rs bk).length) = shN rs bk t := fun t ht => by
  have e1 := shown_lay v vb t
  have e2 := shown_lay v vb (t + (arL rs bk).length)
  rw [if_neg (by omega)] at e1 e2
  rw [show t + (arL rs bk).length - (ahL rs bk).length = t - (ahL rs bk).length + (arL rs bk).length by omega, Nat.add_mod_right] at e2
  exact Option.some.inj (e2.trans e1.symm)
theorem arL_seg {rs : List RW} {bk : Option Int} (v : VRows rs) (vb : VBack rs bk) : arL rs bk = seg (shN rs bk) (ahL rs bk).length (arL rs bk).length := by
  apply List.ext_getElem?
  intro i
  by_cases hi : i < (arL rs bk).length
  · rw [seg_at hi]
    show _ = some (shown rs bk (((ahL rs bk).length + i : Nat) : Int))
    rw [shown_lay v vb, if_neg (by omega), Nat.add_sub_cancel_left, Nat.mod_eq_of_lt hi]
  · rw [List.getElem?_eq_none (by omega), List.getElem?_eq_none (by rw [seg_len]; omega)]
theorem aa_at {rs : List RW} {bk : Option Int} (v : VRows rs) (vb : VBack rs bk) {i : Nat} (h : i < (ahL rs bk).length + (arL rs bk).length) : (ahL rs bk ++ arL rs bk)[i]? = some (shN rs bk i) := by
  show _ = some (shown rs bk (i : Nat))
  rw [shown_lay v vb]
  by_cases c : i < (ahL rs bk).length
  · rw [if_pos c, List.getElem?_append_left c]
  · rw [if_neg c, List.getElem?_append_right (by omega), Nat.mod_eq_of_lt (by omega)]
/-! ### helpers of the laws over rounds -/
theorem Paired.appP {α β : Type} {F : α → β → Prop} : ∀ {l₁ m₁ : List α} {l₂ m₂ : List β}, Paired F l₁ l₂ → Paired F m₁ m₂ → Paired F (l₁ ++ m₁) (l₂ ++ m₂)
  | _, _, _, _, .nil, h => h
  | _, _, _, _, .cons r t, h => .cons r (Paired.appP t h)
theorem Paired.repP {α β : Type} {F : α → β → Prop} {l₁ : List α} {l₂ : List β} (h : Paired F l₁ l₂) : ∀ n, Paired F (List.replicate n l₁).flatten (List.replicate n l₂).flatten
  | 0 => .nil
  | n + 1 => by
    rw [List.replicate_succ, List.replicate_succ, List.flatten_cons, List.flatten_cons]
    exact Paired.appP h (Paired.repP h n)
theorem mem_rep {α : Type} {l : List α} {x : α} {n : Nat} (h : x ∈ (List.replicate n l).flatten) : x ∈ l := by
  obtain ⟨m, hm, hx⟩ := List.mem_flatten.mp h
  rw [(List.mem_replicate.mp hm).2] at hx
  exact hx
theorem len_rep {α : Type} {l : List α} {n : Nat} : (List.replicate n l).flatten.length = n * l.length := by
  rw [List.length_flatten, List.map_replicate, List.sum_replicate_nat]
theorem cut_mid {xs : List V} {a b : Nat} (h : a ≤ b) (h2 : b ≤ xs.length) : cutV xs (some (a : Int)) (some (b : Int)) = (xs.drop a).take (b - a) := by
  unfold cutV
  rw [HT.sIx_nat, HT.sIx_nat, Nat.min_eq_left h2, Nat.min_eq_left (show a ≤ xs.length by omega)]
theorem lays_cut {rs : List RW} {bk : Option Int} {n a b : Nat} (h : a ≤ b) (h2 : b ≤ n) : cutV (lays rs bk n) (some (a : Int)) (some (b : Int)) = (seg (shN rs bk) a (b - a)).map V.int := by
  rw [cut_mid h (by rw [lays_len]; exact h2)]
  apply List.ext_getElem?
  intro i
  by_cases hi : i < b - a
  · rw [List.getElem?_take_of_lt hi, List.getElem?_drop, lays_at (by omega), List.getElem?_map, seg_at hi]
    rfl
  · rw [List.getElem?_eq_none (by rw [List.length_take]; omega), List.getElem?_eq_none (by rw [List.length_map, seg_len]; omega)]
theorem cut_opt {rs : List RW} {bk : Option Int} (vb : VBack rs bk) (xs : List V) : cutV xs none bk = match bk with | none => xs | some b => xs.take b.toNat := by
  cases bk with
  | none => exact cut_all xs
  | some b =>
    have hb := vb b rfl
    obtain ⟨k, rfl⟩ : ∃ k : Nat, b = (k : Int) := ⟨b.toNat, by omega⟩
    exact cut_to xs k
def ahd (rs : List RW) : Option Int → List RW
  | none => rs
  | some b => rs.take b.toNat
def siz (rs : List RW) : Option Int → Int
  | none => 1
  | some b => tot (rs.drop b.toNat)
theorem siz_pos {rs : List RW} {bk : Option Int} (v : VRows rs) (vb : VBack rs bk) : 1 ≤ siz rs bk ∧ siz rs bk ≤ 192 := by
  obtain ⟨v8, vr⟩ := v
  cases bk with
  | none => exact ⟨by show (1 : Int) ≤ 1; omega, by show (1 : Int) ≤ 192; omega⟩
  | some b =>
    have hb := vb b rfl
    have := tot_nonneg (rs := rs.drop b.toNat) fun q hq => vr q (List.mem_of_mem_drop hq)
    rw [List.length_drop] at this
    obtain ⟨t1, t2⟩ := this
    constructor
    · show 1 ≤ tot (rs.drop b.toNat)
      omega
    · show tot (rs.drop b.toNat) ≤ 192
      omega
theorem siz_len {rs : List RW} {bk : Option Int} (v : VRows rs) : siz rs bk = ((arL rs bk).length : Int) := by
  cases bk with
  | none => rfl
  | some b => exact (dwg_len (v.dropV b.toNat).2).symm
theorem ahL_tot {rs : List RW} {bk : Option Int} (v : VRows rs) : ((ahL rs bk).length : Int) ≤ tot rs := by
  cases bk with
  | none => exact Int.le_of_eq (dwg_len v.2)
  | some b =>
    show ((dwg (rs.take b.toNat)).length : Int) ≤ tot rs
    have h := dwg_len (v.takeV b.toNat).2
    have s := tot_split rs b.toNat
    have t := (tot_nonneg (v.dropV b.toNat).2).1
    omega
/-- by the whole length and the round's size -/
theorem per_whole {rs : List RW} {bk : Option Int} (v : VRows rs) (vb : VBack rs bk) {W c : Nat} (hW : (W : Int) = tot rs) (hc : (c : Int) = siz rs bk) : ∀ t, W ≤ t → shN rs bk (t + c) = shN rs bk t := fun t ht => by
  have e := siz_len (bk := bk) v
  have a := ahL_tot (bk := bk) v
  rw [show c = (arL rs bk).length by omega]
  exact shN_per v vb t (by omega)
theorem Gr.keepRow {st : Addr} {K : PySem.W.Frag} {H H' : Hp} (g : Gr st H H') (s : IsSt H st) {vs : List V} {rs : List RW} (p : Paired (RowAt K H) vs rs) : Paired (RowAt K H') vs rs := Paired.mono p fun _ _ => RowAt.keep (g.tk s)
theorem gr_upd {st D : Addr} {H0 H : Hp} {o : HO} (g : Gr st H0 H) (n0 : H0 D = none) (nD : D ≠ st) : Gr st H0 (upd H D o) :=
  ⟨fun b x nb e => by rw [upd_ne (ne_of_none e n0)]; exact g.1 b x nb e, fun hz => by
    obtain ⟨x, y, hx, hxy⟩ := g.2 hz
    exact ⟨x, y, by rw [upd_ne (Ne.symm nD)]; exact hx, hxy⟩⟩
/-! ### rounds of sheets -/
def plN (x y : Int) (ms : List MV) (t : Nat) : RW × RW := plc x y ms (t : Int)
theorem rwD_inj {r s : RW} (h : rwD r = rwD s) : r = s := by
  have e := PyData.tuple.inj h
  injection e with e1 e2
  injection e2 with e2 _
  exact Prod.ext (PyData.int.inj e1) (PyData.int.inj e2)
theorem plD_inj {p q : RW × RW} (h : plD p = plD q) : p = q := by
  have e := PyData.tuple.inj h
  injection e with e1 e2
  injection e2 with e2 _
  exact Prod.ext (rwD_inj e1) (rwD_inj e2)
theorem picD_inj {c d : PIC} (h : picD c = picD d) : c = d := by
  have e := PyData.tuple.inj h
  injection e with e1 e2
  injection e2 with e2 _
  exact Prod.ext (ints_inj.mp (PyData.tuple.inj e1)) (plD_inj e2)
theorem sd_rw (r : RW) : Sd 1 (rwD r) := Sd.tup fun e he => by
  rcases mem2 he with rfl | rfl <;> exact Sd.int _
theorem sd_pl (p : RW × RW) : Sd 2 (plD p) := Sd.tup fun e he => by
  rcases mem2 he with rfl | rfl <;> exact sd_rw _
theorem sd_pic (c : PIC) : Sd 3 (picD c) := Sd.tup fun e he => by
  rcases mem2 he with rfl | rfl
  · exact Sd.intsT.more (by decide)
  · exact sd_pl _
structure WinR (x y : Int) (ms : List MV) (b : Nat) : Prop where
  per : ∀ t, b ≤ t → plN x y ms (t + 1) = plN x y ms t
  fst : ∀ c, c + 1 = b → plN x y ms (c + 1) ≠ plN x y ms c
structure ShR (ls : List LY) (x y : Int) (ms : List MV) (a m : Nat) : Prop where
  m1 : 1 ≤ m
  perL : ∀ l ∈ ls, ∀ t, a ≤ t → shN l.1 l.2 (t + m) = shN l.1 l.2 t
  perW : ∀ t, a ≤ t → plN x y ms (t + 1) = plN x y ms t
  dvd : ∀ n, (∀ l ∈ ls, ∀ a' m', Lst (shN l.1 l.2) a' m' → m' ∣ n) → m ∣ n
  fst : ∀ b, b + 1 = a → (∃ l ∈ ls, shN l.1 l.2 (b + m) ≠ shN l.1 l.2 b) ∨ plN x y ms (b + 1) ≠ plN x y ms b
theorem ShR.uniq {ls : List LY} {x y : Int} {ms : List MV} {a m a' m' : Nat} (h : ShR ls x y ms a m) (h' : ShR ls x y ms a' m') : a = a' ∧ m = m' := by
  have e : m = m' := Nat.dvd_antisymm (h.dvd m' fun l hl b n hb => hb.dvd m' a' (h'.perL l hl)) (h'.dvd m fun l hl b n hb => hb.dvd m a (h.perL l hl))
  subst e
  refine ⟨?_, rfl⟩
  rcases Nat.lt_trichotomy a a' with z | z | z
  · rcases h'.fst (a' - 1) (by omega) with ⟨l, hl, hn⟩ | hn
    · exact absurd (h.perL l hl (a' - 1) (by omega)) hn
    · exact absurd (h.perW (a' - 1) (by omega)) hn
  · exact z
  · rcases h.fst (a - 1) (by omega) with ⟨l, hl, hn⟩ | hn
    · exact absurd (h'.perL l hl (a - 1) (by omega)) hn
    · exact absurd (h'.perW (a - 1) (by omega)) hn
theorem Paired.mem2 {α β : Type} {F : α → β → Prop} {l₁ : List α} {l₂ : List β} (p : Paired F l₁ l₂) {y : β} (h : y ∈ l₂) : ∃ x ∈ l₁, F x y := by
  obtain ⟨i, hi⟩ := List.mem_iff_getElem?.mp h
  obtain ⟨x, hx, f⟩ := Paired.at2 p hi
  exact ⟨x, List.mem_of_getElem? hx, f⟩
theorem Paired.mem1 {α β : Type} {F : α → β → Prop} {l₁ : List α} {l₂ : List β} (p : Paired F l₁ l₂) {x : α} (h : x ∈ l₁) : ∃ y ∈ l₂, F x y := by
  obtain ⟨i, hi⟩ := List.mem_iff_getElem?.mp h
  obtain ⟨y, hy, f⟩ := Paired.at p hi
  exact ⟨y, List.mem_of_getElem? hy, f⟩
abbrev RdOf (r : Nat × Nat) (l : LY) : Prop := Lst (shN l.1 l.2) r.1 r.2 ∧ r.1 ≤ 192 ∧ r.2 ≤ 192
theorem shR_mk {ls : List LY} {rd : List (Nat × Nat)} {x y : Int} {ms : List MV} {a b m : Nat} (hp : Paired RdOf rd ls) (hw : WinR x y ms b) (ha : ∀ r ∈ rd, r.1 ≤ a) (hb : b ≤ a) (hm : a = b ∨ ∃ r ∈ rd, r.1 = a) (m1 : 1 ≤ m)
    (hd : ∀ r ∈ rd, r.2 ∣ m) (hl : ∀ n, (∀ r ∈ rd, r.2 ∣ n) → m ∣ n) : ShR ls x y ms a m := by
  refine ⟨m1, fun l hl t ht => ?_, fun t ht => hw.per t (by omega), fun n hn => hl n fun r hr => ?_, fun c hc => ?_⟩
  · obtain ⟨r, hr, f, _⟩ := Paired.mem2 hp hl
    obtain ⟨k, rfl⟩ := hd r hr
    exact per_mul f.per k t (by have := ha r hr; omega)
  · obtain ⟨l, hl', f, _⟩ := Paired.mem1 hp hr
    exact hn l hl' r.1 r.2 f
  · rcases hm with e | ⟨r, hr, e⟩
    · exact .inr (hw.fst c (by omega))
    · obtain ⟨l, hl', f, _⟩ := Paired.mem1 hp hr
      refine .inl ⟨l, hl', fun z => f.fst c (by omega) ?_⟩
      obtain ⟨k, hk⟩ := hd r hr
      obtain ⟨j, rfl⟩ : ∃ j, k = j + 1 := ⟨k - 1, by
        rcases Nat.eq_zero_or_pos k with z | z
        · rw [z] at hk
          omega
        · omega⟩
      have e2 := per_mul f.per j (c + r.2) (by have := f.m1; omega)
      rw [show c + r.2 + r.2 * j = c + m by rw [hk, Nat.mul_succ]; omega, z] at e2
      exact e2.symm
theorem ShR.pic_eq {ls : List LY} {x y : Int} {ms : List MV} {a m : Nat} (h : ShR ls x y ms a m) {t : Nat} (ht : a ≤ t) (k : Nat) : pic ls x y ms ((t + m * k : Nat) : Int) = pic ls x y ms (t : Int) := by
  refine Prod.ext ?_ ?_
  · exact List.map_congr_left fun l hl => per_mul (h.perL l hl) k t ht
  · have := per_mul (f := fun t => (0 : Int)) (A := 0) (m := 1) (fun _ _ => rfl)
    have e : ∀ n, plN x y ms (t + n) = plN x y ms t := fun n => by
      induction n with
      | zero => rfl
      | succ n ih => rw [← Nat.add_assoc, h.perW _ (by omega), ih]
    exact e (m * k)
theorem ShR.pic_ne {ls : List LY} {x y : Int} {ms : List MV} {a m : Nat} (h : ShR ls x y ms a m) {b : Nat} (hb : b + 1 = a) : pic ls x y ms (b : Int) ≠ pic ls x y ms ((b + m : Nat) : Int) := fun e => by
  rcases h.fst b hb with ⟨l, hl, hn⟩ | hn
  · exact hn (List.map_inj_left.mp (congrArg Prod.fst e) l hl).symm
  · refine hn ?_
    have e1 : plN x y ms b = plN x y ms (b + m) := congrArg Prod.snd e
    have e2 : ∀ n, plN x y ms (b + 1 + n) = plN x y ms (b + 1) := fun n => by
      induction n with
      | zero => rfl
      | succ n ih => rw [← Nat.add_assoc, h.perW _ (by omega), ih]
    have m1 := h.m1
    have e3 := e2 (m - 1)
    rw [show b + 1 + (m - 1) = b + m by omega] at e3
    rw [e1, e3]
theorem winR_of {x y : Int} {ms : List MV} {L b : Nat} (vm : ∀ m ∈ ms, VMove m) (hL : (L : Int) = mtot ms) (hb : b ≤ L) (hp : ∀ t, b ≤ t → t < L → plN x y ms (t + 1) = plN x y ms t) (hf : ∀ c, c + 1 = b → plN x y ms (c + 1) ≠ plN x y ms c) : WinR x y ms b := by
  refine ⟨fun t ht => ?_, hf⟩
  rcases Nat.lt_or_ge t L with z | z
  · exact hp t ht z
  · exact plc_far ms x y _ _ vm (by omega) (by omega)
/-- the step of the law's own reckoning of a common multiple -/
theorem lcm_step {s z k : Nat} (s1 : 1 ≤ s) (z1 : 1 ≤ z) (k1 : 1 ≤ k) (hd : z ∣ s * k) (hmin : ∀ j, 1 ≤ j → j < k → ¬ z ∣ s * j) : s * k = Nat.lcm s z := by
  obtain ⟨j, hj⟩ := Nat.dvd_lcm_left s z
  have lp : 0 < Nat.lcm s z := Nat.lcm_pos (by omega) (by omega)
  have j1 : 1 ≤ j := by
    rcases Nat.eq_zero_or_pos j with e | e
    · rw [e] at hj
      omega
    · exact e
  have h1 : Nat.lcm s z ∣ s * k := Nat.lcm_dvd (Nat.dvd_mul_right s k) hd
  have h2 : k ≤ j := Nat.le_of_not_lt fun lt => hmin j j1 lt (by rw [← hj]; exact Nat.dvd_lcm_right s z)
  have h3 := Nat.le_of_dvd (Nat.mul_pos (by omega) (by omega)) h1
  have h4 : s * k ≤ s * j := Nat.mul_le_mul_left s h2
  omega
theorem lcm_le {s z : Nat} (h : 0 < Nat.gcd s z) : Nat.lcm s z ≤ s * z := by
  unfold Nat.lcm
  exact Nat.div_le_self _ _

/-! ### the text -/
def topS (i : Nat) : Stmt := PySem.Challenge.pw_lanternrows_k05_places_of_a_window.main.body.getD i (.Pass ⟨0, 0, 0, 0⟩)
abbrev s_is_whole_from : Stmt := topS 6
theorem sc_is_whole_from : FnScope ["thing", "least"] ["thing", "least"] (defScope s_is_whole_from) := ⟨rfl, rfl, rfl, by decide +kernel, rfl, by decide +kernel, by decide +kernel⟩
abbrev s_is_whole : Stmt := topS 7
theorem sc_is_whole : FnScope ["thing", "least", "most"] ["thing", "least", "most"] (defScope s_is_whole) := ⟨rfl, rfl, rfl, by decide +kernel, rfl, by decide +kernel, by decide +kernel⟩
abbrev s_need_moment : Stmt := topS 8
theorem sc_need_moment : FnScope ["thing"] ["thing"] (defScope s_need_moment) := ⟨rfl, rfl, rfl, by decide +kernel, rfl, by decide +kernel, by decide +kernel⟩
abbrev s_is_tuple : Stmt := topS 13
theorem sc_is_tuple : FnScope ["thing", "least", "most"] ["thing", "least", "most"] (defScope s_is_tuple) := ⟨rfl, rfl, rfl, by decide +kernel, rfl, by decide +kernel, by decide +kernel⟩
abbrev s_is_way : Stmt := topS 14
theorem sc_is_way : FnScope ["thing"] ["thing"] (defScope s_is_way) := ⟨rfl, rfl, rfl, by decide +kernel, rfl, by decide +kernel, by decide +kernel⟩
abbrev s_is_many : Stmt := topS 15
theorem sc_is_many : FnScope ["thing"] ["thing"] (defScope s_is_many) := ⟨rfl, rfl, rfl, by decide +kernel, rfl, by decide +kernel, by decide +kernel⟩
abbrev s_is_move : Stmt := topS 16
theorem sc_is_move : FnScope ["thing", "x", "y", "many"] ["thing"] (defScope s_is_move) := ⟨rfl, rfl, rfl, by decide +kernel, rfl, by decide +kernel, by decide +kernel⟩
abbrev s_is_window : Stmt := topS 17
theorem sc_is_window : FnScope ["thing", "x", "y", "moves", "move"] ["thing"] (defScope s_is_window) := ⟨rfl, rfl, rfl, by decide +kernel, rfl, by decide +kernel, by decide +kernel⟩
abbrev s_need_window : Stmt := topS 18
theorem sc_need_window : FnScope ["thing"] ["thing"] (defScope s_need_window) := ⟨rfl, rfl, rfl, by decide +kernel, rfl, by decide +kernel, by decide +kernel⟩
abbrev s_common_divisor : Stmt := topS 20
theorem sc_common_divisor : FnScope ["one", "other"] ["one", "other"] (defScope s_common_divisor) := ⟨rfl, rfl, rfl, by decide +kernel, rfl, by decide +kernel, by decide +kernel⟩
abbrev s_lowest : Stmt := topS 21
theorem sc_lowest : FnScope ["top", "bottom", "divisor"] ["top", "bottom"] (defScope s_lowest) := ⟨rfl, rfl, rfl, by decide +kernel, rfl, by decide +kernel, by decide +kernel⟩
abbrev s_on_the_way : Stmt := topS 22
theorem sc_on_the_way : FnScope ["start", "goal", "step", "many"] ["start", "goal", "step", "many"] (defScope s_on_the_way) := ⟨rfl, rfl, rfl, by decide +kernel, rfl, by decide +kernel, by decide +kernel⟩
abbrev s_place_of : Stmt := topS 23
theorem sc_place_of : FnScope ["window", "moment", "x", "y", "moves", "left", "goal_x", "goal_y", "many", "step"] ["window", "moment"] (defScope s_place_of) := ⟨rfl, rfl, rfl, by decide +kernel, rfl, by decide +kernel, by decide +kernel⟩
abbrev s_place_at : Stmt := topS 24
theorem sc_place_at : FnScope ["window", "moment"] ["window", "moment"] (defScope s_place_at) := ⟨rfl, rfl, rfl, by decide +kernel, rfl, by decide +kernel, by decide +kernel⟩
abbrev s__law_cell_at : Stmt := topS 26
theorem sc__law_cell_at : FnScope ["_law_script", "_law_k"] ["_law_script", "_law_k"] (defScope s__law_cell_at) := ⟨rfl, rfl, rfl, by decide +kernel, rfl, by decide +kernel, by decide +kernel⟩
abbrev s__law_state : Stmt := topS 27
theorem sc__law_state : FnScope ["_law_script", "_law_k", "_law_cell"] ["_law_script", "_law_k"] (defScope s__law_state) := ⟨rfl, rfl, rfl, by decide +kernel, rfl, by decide +kernel, by decide +kernel⟩
abbrev s__law_take : Stmt := topS 28
theorem sc__law_take : FnScope ["_law_state_here", "_law_many", "_law_found", "_law_stirred"] ["_law_state_here", "_law_many"] (defScope s__law_take) := ⟨rfl, rfl, rfl, by decide +kernel, rfl, by decide +kernel, by decide +kernel⟩
abbrev s__law_same : Stmt := topS 29
theorem sc__law_same : FnScope ["_law_found", "_law_due", "_law_one", "_law_other"] ["_law_found", "_law_due"] (defScope s__law_same) := ⟨rfl, rfl, rfl, by decide +kernel, rfl, by decide +kernel, by decide +kernel⟩
abbrev s__law_window : Stmt := topS 30
theorem sc__law_window : FnScope ["_law_state_here", "_law_moves", "_law_many", "_law_x", "_law_y", "_law_place", "_law_turn"] ["_law_state_here"] (defScope s__law_window) := ⟨rfl, rfl, rfl, by decide +kernel, rfl, by decide +kernel, by decide +kernel⟩
abbrev s__law_lowest : Stmt := topS 31
theorem sc__law_lowest : FnScope ["_law_top", "_law_bottom", "_law_least", "_law_k"] ["_law_top", "_law_bottom"] (defScope s__law_lowest) := ⟨rfl, rfl, rfl, by decide +kernel, rfl, by decide +kernel, by decide +kernel⟩
abbrev s__law_places : Stmt := topS 32
theorem sc__law_places : FnScope ["_law_window_here", "_law_many", "_law_x", "_law_y", "_law_moves", "_law_found", "_law_goal", "_law_other", "_law_size", "_law_k", "_law_step"] ["_law_window_here", "_law_many"] (defScope s__law_places) := ⟨rfl, rfl, rfl, by decide +kernel, rfl, by decide +kernel, by decide +kernel⟩
abbrev s_law : Stmt := topS 33
theorem sc_law : FnScope ["_law_script", "_law_k", "_law_state_here", "_law_window_here", "_law_kept", "_law_size", "_law_long", "_law_moment", "_law_move"] ["_law_script"] (defScope s_law) := ⟨rfl, rfl, rfl, by decide +kernel, rfl, by decide +kernel, by decide +kernel⟩
structure Txt (K : PySem.W.Frag) (mg : Str → Option Value) : Prop where
  b_len : mg "len" = none
  b_isinstance : mg "isinstance" = none
  b_max : mg "max" = none
  b_min : mg "min" = none
  b_sum : mg "sum" = none
  b_all : mg "all" = none
  b_tuple : mg "tuple" = none
  b_list : mg "list" = none
  b_abs : mg "abs" = none
  b_range : mg "range" = none
  b_zip : mg "zip" = none
  b_bool : mg "bool" = none
  b_int : mg "int" = none
  b_repr : mg "repr" = none
  c_LAST_MOMENT : ∃ t, mg "LAST_MOMENT" = some (Value.int 1000000000 t)
  c_MOST_WAY : ∃ t, mg "MOST_WAY" = some (Value.int 20 t)
  c_MOST_MANY : ∃ t, mg "MOST_MANY" = some (Value.int 24 t)
  c_MOST_MOVES : ∃ t, mg "MOST_MOVES" = some (Value.int 8 t)

section
variable {P : Program} {w : World} {K : PySem.W.Frag} {mg : Str → Option Value} {base : Heap}
def sp_is_whole_from (K : PySem.W.Frag) : Sp := fun vs H Q _ => ∃ n l : Int, vs = [.int n, .int l] ∧ Q (.bl (decide (l ≤ n))) H
theorem ok_is_whole_from {f : Addr} {fd : FuncData} (F : Fun K "is_whole_from" "is_whole_from" s_is_whole_from f fd) (T : Txt K mg) : FnOk P w K mg base CX0 1 f fd ["thing", "least"] (sp_is_whole_from K) := by
  refine F.ok sc_is_whole_from (fun vs H Q E h => ?_) (fun cdv A outer s H vs Q E hr h => ?_)
  · obtain ⟨n, l, rfl, q⟩ := h
    rfl
  · obtain ⟨n, l, rfl, q⟩ := h
    refine ⟨_, (pss_cons (ps_if (PW.pt (pw_or (pt_val (pe_callB call_isi (by rfl) T.b_isinstance (by decide +kernel) (pa_cons (pv 0) (pa_cons (pe_bltn (v := .ty "bool") (by rfl) T.b_bool (by decide +kernel) rfl) pa_nil)))) (pw_or1 (pt_not (pt_val (pe_callB call_isi (by rfl) T.b_isinstance (by decide +kernel) (pa_cons (pv 0) (pa_cons (pe_bltn (v := .ty "int") (by rfl) T.b_int (by decide +kernel) rfl) pa_nil)))))))) (pss_one (ps_ret pe_bl)) pss_nil)
      (pss_one (ps_ret (pe_cmpR op_le (pv 1) (pv 0) (nomark _))))), ?_⟩
    refine ⟨_, rfl, _, _, _, _, false, rfl, .ty _, .base (.int n), kit_ty (by decide +kernel), _, rfl, iteF ?_⟩
    refine ⟨_, rfl, _, _, _, _, true, rfl, .ty _, .base (.int n), kit_ty (by decide +kernel), _, rfl, iteF ?_⟩
    exact ⟨_, rfl, _, rfl, l, n, rfl, rfl, q⟩
def sp_is_whole (K : PySem.W.Frag) : Sp := fun vs H Q _ => ∃ n l m : Int, vs = [.int n, .int l, .int m] ∧ Q (.bl (decide (l ≤ n ∧ n ≤ m))) H
theorem ok_is_whole {f : Addr} {fd : FuncData} (F : Fun K "is_whole" "is_whole" s_is_whole f fd) (T : Txt K mg) (D_is_whole_from : Cl P w K mg base 1 "is_whole_from" ["thing", "least"] (sp_is_whole_from K)) : FnOk P w K mg base CX0 2 f fd ["thing", "least", "most"] (sp_is_whole K) := by
  refine F.ok sc_is_whole (fun vs H Q E h => ?_) (fun cdv A outer s H vs Q E hr h => ?_)
  · obtain ⟨n, l, m, rfl, q⟩ := h
    rfl
  · obtain ⟨n, l, m, rfl, q⟩ := h
    refine ⟨_, (pss_one (ps_ret (pe_and (pe_own D_is_whole_from (hr.mono (by omega)) (by rfl) (pa_cons (pv 0) (pa_cons (pv 1) pa_nil))) (pe_one (pe_cmpR op_le (pv 0) (pv 2) (nomark _)))))), ?_⟩
    refine ⟨_, rfl, _, rfl, n, l, rfl, _, rfl, ite2 (fun e => ?_) (fun e => ?_)⟩
    · refine ⟨_, rfl, _, rfl, n, m, rfl, rfl, ?_⟩
      have e1 : l ≤ n := of_decide_eq_true e
      rw [show decide (l ≤ n ∧ n ≤ m) = decide (n ≤ m) by simp [e1]] at q
      exact q
    · have e1 : ¬ l ≤ n := fun z => e (decide_eq_true z)
      rw [show decide (l ≤ n ∧ n ≤ m) = false by simp [e1]] at q
      exact q
def sp_is_tuple (K : PySem.W.Frag) : Sp := fun vs H Q _ => ∃ (a : Addr) (xs : List V) (l m : Int), vs = [.ref a, .int l, .int m] ∧ SqT K H a xs ∧ Q (.bl (decide (l ≤ (xs.length : Int) ∧ (xs.length : Int) ≤ m))) H
theorem ok_is_tuple {f : Addr} {fd : FuncData} (F : Fun K "is_tuple" "is_tuple" s_is_tuple f fd) (T : Txt K mg) : FnOk P w K mg base CX0 1 f fd ["thing", "least", "most"] (sp_is_tuple K) := by
  refine F.ok sc_is_tuple (fun vs H Q E h => ?_) (fun cdv A outer s H vs Q E hr h => ?_)
  · obtain ⟨a, xs, l, m, rfl, _⟩ := h
    rfl
  · obtain ⟨a, xs, l, m, rfl, ha, q⟩ := h
    refine ⟨_, (pss_one (ps_ret (pe_and (pe_callB call_isi (by rfl) T.b_isinstance (by decide +kernel) (pa_cons (pv 0) (pa_cons (pe_bltn (v := .ty "tuple") (by rfl) T.b_tuple (by decide +kernel) rfl) pa_nil))) (pe_one (pe_chain op_le op_le (pv 1) (pe_callB call_len_seq (by rfl) T.b_len (by decide +kernel) (pa_cons (pv 0) pa_nil)) (pv 2)))))), ?_⟩
    refine ⟨_, rfl, _, _, _, _, true, rfl, .ty _, tyT ha, kit_ty (by decide +kernel), _, rfl, iteT ?_⟩
    refine ⟨_, rfl, _, rfl, a, xs, rfl, .inr ha, l, _, rfl, rfl, _, rfl, ite2 (fun e => ?_) (fun e => ?_)⟩
    · refine ⟨_, rfl, _, m, rfl, rfl, ?_⟩
      have e1 : l ≤ (xs.length : Int) := of_decide_eq_true e
      rw [show decide (l ≤ (xs.length : Int) ∧ (xs.length : Int) ≤ m) = decide ((xs.length : Int) ≤ m) by simp [e1]] at q
      exact q
    · have e1 : ¬ l ≤ (xs.length : Int) := fun z => e (decide_eq_true z)
      rw [show decide (l ≤ (xs.length : Int) ∧ (xs.length : Int) ≤ m) = false by simp [e1]] at q
      exact q
end

section
variable {P : Program} {w : World} {K : PySem.W.Frag} {mg : Str → Option Value} {base : Heap}
def sp_need_moment (K : PySem.W.Frag) : Sp := fun vs H Q _ => ∃ m : Int, vs = [.int m] ∧ 0 ≤ m ∧ m ≤ 1000000000 ∧ Q .non H
theorem ok_need_moment {f : Addr} {fd : FuncData} (F : Fun K "need_moment" "need_moment" s_need_moment f fd) (T : Txt K mg) (D_is_whole : Cl P w K mg base 2 "is_whole" ["thing", "least", "most"] (sp_is_whole K)) : FnOk P w K mg base CX0 3 f fd ["thing"] (sp_need_moment K) := by
  refine F.ok sc_need_moment (fun vs H Q E h => ?_) (fun cdv A outer s H vs Q E hr h => ?_)
  · obtain ⟨m, rfl, _⟩ := h
    rfl
  · obtain ⟨m, rfl, h0, h1, q⟩ := h
    refine ⟨_, (pss_one (ps_if (pt_not (pt_val (pe_own D_is_whole (hr.mono (by omega)) (by rfl) (pa_cons (pv 0) (pa_cons pe_int (pa_cons (pe_gint (by rfl) T.c_LAST_MOMENT) pa_nil)))))) (pss_one ps_never) pss_nil)), ?_⟩
    refine ⟨_, rfl, m, 0, 1000000000, rfl, _, rfl, ?_⟩
    rw [show decide ((0 : Int) ≤ m ∧ m ≤ 1000000000) = true from decide_eq_true ⟨h0, h1⟩]
    exact iteF q
end

section
variable {P : Program} {w : World} {K : PySem.W.Frag} {mg : Str → Option Value} {base : Heap}
def sp_is_way (K : PySem.W.Frag) : Sp := fun vs H Q _ => ∃ n : Int, vs = [.int n] ∧ Q (.bl (decide (-20 ≤ n ∧ n ≤ 20))) H
theorem ok_is_way {f : Addr} {fd : FuncData} (F : Fun K "is_way" "is_way" s_is_way f fd) (T : Txt K mg) (D_is_whole : Cl P w K mg base 2 "is_whole" ["thing", "least", "most"] (sp_is_whole K)) : FnOk P w K mg base CX0 3 f fd ["thing"] (sp_is_way K) := by
  refine F.ok sc_is_way (fun vs H Q E h => ?_) (fun cdv A outer s H vs Q E hr h => ?_)
  · obtain ⟨n, rfl, q⟩ := h
    rfl
  · obtain ⟨n, rfl, q⟩ := h
    refine ⟨_, (pss_one (ps_ret (pe_own D_is_whole (hr.mono (by omega)) (by rfl) (pa_cons (pv 0) (pa_cons (pe_un un_neg (pe_gint (by rfl) T.c_MOST_WAY)) (pa_cons (pe_gint (by rfl) T.c_MOST_WAY) pa_nil)))))), ?_⟩
    exact ⟨_, rfl, 20, rfl, n, -20, 20, rfl, q⟩
def sp_is_many (K : PySem.W.Frag) : Sp := fun vs H Q _ => ∃ n : Int, vs = [.int n] ∧ Q (.bl (decide (0 ≤ n ∧ n ≤ 24))) H
theorem ok_is_many {f : Addr} {fd : FuncData} (F : Fun K "is_many" "is_many" s_is_many f fd) (T : Txt K mg) (D_is_whole : Cl P w K mg base 2 "is_whole" ["thing", "least", "most"] (sp_is_whole K)) : FnOk P w K mg base CX0 3 f fd ["thing"] (sp_is_many K) := by
  refine F.ok sc_is_many (fun vs H Q E h => ?_) (fun cdv A outer s H vs Q E hr h => ?_)
  · obtain ⟨n, rfl, q⟩ := h
    rfl
  · obtain ⟨n, rfl, q⟩ := h
    refine ⟨_, (pss_one (ps_ret (pe_own D_is_whole (hr.mono (by omega)) (by rfl) (pa_cons (pv 0) (pa_cons pe_int (pa_cons (pe_gint (by rfl) T.c_MOST_MANY) pa_nil)))))), ?_⟩
    exact ⟨_, rfl, n, 0, 24, rfl, q⟩
def sp_is_move (K : PySem.W.Frag) : Sp := fun vs H Q _ => ∃ (v : V) (m : MV), vs = [v] ∧ MoveAt K H v m ∧ VMove m ∧ Q (.bl true) H
theorem ok_is_move {f : Addr} {fd : FuncData} (F : Fun K "is_move" "is_move" s_is_move f fd) (T : Txt K mg) (D_is_tuple : Cl P w K mg base 1 "is_tuple" ["thing", "least", "most"] (sp_is_tuple K)) (D_is_way : Cl P w K mg base 3 "is_way" ["thing"] (sp_is_way K)) (D_is_many : Cl P w K mg base 3 "is_many" ["thing"] (sp_is_many K)) : FnOk P w K mg base CX0 4 f fd ["thing"] (sp_is_move K) := by
  refine F.ok sc_is_move (fun vs H Q E h => ?_) (fun cdv A outer s H vs Q E hr h => ?_)
  · obtain ⟨v, m, rfl, _⟩ := h
    rfl
  · obtain ⟨v, ⟨x, y, n⟩, rfl, ⟨p, rfl, hp⟩, ⟨vx, vy, v3, v4⟩, q⟩ := h
    refine ⟨_, (pss_cons (ps_if (pt_not (pt_val (pe_own D_is_tuple (hr.mono (by omega)) (by rfl) (pa_cons (pv 0) (pa_cons pe_int (pa_cons pe_int pa_nil)))))) (pss_one (ps_ret pe_bl)) pss_nil)
      (pss_cons (ps_asg (pv 0) (pg_tup (by rfl) (pgs_cons (pg_name (i := 1) sc_is_move.nd rfl (Or.inl rfl)) (pgs_cons (pg_name (i := 2) sc_is_move.nd rfl (Or.inl rfl)) (pgs_cons (pg_name (i := 3) sc_is_move.nd rfl (Or.inl rfl)) pgs_nil)))))
      (pss_one (ps_ret (pe_and (pe_own D_is_way (hr.mono (by omega)) (by rfl) (pa_cons (pv 1) pa_nil)) (pe_and (pe_own D_is_way (hr.mono (by omega)) (by rfl) (pa_cons (pv 2) pa_nil)) (pe_one (pe_own D_is_many (hr.mono (by omega)) (by rfl) (pa_cons (pv 3) pa_nil))))))))), ?_⟩
    refine ⟨_, rfl, p, _, 3, 3, rfl, hp, _, rfl, iteF ?_⟩
    refine ⟨_, rfl, p, _, rfl, hp, rfl, _, _, rfl, _, _, rfl, _, _, rfl, rfl, ?_⟩
    refine ⟨_, rfl, x, rfl, true, ?_, iteT ?_⟩
    · rw [show decide ((-20 : Int) ≤ x ∧ x ≤ 20) = true from decide_eq_true vx]
    refine ⟨_, rfl, y, rfl, true, ?_, iteT ?_⟩
    · rw [show decide ((-20 : Int) ≤ y ∧ y ≤ 20) = true from decide_eq_true vy]
    refine ⟨_, rfl, n, rfl, ?_⟩
    rw [show decide ((0 : Int) ≤ n ∧ n ≤ 24) = true from decide_eq_true ⟨v3, v4⟩]
    exact q
def sp_is_window (K : PySem.W.Frag) : Sp := fun vs H Q _ => ∃ (v : V) (x y : Int) (ms : List MV), vs = [v] ∧ WinAt K H v x y ms ∧ VWin x y ms ∧ ∀ H', Same H H' → Q (.bl true) H'
theorem ok_is_window {f : Addr} {fd : FuncData} (F : Fun K "is_window" "is_window" s_is_window f fd) (T : Txt K mg) (D_is_tuple : Cl P w K mg base 1 "is_tuple" ["thing", "least", "most"] (sp_is_tuple K)) (D_is_way : Cl P w K mg base 3 "is_way" ["thing"] (sp_is_way K)) (D_is_move : Cl P w K mg base 4 "is_move" ["thing"] (sp_is_move K)) : FnOk P w K mg base CX0 5 f fd ["thing"] (sp_is_window K) := by
  refine F.ok sc_is_window (fun vs H Q E h => ?_) (fun cdv A outer s H vs Q E hr h => ?_)
  · obtain ⟨v, x, y, ms, rfl, _⟩ := h
    rfl
  · obtain ⟨v, x, y, ms, rfl, ⟨p, mv, rfl, hp, pm, vs, rfl, hq, pd⟩, ⟨vx, vy, v8, vm⟩, q⟩ := h
    have hl : vs.length = ms.length := Paired.length pd
    refine ⟨_, (pss_cons (ps_if (pt_not (pt_val (pe_own D_is_tuple (hr.mono (by omega)) (by rfl) (pa_cons (pv 0) (pa_cons pe_int (pa_cons pe_int pa_nil)))))) (pss_one (ps_ret pe_bl)) pss_nil)
      (pss_cons (ps_asg (pv 0) (pg_tup (by rfl) (pgs_cons (pg_name (i := 1) sc_is_window.nd rfl (Or.inl rfl)) (pgs_cons (pg_name (i := 2) sc_is_window.nd rfl (Or.inl rfl)) (pgs_cons (pg_name (i := 3) sc_is_window.nd rfl (Or.inl rfl)) pgs_nil)))))
      (pss_cons (ps_if (PW.pt (pw_or (pt_not (pt_val (pe_own D_is_way (hr.mono (by omega)) (by rfl) (pa_cons (pv 1) pa_nil)))) (pw_or (pt_not (pt_val (pe_own D_is_way (hr.mono (by omega)) (by rfl) (pa_cons (pv 2) pa_nil)))) (pw_or1 (pt_not (pt_val (pe_own D_is_tuple (hr.mono (by omega)) (by rfl) (pa_cons (pv 3) (pa_cons pe_int (pa_cons (pe_gint (by rfl) T.c_MOST_MOVES) pa_nil)))))))))) (pss_one (ps_ret pe_bl)) pss_nil)
      (pss_one (ps_ret (pe_callB (cr_all rfl) (by rfl) T.b_all (by decide +kernel) (pa_cons (pe_lc (own := [("move", 4)]) (g := (gName 4)) (tt := tYes) (by rfl) sc_is_window.nd (pi_tup (pv 3)) (blkOk_by (own := [("move", 4)]) (N := ["thing", "x", "y", "moves", "move"]) (sc := defScope s_is_window) (by decide +kernel)) (fun _ _ _ _ _ => (pg_name (i := 4) sc_is_window.nd rfl (Or.inl rfl))) (fun _ _ _ _ _ => pts_nil) (fun _ _ _ _ _ => (pe_own D_is_move (hr.mono (by omega)) (by rfl) (pa_cons (pv 4) pa_nil)))) pa_nil))))))), ?_⟩
    refine ⟨_, rfl, p, _, 3, 3, rfl, hp, _, rfl, iteF ?_⟩
    refine ⟨_, rfl, p, _, rfl, hp, rfl, _, _, rfl, _, _, rfl, _, _, rfl, rfl, ?_⟩
    refine ⟨_, rfl, x, rfl, _, rfl, ?_⟩
    rw [show decide ((-20 : Int) ≤ x ∧ x ≤ 20) = true from decide_eq_true vx]
    refine iteF ?_
    refine ⟨_, rfl, y, rfl, _, rfl, ?_⟩
    rw [show decide ((-20 : Int) ≤ y ∧ y ≤ 20) = true from decide_eq_true vy]
    refine iteF ?_
    refine ⟨_, rfl, pm, vs, 0, 8, rfl, hq, _, rfl, ?_⟩
    rw [show decide ((0 : Int) ≤ (vs.length : Int) ∧ (vs.length : Int) ≤ 8) = true from decide_eq_true ⟨by omega, by omega⟩]
    refine iteF ?_
    refine ⟨_, rfl, pm, rfl, ⟨_, hq⟩, fun D hD => ?_⟩
    refine lcmap_tup ((vs.map fun _ => true).map V.bl) (by simp) (by omega) hq hD (fun i x y H2 R Z hx hy s2 hR => ?_) (fun H2 s2 hL => ?_)
    · obtain ⟨m, hm1, hm⟩ := Paired.at pd hx
      have ey : y = .bl true := by
        rw [List.map_map, List.getElem?_map, hx] at hy
        exact (Option.some.inj hy).symm
      subst ey
      exact ⟨rfl, yes_ok ⟨_, rfl, x, m, rfl, hm.keep (Same.tk s2), vm m (List.mem_of_getElem? hm1), hR _ (Same.refl _)⟩⟩
    · refine ⟨D, _, rfl, .inl (.inl hL), ?_⟩
      rw [show ((vs.map fun _ => true).all id) = true by simp]
      exact q _ s2
def sp_need_window (K : PySem.W.Frag) : Sp := fun vs H Q _ => ∃ (v : V) (x y : Int) (ms : List MV), vs = [v] ∧ WinAt K H v x y ms ∧ VWin x y ms ∧ ∀ H', Same H H' → Q .non H'
theorem ok_need_window {f : Addr} {fd : FuncData} (F : Fun K "need_window" "need_window" s_need_window f fd) (T : Txt K mg) (D_is_window : Cl P w K mg base 5 "is_window" ["thing"] (sp_is_window K)) : FnOk P w K mg base CX0 6 f fd ["thing"] (sp_need_window K) := by
  refine F.ok sc_need_window (fun vs H Q E h => ?_) (fun cdv A outer s H vs Q E hr h => ?_)
  · obtain ⟨v, x, y, ms, rfl, _⟩ := h
    rfl
  · obtain ⟨v, x, y, ms, rfl, hl, v8, q⟩ := h
    refine ⟨_, (pss_one (ps_if (pt_not (pt_val (pe_own D_is_window (hr.mono (by omega)) (by rfl) (pa_cons (pv 0) pa_nil)))) (pss_one ps_never) pss_nil)), ?_⟩
    exact ⟨_, rfl, v, x, y, ms, rfl, hl, v8, fun H' s' => ⟨_, rfl, iteF (q _ s')⟩⟩
end

section
variable {P : Program} {w : World} {K : PySem.W.Frag} {mg : Str → Option Value} {base : Heap}
def sp__law_cell_at (K : PySem.W.Frag) : Sp := fun vs H Q _ => ∃ (a : Addr) (ns : List Int) (k : Int), vs = [.ref a, .int k] ∧ SqL K H a (ns.map V.int) ∧ 0 ≤ k ∧ ∀ c, Q (.int c) H
theorem ok__law_cell_at {f : Addr} {fd : FuncData} (F : Fun K "_law_cell_at" "_law_cell_at" s__law_cell_at f fd) (T : Txt K mg) : FnOk P w K mg base CX0 1 f fd ["_law_script", "_law_k"] (sp__law_cell_at K) := by
  refine F.ok sc__law_cell_at (fun vs H Q E h => ?_) (fun cdv A outer s H vs Q E hr h => ?_)
  · obtain ⟨a, ns, k, rfl, _⟩ := h
    rfl
  · obtain ⟨a, ns, k, rfl, hS, hk, q⟩ := h
    refine ⟨_, (pss_cons (ps_if (pt_cmpR op_lt (pv 1) (pe_callB call_len_seq (by rfl) T.b_len (by decide +kernel) (pa_cons (pv 0) pa_nil)) (nomark _)) (pss_one (ps_ret (pe_ix ix_list (pv 0) (pv 1) (fun _ _ => rfl)))) pss_nil)
      (pss_one (ps_ret pe_int))), ?_⟩
    refine ⟨_, rfl, _, rfl, a, _, rfl, .inl hS, k, _, rfl, rfl, _, rfl, ite2 (fun e => ?_) (fun _ => q 0)⟩
    have e1 : k < ((ns.map V.int).length : Int) := of_decide_eq_true e
    rw [List.length_map] at e1
    have hj : k.toNat < ns.length := by omega
    have g : (ns.map V.int)[k.toNat]? = some (.int ns[k.toNat]) := by
      rw [List.getElem?_map, List.getElem?_eq_getElem hj]
      rfl
    exact ⟨_, rfl, _, rfl, a, _, k, _, rfl, rfl, hS, at_of (j := k.toNat) (by omega) g, q _⟩
def sp__law_state (K : PySem.W.Frag) : Sp := fun vs H Q _ => ∃ (a : Addr) (ns : List Int) (k : Int), vs = [.ref a, .int k] ∧ SqL K H a (ns.map V.int) ∧ 0 ≤ k ∧ ∀ H' p, Same H H' → H p = none → IsSt H' p → Q (.ref p) H'
theorem ok__law_state {f : Addr} {fd : FuncData} (F : Fun K "_law_state" "_law_state" s__law_state f fd) (T : Txt K mg) (D__law_cell_at : Cl P w K mg base 1 "_law_cell_at" ["_law_script", "_law_k"] (sp__law_cell_at K)) : FnOk P w K mg base CX0 2 f fd ["_law_script", "_law_k"] (sp__law_state K) := by
  refine F.ok sc__law_state (fun vs H Q E h => ?_) (fun cdv A outer s H vs Q E hr h => ?_)
  · obtain ⟨a, ns, k, rfl, _⟩ := h
    rfl
  · obtain ⟨a, ns, k, rfl, hS, hk, q⟩ := h
    refine ⟨_, (pss_cons (ps_set (i := 2) sc__law_state.nd rfl (Or.inl rfl) (pe_own D__law_cell_at (hr.mono (by omega)) (by rfl) (pa_cons (pv 0) (pa_cons (pv 1) pa_nil))))
      (pss_one (ps_ret (pe_lst (pa_cons (pe_callB (call_max2 rfl) (by rfl) T.b_max (by decide +kernel) (pa_cons pe_int (pa_cons (pe_op op_sub (pv 2) (pe_op op_pow pe_int pe_int)) pa_nil))) (pa_cons (pe_op op_modN (pv 2) pe_int) pa_nil)))))), ?_⟩
    refine ⟨_, rfl, _, rfl, a, ns, k, rfl, hS, hk, fun c => ?_⟩
    refine ⟨_, rfl, 10, 18, rfl, rfl, ⟨by decide, by decide, by decide⟩, _, _, rfl, rfl, _, _, rfl, _, rfl, _, _, rfl, rfl, (by show (2147483647 : Int) ≠ 0; decide), (by show 2 ≤ sizeLine; decide), fun p np => ?_⟩
    refine q _ p (same_upd np) np ⟨_, _, upd_same, ?_, (fm (by decide)).1, (fm (by decide)).2⟩
    split <;> omega
def sp__law_take (K : PySem.W.Frag) : Sp := fun vs H Q _ => ∃ (st : Addr) (n : Int), vs = [.ref st, .int n] ∧ IsSt H st ∧ 0 < n ∧ n < 1073741824 ∧ ∀ r H', 0 ≤ r → r < n → Gr st H H' → Q (.int r) H'
theorem ok__law_take {f : Addr} {fd : FuncData} (F : Fun K "_law_take" "_law_take" s__law_take f fd) (T : Txt K mg) : FnOk P w K mg base CX0 1 f fd ["_law_state_here", "_law_many"] (sp__law_take K) := by
  refine F.ok sc__law_take (fun vs H Q E h => ?_) (fun cdv A outer s H vs Q E hr h => ?_)
  · obtain ⟨st, n, rfl, _⟩ := h
    rfl
  · obtain ⟨st, n, rfl, ⟨a, b, hs, ha, hb0, hb1⟩, n0, n1, q⟩ := h
    refine ⟨_, (pss_cons (ps_if (pt_cmpR op_gt (pe_ix ix_list (pv 0) pe_int (fun _ _ => rfl)) pe_int (nomark _)) (pss_cons (ps_set (i := 2) sc__law_take.nd rfl (Or.inl rfl) (pe_op op_modN (pe_ix ix_list (pv 0) pe_int (fun _ _ => rfl)) (pv 1)))
      (pss_cons (ps_asg (pe_op op_fdivN (pe_ix ix_list (pv 0) pe_int (fun _ _ => rfl)) (pv 1)) (pg_sub (pv 0) pe_int set_list))
      (pss_one (ps_ret (pv 2))))) pss_nil)
      (pss_cons (ps_asg (pe_op op_modN (pe_op op_add (pe_op op_mul (pe_ix ix_list (pv 0) pe_int (fun _ _ => rfl)) pe_int) pe_int) pe_int) (pg_sub (pv 0) pe_int set_list))
      (pss_cons (ps_set (i := 3) sc__law_take.nd rfl (Or.inl rfl) (pe_op op_modN (pe_op op_add (pe_op op_add (pe_op op_mul (pe_ix ix_list (pv 0) pe_int (fun _ _ => rfl)) (pe_ix ix_list (pv 0) pe_int (fun _ _ => rfl))) (pe_op op_mul pe_int (pe_ix ix_list (pv 0) pe_int (fun _ _ => rfl)))) pe_int) pe_int))
      (pss_cons (ps_set (i := 3) sc__law_take.nd rfl (Or.inl rfl) (pe_op op_modN (pe_op op_add (pe_op op_mul (pv 3) (pv 3)) (pe_op op_mul pe_int (pv 3))) pe_int))
      (pss_one (ps_ret (pe_op op_modN (pe_op op_fdivN (pv 3) pe_int) (pv 1)))))))), ?_⟩
    refine ⟨_, rfl, st, _, 0, _, rfl, rfl, .inl (.inl hs), rfl, a, 0, rfl, rfl, _, rfl, ite2 (fun e => ?_) (fun e => ?_)⟩
    · have e1 : 0 < a := of_decide_eq_true e
      refine ⟨_, rfl, st, _, 0, _, rfl, rfl, .inl (.inl hs), rfl, _, rfl, a, n, rfl, rfl, by omega, ?_⟩
      refine ⟨_, rfl, st, _, 0, _, rfl, rfl, .inl (.inl hs), rfl, _, rfl, a, n, rfl, rfl, ⟨by omega, by omega⟩, _, rfl, st, _, 0, 0, rfl, rfl, hs, rfl, ?_⟩
      refine ⟨_, rfl, q _ _ (fm n0).1 (fm n0).2 (gr_set ?_ hb0 hb1)⟩
      rw [Int.fdiv_eq_ediv_of_nonneg _ (by omega)]
      exact Int.ediv_nonneg ha (by omega)
    · refine ⟨_, rfl, st, _, 1, _, rfl, rfl, .inl (.inl hs), rfl, b, 48271, rfl, rfl, .inl ⟨by omega, by omega⟩, _, _, rfl, rfl, _, _, rfl, rfl, (by show (2147483647 : Int) ≠ 0; decide), _, rfl, st, _, 1, 1, rfl, rfl, hs, rfl, ?_⟩
      dsimp only
      have f1 := fm (x := b * 48271 + 29) (m := 2147483647) (by decide)
      generalize (b * 48271 + 29).fmod 2147483647 = b1 at f1 ⊢
      obtain ⟨f1a, f1b⟩ := f1
      have hs1 : (upd H st (.lst [.int a, .int b1])) st = some (.lst [.int a, .int b1]) := upd_same
      refine ⟨_, rfl, st, _, 1, _, rfl, rfl, .inl (.inl hs1), rfl, _, rfl, st, _, 1, _, rfl, rfl, .inl (.inl hs1), rfl, b1, b1, rfl, rfl, .inl ⟨by omega, by omega⟩, _, rfl, st, _, 1, _, rfl, rfl, .inl (.inl hs1), rfl, 39373, b1, rfl, rfl, .inl ⟨by decide, by decide⟩, _, _, rfl, rfl, _, _, rfl, rfl, _, _, rfl, rfl, (by show (2147483629 : Int) ≠ 0; decide), ?_⟩
      dsimp only
      have f2 := fm (x := b1 * b1 + 39373 * b1 + 7) (m := 2147483629) (by decide)
      generalize (b1 * b1 + 39373 * b1 + 7).fmod 2147483629 = b2 at f2 ⊢
      obtain ⟨f2a, f2b⟩ := f2
      refine ⟨_, rfl, _, rfl, b2, b2, rfl, rfl, .inl ⟨by omega, by omega⟩, _, rfl, 16807, b2, rfl, rfl, .inl ⟨by decide, by decide⟩, _, _, rfl, rfl, _, _, rfl, rfl, (by show (2147483587 : Int) ≠ 0; decide), ?_⟩
      dsimp only
      generalize (b2 * b2 + 16807 * b2).fmod 2147483587 = b3
      refine ⟨_, rfl, b3, 8, rfl, rfl, ⟨by decide, by decide⟩, _, rfl, _, n, rfl, rfl, by omega, ?_⟩
      exact q _ _ (fm n0).1 (fm n0).2 (gr_set ha f1a f1b)
end

/-! ### the law's windows and sheets -/
def PVw (K : PySem.W.Frag) (st : Addr) (H0 : Hp) (F : Addr) (mn x y : Int) (i : Nat) (σ : L2.St) (H : Hp) : Prop :=
  Gr st H0 H ∧ ∃ (pp : Addr) (px py : Int) (vs : List V) (ms : List MV) (tv : Option V), σ = [some (.ref st), some (.ref F), some (.int mn), some (.int x), some (.int y), some (.ref pp), tv] ∧ H pp = some (.tup [.int px, .int py]) ∧ (-20 ≤ px ∧ px ≤ 20) ∧ (-20 ≤ py ∧ py ≤ 20) ∧
    H F = some (.lst vs) ∧ vs.length = i ∧ Paired (MoveAt K H) vs ms ∧ ∀ m ∈ ms, VMove m
section
variable {P : Program} {w : World} {K : PySem.W.Frag} {mg : Str → Option Value} {base : Heap}
def sp__law_window (K : PySem.W.Frag) : Sp := fun vs H Q _ => ∃ (st : Addr), vs = [.ref st] ∧ IsSt H st ∧ ∀ (v : V) (x y : Int) (ms : List MV) (H' : Hp), Gr st H H' → WinAt K H' v x y ms → VWin x y ms → Q v H'
theorem ok__law_window {f : Addr} {fd : FuncData} (F : Fun K "_law_window" "_law_window" s__law_window f fd) (T : Txt K mg) (D__law_take : Cl P w K mg base 1 "_law_take" ["_law_state_here", "_law_many"] (sp__law_take K)) : FnOk P w K mg base CX0 2 f fd ["_law_state_here"] (sp__law_window K) := by
  refine F.ok sc__law_window (fun vs H Q E h => ?_) (fun cdv A outer s H vs Q E hr h => ?_)
  · obtain ⟨st, rfl, _⟩ := h
    rfl
  · obtain ⟨st, rfl, hs, q⟩ := h
    refine ⟨_, (pss_cons (ps_par (i := 1) (j := 2) (by rfl) sc__law_window.nd rfl rfl (by decide) rfl rfl (pa_cons (pe_lst pa_nil) (pa_cons (pe_ix ix_list (pe_lst (pa_cons pe_int (pa_cons pe_int (pa_cons (pe_own D__law_take (hr.mono (by omega)) (by rfl) (pa_cons (pv 0) (pa_cons pe_int pa_nil))) (pa_cons pe_int pa_nil))))) (pe_own D__law_take (hr.mono (by omega)) (by rfl) (pa_cons (pv 0) (pa_cons pe_int pa_nil))) (fun _ _ => rfl)) pa_nil)) (by rfl))
      (pss_cons (ps_par (i := 3) (j := 4) (by rfl) sc__law_window.nd rfl rfl (by decide) rfl rfl (pa_cons (pe_op op_sub (pe_own D__law_take (hr.mono (by omega)) (by rfl) (pa_cons (pv 0) (pa_cons pe_int pa_nil))) pe_int) (pa_cons (pe_op op_sub (pe_own D__law_take (hr.mono (by omega)) (by rfl) (pa_cons (pv 0) (pa_cons pe_int pa_nil))) pe_int) pa_nil)) (by rfl))
      (pss_cons (ps_set (i := 5) sc__law_window.nd rfl (Or.inl rfl) (pe_tup (pa_cons (pv 3) (pa_cons (pv 4) pa_nil))))
      (pss_cons (ps_for PassesOwn.never rfl (pi_range1 (by rfl) T.b_range (pa_cons (pv 2) pa_nil)) (pg_name (i := 6) sc__law_window.nd rfl (Or.inl rfl))
        (C8.pss_cut (ps_if (pt_cmpR op_gt (pe_own D__law_take (hr.mono (by omega)) (by rfl) (pa_cons (pv 0) (pa_cons pe_int pa_nil))) pe_int (nomark _)) (pss_one (ps_set (i := 5) sc__law_window.nd rfl (Or.inl rfl) (pe_tup (pa_cons (pe_op op_sub (pe_own D__law_take (hr.mono (by omega)) (by rfl) (pa_cons (pv 0) (pa_cons pe_int pa_nil))) pe_int) (pa_cons (pe_ix ix_list (pe_lst (pa_cons (pe_op op_sub (pe_own D__law_take (hr.mono (by omega)) (by rfl) (pa_cons (pv 0) (pa_cons pe_int pa_nil))) pe_int) (pa_cons (pe_ix ix_tup (pv 5) pe_int (fun _ _ => rfl)) pa_nil))) (pe_own D__law_take (hr.mono (by omega)) (by rfl) (pa_cons (pv 0) (pa_cons pe_int pa_nil))) (fun _ _ => rfl)) pa_nil))))) pss_nil)
      (pss_one (ps_expr (pe_bm PySem.F.plainAttrs_list PySem.F.slot_list_append PySem.F.type_list_append mt_append (pv 1) (pa_cons (pe_op op_catA (pv 5) (pe_tup (pa_cons (pe_ix ix_list (pe_lst (pa_cons pe_int (pa_cons pe_int (pa_cons (pe_own D__law_take (hr.mono (by omega)) (by rfl) (pa_cons (pv 0) (pa_cons pe_int pa_nil))) (pa_cons (pe_own D__law_take (hr.mono (by omega)) (by rfl) (pa_cons (pv 0) (pa_cons pe_int pa_nil))) (pa_cons pe_int pa_nil)))))) (pe_own D__law_take (hr.mono (by omega)) (by rfl) (pa_cons (pv 0) (pa_cons pe_int pa_nil))) (fun _ _ => rfl)) pa_nil))) pa_nil))))))
      (pss_one (ps_ret (pe_tup (pa_cons (pv 3) (pa_cons (pv 4) (pa_cons (pe_callTy call_tuple_of (by rfl) T.b_tuple (by decide +kernel) (pa_cons (pv 1) pa_nil)) pa_nil)))))))))), ?_⟩
    refine ⟨Nat.zero_le _, fun F nF => ?_⟩
    have nFs := st_ne hs nF
    obtain ⟨s1, e1⟩ := new_at (.lst []) nF
    generalize upd H F (.lst []) = H1 at s1 e1 ⊢
    have g1 := gr_same (st := st) s1
    refine ⟨_, rfl, st, 9, rfl, g1.2 hs, by decide, by decide, fun r2 H2 a2 b2 g2 => ⟨(by show 4 ≤ sizeLine; decide), fun p3 np3 => ?_⟩⟩
    have g12 := g1.trans g2
    obtain ⟨s3, e3⟩ := new_at (.lst [.int 0, .int 1, .int r2, .int 8]) np3
    have np3s := st_ne (g12.2 hs) np3
    generalize upd H2 p3 (.lst [.int 0, .int 1, .int r2, .int 8]) = H3 at s3 e3 ⊢
    have g13 := g12.trans (gr_same (st := st) s3)
    refine ⟨_, rfl, st, 4, rfl, g13.2 hs, by decide, by decide, fun r4 H4 a4 b4 g4 => ?_⟩
    have g14 := g13.trans g4
    obtain ⟨mn, m0, m1, em⟩ : ∃ m : Int, 0 ≤ m ∧ m ≤ 8 ∧ atI [V.int 0, .int 1, .int r2, .int 8] r4 = some (.int m) := by
      rcases (by omega : r4 = 0 ∨ r4 = 1 ∨ r4 = 2 ∨ r4 = 3) with e | e | e | e <;> subst e
      · exact ⟨0, by omega, by omega, rfl⟩
      · exact ⟨1, by omega, by omega, rfl⟩
      · exact ⟨r2, by omega, by omega, rfl⟩
      · exact ⟨8, by omega, by omega, rfl⟩
    refine ⟨p3, _, r4, _, rfl, rfl, .inl (.inl (g4.1 _ _ np3s e3)), em, _, _, rfl, ?_⟩
    -- x, y
    refine ⟨_, rfl, st, 41, rfl, g14.2 hs, by decide, by decide, fun r5 H5 a5 b5 g5 => ⟨_, _, rfl, rfl, ?_⟩⟩
    have g15 := g14.trans g5
    refine ⟨_, rfl, st, 41, rfl, g15.2 hs, by decide, by decide, fun r6 H6 a6 b6 g6 => ⟨_, _, rfl, rfl, _, _, rfl, ?_⟩⟩
    have g16 := g15.trans g6
    -- place
    refine ⟨_, rfl, _, rfl, (by show 2 ≤ sizeLine; decide), fun p7 np7 => ?_⟩
    have F6 : H6 F = some (.lst []) := (((g2.trans (gr_same s3)).trans g4).trans (g5.trans g6)).1 _ _ nFs e1
    obtain ⟨s7, e7⟩ := new_at (.tup [.int (r5 - 20), .int (r6 - 20)]) np7
    have g17 := g16.trans (gr_same (st := st) s7)
    refine ⟨_, rfl, mn, rfl, by omega, by omega, for_range (lo := 0) (n := mn.toNat) (PVw K st H F mn (r5 - 20) (r6 - 20)) ?_ ?_ ?_⟩
    · exact ⟨g17, p7, _, _, [], [], none, rfl, e7, ⟨by omega, by omega⟩, ⟨by omega, by omega⟩, s7 _ _ F6, rfl, .nil, fun m hm => by cases hm⟩
    · intro i σ H8 hi hP
      refine ⟨fun σ' H' => PVw K st H F mn (r5 - 20) (r6 - 20) i σ' H', ?_, ?_⟩
      · obtain ⟨g8, pp, px, py, vs, ms, tv, rfl, hpp, hx, hy, hF, hlen, pd, vm⟩ := hP
        have hs8 := g8.2 hs
        refine ⟨_, rfl, st, 4, rfl, hs8, by decide, by decide, fun r9 H9 a9 b9 g9 => ⟨_, _, rfl, rfl, _, rfl, ite2 (fun _ => ?_) (fun _ => ?_)⟩⟩
        · have hs9 := g9.2 hs8
          refine ⟨_, rfl, st, 41, rfl, hs9, by decide, by decide, fun r10 H10 a10 b10 g10 => ⟨_, _, rfl, rfl, ?_⟩⟩
          have hs10 := g10.2 hs9
          refine ⟨_, rfl, st, 41, rfl, hs10, by decide, by decide, fun r11 H11 a11 b11 g11 => ⟨_, _, rfl, rfl, ?_⟩⟩
          have g811 := (g9.trans g10).trans g11
          have hs11 := g811.2 hs8
          have hp11 := g811.1 _ _ (st_neT hs8 hpp) hpp
          refine ⟨_, rfl, pp, _, 1, _, rfl, rfl, .inl (.inl hp11), rfl, (by show 2 ≤ sizeLine; decide), fun p12 np12 => ?_⟩
          obtain ⟨s12, e12⟩ := new_at (.lst [.int (r11 - 20), .int py]) np12
          have n12 := st_ne hs11 np12
          have g812 := g811.trans (gr_same (st := st) s12)
          refine ⟨_, rfl, st, 2, rfl, g812.2 hs8, by decide, by decide, fun r13 H13 a13 b13 g13 => ?_⟩
          have g813 := g812.trans g13
          obtain ⟨d, d0, d1, ed⟩ : ∃ d : Int, -20 ≤ d ∧ d ≤ 20 ∧ atI [V.int (r11 - 20), .int py] r13 = some (.int d) := by
            rcases (by omega : r13 = 0 ∨ r13 = 1) with e | e <;> subst e
            · exact ⟨_, by omega, by omega, rfl⟩
            · exact ⟨py, hy.1, hy.2, rfl⟩
          refine ⟨p12, _, r13, _, rfl, rfl, .inl (.inl (g13.1 _ _ n12 e12)), ed, (by show 2 ≤ sizeLine; decide), fun p14 np14 => ?_⟩
          have g814 := g813.trans (gr_same (st := st) (same_upd (o := .tup [.int (r10 - 20), .int d]) np14))
          exact ⟨g8.trans g814, p14, _, _, vs, ms, _, rfl, upd_same, ⟨by omega, by omega⟩, ⟨d0, d1⟩, g814.1 _ _ nFs hF, hlen, Paired.mono pd fun _ _ => MoveAt.keep (g814.tk hs8), vm⟩
        · exact ⟨g8.trans g9, pp, px, py, vs, ms, _, rfl, g9.1 _ _ (st_neT hs8 hpp) hpp, hx, hy, g9.1 _ _ nFs hF, hlen, Paired.mono pd fun _ _ => MoveAt.keep (g9.tk hs8), vm⟩
      · rintro σ' H' ⟨g8, pp, px, py, vs, ms, tv, rfl, hpp, hx, hy, hF, hlen, pd, vm⟩
        have hs8 := g8.2 hs
        refine ⟨_, rfl, .inl ⟨rfl, _, .inl (.inl hF)⟩, _, rfl, ?_⟩
        refine ⟨_, rfl, st, 8, rfl, hs8, by decide, by decide, fun r9 H9 a9 b9 g9 => ?_⟩
        refine ⟨_, rfl, st, 25, rfl, g9.2 hs8, by decide, by decide, fun r10 H10 a10 b10 g10 => ?_⟩
        have g810 := g9.trans g10
        refine ⟨(by show 5 ≤ sizeLine; decide), fun p11 np11 => ?_⟩
        obtain ⟨s11, e11⟩ := new_at (.lst [.int 0, .int 1, .int r9, .int r10, .int 24]) np11
        have n11 := st_ne (g810.2 hs8) np11
        have g811 := g810.trans (gr_same (st := st) s11)
        refine ⟨_, rfl, st, 5, rfl, g811.2 hs8, by decide, by decide, fun r12 H12 a12 b12 g12 => ?_⟩
        have g812 := g811.trans g12
        obtain ⟨d, d0, d1, ed⟩ : ∃ d : Int, 0 ≤ d ∧ d ≤ 24 ∧ atI [V.int 0, .int 1, .int r9, .int r10, .int 24] r12 = some (.int d) := by
          rcases (by omega : r12 = 0 ∨ r12 = 1 ∨ r12 = 2 ∨ r12 = 3 ∨ r12 = 4) with e | e | e | e | e <;> subst e
          · exact ⟨0, by omega, by omega, rfl⟩
          · exact ⟨1, by omega, by omega, rfl⟩
          · exact ⟨r9, by omega, by omega, rfl⟩
          · exact ⟨r10, by omega, by omega, rfl⟩
          · exact ⟨24, by omega, by omega, rfl⟩
        refine ⟨p11, _, r12, _, rfl, rfl, .inl (.inl (g12.1 _ _ n11 e11)), ed, (by show 1 ≤ sizeLine; decide), fun p13 np13 => ?_⟩
        obtain ⟨s13, e13⟩ := new_at (.tup [.int d]) np13
        have g813 := g812.trans (gr_same (st := st) s13)
        have hp13 := g813.1 _ _ (st_neT hs8 hpp) hpp
        refine ⟨pp, p13, _, _, rfl, rfl, .inl (.inl hp13), .inl (.inl e13), (by show 3 ≤ sizeLine; decide), fun z => absurd z (List.cons_ne_nil _ _), fun _ z => absurd z (List.cons_ne_nil _ _), fun _ _ p14 np14 => ?_⟩
        obtain ⟨s14, e14⟩ := new_at (.tup ([.int px, .int py] ++ [.int d])) np14
        have g814 := g813.trans (gr_same (st := st) s14)
        have hF14 := g814.1 _ _ nFs hF
        refine ⟨F, _, _, rfl, rfl, hF14, small1000 (by omega), ?_⟩
        have k15 : TKeep K H' (upd (upd (upd H12 p13 (.tup [.int d])) p14 (.tup ([.int px, .int py] ++ [.int d]))) F (.lst (vs ++ [.ref p14]))) := fun a xs h => tk_updL hF14 _ _ (g814.sqT hs8 h)
        refine ⟨⟨fun b o nb e => ?_, fun hz => ?_⟩, pp, px, py, vs ++ [.ref p14], ms ++ [(px, py, d)], _, rfl, ?_, hx, hy, upd_same, ?_, ?_, ?_⟩
        · rw [upd_ne (ne_of_none e nF)]
          exact (g8.trans g814).1 b o nb e
        · obtain ⟨x, y, hxx, hxy⟩ := (g8.trans g814).2 hz
          refine ⟨x, y, ?_, hxy⟩
          rw [upd_ne (Ne.symm nFs)]
          exact hxx
        · rw [upd_ne (ne_of (s14 _ _ hp13) hF14 (by intro z; cases z))]
          exact s14 _ _ hp13
        · rw [List.length_append, hlen]
          rfl
        · exact Paired.snocP (Paired.mono pd fun _ _ => MoveAt.keep k15) ⟨p14, rfl, tk_updL hF14 _ _ (.inl (.inl e14))⟩
        · intro m hm
          rcases List.mem_append.mp hm with z | z
          · exact vm m z
          · rw [List.mem_singleton.mp z]
            exact ⟨hx, hy, d0, d1⟩
    · rintro σ H8 ⟨g8, pp, px, py, vs, ms, tv, rfl, hpp, hx, hy, hF, hlen, pd, vm⟩
      have hl : vs.length = ms.length := Paired.length pd
      refine ⟨_, rfl, _, rfl, _, rfl, F, vs, rfl, .inl ⟨.inl (.inl hF), fun l nl => ⟨(by show 3 ≤ sizeLine; decide), fun p9 np9 => ?_⟩⟩⟩
      obtain ⟨s9, e9⟩ := new_at (.tup vs) nl
      have s10 := same_upd (o := .tup [.int (r5 - 20), .int (r6 - 20), .ref l]) np9
      refine q _ (r5 - 20) (r6 - 20) ms _ ((g8.trans (gr_same s9)).trans (gr_same s10)) ⟨p9, _, rfl, .inl (.inl upd_same), l, vs, rfl, .inl (.inl (s10 _ _ e9)), Paired.mono pd fun _ _ => MoveAt.keep (Same.tk (s9.trans s10))⟩ ⟨⟨by omega, by omega⟩, ⟨by omega, by omega⟩, by omega, vm⟩
end

def spSame (n : Nat) (K : PySem.W.Frag) : Sp := fun vs H Q _ => ∃ (x y : V) (d : PyData), vs = [x, y] ∧ Dp K H x d ∧ Dp K H y d ∧ dOk n d ∧ ∀ H', Same H H' → Q (.bl true) H'
section
variable {P : Program} {w : World} {K : PySem.W.Frag} {mg : Str → Option Value} {base : Heap}
theorem same_step {f : Addr} {fd : FuncData} (F : Fun K "_law_same" "_law_same" s__law_same f fd) (T : Txt K mg) (n : Nat) (D__law_same : ∀ m, n = m + 1 → Cl P w K mg base n "_law_same" ["_law_found", "_law_due"] (spSame m K)) :
    FnOk P w K mg base CX0 (n + 1) f fd ["_law_found", "_law_due"] (spSame n K) := by
  refine F.ok sc__law_same (fun vs H Q E h => ?_) (fun cdv A outer s H vs Q E hr h => ?_)
  · obtain ⟨x, y, d, rfl, _⟩ := h
    rfl
  · obtain ⟨x, y, d, rfl, hx, hy, hd, q⟩ := h
    have flat : flD d → ∃ t, PSs (cxOf CX0 P w K mg base ["_law_found", "_law_due", "_law_one", "_law_other"] "_law_same" (defScope s__law_same) f cdv A outer s H E).nox (defBody s__law_same) t ∧ t { nx := fun _ H' => Q .non H', rt := Q } (L2.start ["_law_found", "_law_due", "_law_one", "_law_other"] [x, y]) H := by
      intro fl
      obtain ⟨rfl, t, b, fx⟩ := fl.fl hx hy
      refine ⟨_, (pss_cons (ps_if (pt_val (pe_callB call_isiT (by rfl) T.b_isinstance (by decide +kernel) (pa_cons (pv 1) (pa_cons (pe_tup (pa_cons (pe_bltn (v := .ty "tuple") (by rfl) T.b_tuple (by decide +kernel) rfl) (pa_cons (pe_bltn (v := .ty "list") (by rfl) T.b_list (by decide +kernel) rfl) pa_nil))) pa_nil)))) (pss_cons ps_never
      (pss_one ps_never)) pss_nil)
      (pss_one (ps_ret (pe_and (pe_cmpR op_eq (pe_callB call_isi (by rfl) T.b_isinstance (by decide +kernel) (pa_cons (pv 0) (pa_cons (pe_bltn (v := .ty "bool") (by rfl) T.b_bool (by decide +kernel) rfl) pa_nil))) (pe_callB call_isi (by rfl) T.b_isinstance (by decide +kernel) (pa_cons (pv 1) (pa_cons (pe_bltn (v := .ty "bool") (by rfl) T.b_bool (by decide +kernel) rfl) pa_nil))) (nomark _)) (pe_one (pe_cmpR op_eq (pv 0) (pv 1) (nomark _))))))), ?_⟩
      refine ⟨_, rfl, (by show 2 ≤ sizeLine; decide), fun p np => ⟨x, p, [.ty "tuple", .ty "list"], _, _, false, rfl, upd_same, .cons (.ty _) (.cons (.ty _) .nil), fx.ty, fx.kit2, _, rfl, iteF ?_⟩⟩
      refine ⟨_, rfl, _, _, _, _, b, rfl, .ty _, fx.ty, kit_ty fx.kit, _, rfl, _, _, _, _, b, rfl, .ty _, fx.ty, kit_ty fx.kit, rfl, _, rfl, ite2 (fun e => ?_) (fun e => absurd (decide_eq_true rfl) e)⟩
      refine ⟨_, rfl, _, rfl, Fl.scal fx fx, ?_⟩
      rw [decide_eq_true rfl]
      exact q _ (same_upd np)
    cases n with
    | zero => exact flat hd
    | succ m =>
      rcases hd with fl | ⟨ds, hds, hlen, hall⟩
      · exact flat fl
      · have D__law_same := D__law_same m rfl
        rcases hds with rfl | rfl
        · cases hx with | @lst a xs _ ha hxs =>
          cases hy with | @lst b ys _ hb hys =>
          have l1 := DpAll.len hxs
          have l2 := DpAll.len hys
          refine ⟨_, (pss_cons (ps_if (pt_val (pe_callB call_isiT (by rfl) T.b_isinstance (by decide +kernel) (pa_cons (pv 1) (pa_cons (pe_tup (pa_cons (pe_bltn (v := .ty "tuple") (by rfl) T.b_tuple (by decide +kernel) rfl) (pa_cons (pe_bltn (v := .ty "list") (by rfl) T.b_list (by decide +kernel) rfl) pa_nil))) pa_nil)))) (pss_cons (ps_if (PW.pt (pw_or (pt_cmpR op_ne (pe_callB call_isi (by rfl) T.b_isinstance (by decide +kernel) (pa_cons (pv 0) (pa_cons (pe_bltn (v := .ty "tuple") (by rfl) T.b_tuple (by decide +kernel) rfl) pa_nil))) (pe_callB call_isi (by rfl) T.b_isinstance (by decide +kernel) (pa_cons (pv 1) (pa_cons (pe_bltn (v := .ty "tuple") (by rfl) T.b_tuple (by decide +kernel) rfl) pa_nil))) (nomark _)) (pw_or1 (pt_cmpR op_ne (pe_callB call_isi (by rfl) T.b_isinstance (by decide +kernel) (pa_cons (pv 0) (pa_cons (pe_bltn (v := .ty "list") (by rfl) T.b_list (by decide +kernel) rfl) pa_nil))) (pe_callB call_isi (by rfl) T.b_isinstance (by decide +kernel) (pa_cons (pv 1) (pa_cons (pe_bltn (v := .ty "list") (by rfl) T.b_list (by decide +kernel) rfl) pa_nil))) (nomark _))))) (pss_one (ps_ret pe_bl)) pss_nil)
      (pss_one (ps_ret (pe_and (pe_cmpR op_eq (pe_callB call_len_seq (by rfl) T.b_len (by decide +kernel) (pa_cons (pv 0) pa_nil)) (pe_callB call_len_seq (by rfl) T.b_len (by decide +kernel) (pa_cons (pv 1) pa_nil)) (nomark _)) (pe_one (pe_callB (cr_all rfl) (by rfl) T.b_all (by decide +kernel) (pa_cons (pe_lc (own := [("_law_one", 2), ("_law_other", 3)]) (g := (gTup _ 2 (gCons (gName 2) (gCons (gName 3) gNil)))) (tt := tYes) (by rfl) sc__law_same.nd (RZ.pi_zipA (by rfl) T.b_zip (pa_cons (pv 0) (pa_cons (pv 1) pa_nil))) (blkOk_by (own := [("_law_one", 2), ("_law_other", 3)]) (N := ["_law_found", "_law_due", "_law_one", "_law_other"]) (sc := defScope s__law_same) (by decide +kernel)) (fun _ _ _ _ _ => (pg_tup (by rfl) (pgs_cons (pg_name (i := 2) sc__law_same.nd rfl (Or.inl rfl)) (pgs_cons (pg_name (i := 3) sc__law_same.nd rfl (Or.inl rfl)) pgs_nil)))) (fun _ _ _ _ _ => pts_nil) (fun _ _ _ _ _ => (pe_own D__law_same (hr.mono (by omega)) (by rfl) (pa_cons (pv 2) (pa_cons (pv 3) pa_nil))))) pa_nil))))))) pss_nil)
      (pss_one (ps_ret (pe_and (pe_cmpR op_eq (pe_callB call_isi (by rfl) T.b_isinstance (by decide +kernel) (pa_cons (pv 0) (pa_cons (pe_bltn (v := .ty "bool") (by rfl) T.b_bool (by decide +kernel) rfl) pa_nil))) (pe_callB call_isi (by rfl) T.b_isinstance (by decide +kernel) (pa_cons (pv 1) (pa_cons (pe_bltn (v := .ty "bool") (by rfl) T.b_bool (by decide +kernel) rfl) pa_nil))) (nomark _)) (pe_one (pe_cmpR op_eq (pv 0) (pv 1) (nomark _))))))), ?_⟩
          refine ⟨_, rfl, (by show 2 ≤ sizeLine; decide), fun p np => ⟨.ref b, p, [.ty "tuple", .ty "list"], _, _, true, rfl, upd_same, .cons (.ty _) (.cons (.ty _) .nil), tyL ((same_upd np).seq hb),
            kitAny_cons (kit_ty (r := false) (by decide +kernel)) (fun _ => kitAny_cons (kit_ty (r := true) (by decide +kernel)) (fun z => nomatch z) (fun _ => rfl)) (fun z => nomatch z), _, rfl, iteT ?_⟩⟩
          have s1 := same_upd (o := .tup [.ty "tuple", .ty "list"]) np
          generalize upd H p (.tup [.ty "tuple", .ty "list"]) = H1 at s1 ⊢
          have ta := tyL (s1.seq ha)
          have tb := tyL (s1.seq hb)
          refine ⟨_, rfl, _, _, _, _, false, rfl, .ty _, ta, kit_ty (by decide +kernel), _, rfl, _, _, _, _, false, rfl, .ty _, tb, kit_ty (by decide +kernel), rfl, _, rfl, ite2 (fun e => nomatch e) (fun _ => ?_)⟩
          refine ⟨_, rfl, _, _, _, _, true, rfl, .ty _, ta, kit_ty (by decide +kernel), _, rfl, _, _, _, _, true, rfl, .ty _, tb, kit_ty (by decide +kernel), rfl, _, rfl, ite2 (fun e => nomatch e) (fun _ => ?_)⟩
          refine ⟨_, rfl, a, xs, rfl, .inl (s1.seq ha), _, rfl, b, ys, rfl, .inl (s1.seq hb), rfl, _, rfl, ite2 (fun _ => ?_) (fun e => absurd (decide_eq_true (by rw [l1, l2])) e)⟩
          refine ⟨_, rfl, _, rfl, a, b, xs, ys, rfl, .inl ⟨s1.seq ha, s1.seq hb, fun D hD => ?_⟩⟩
          refine lc_zip (J := Itz K a b) (by omega) (by omega) hD (fun H2 s2 => ⟨xs, ys, s2.seq (s1.seq ha), s2.seq (s1.seq hb), .inl (Nat.le_refl _)⟩)
            (fun i H2 s2 hi => ⟨xs, ys, xs[i], ys[i]'(by omega), s2.seq (s1.seq ha), s2.seq (s1.seq hb), List.getElem?_eq_getElem hi, List.getElem?_eq_getElem (by omega)⟩)
            (fun i H2 v H3 s2 ⟨T, x, y, e1, e2, e3, f1, f2⟩ => ⟨T, x, y, e1, e2, e3, f1 _ (s2.seq (s1.seq ha)), f2 _ (s2.seq (s1.seq hb))⟩) (fun i x y T H2 R Z hx hy s2 eT hR => ?_) (fun H2 s2 hL => ?_)
          · obtain ⟨d, hd1, hdx⟩ := DpAll.at hxs hx
            obtain ⟨d', hd2, hdy⟩ := DpAll.at hys hy
            have ed : d = d' := Option.some.inj (hd1.symm.trans hd2)
            subst ed
            exact ⟨T, _, rfl, .inl (.inl eT), rfl, _, _, rfl, _, _, rfl, rfl, rfl, yes_ok ⟨_, rfl, _, rfl, x, y, d, rfl, Dp.sm (s1.trans s2) hdx, Dp.sm (s1.trans s2) hdy, hall d (List.mem_of_getElem? hd1), hR⟩⟩
          · refine ⟨D, _, rfl, .inl (.inl hL), ?_⟩
            rw [show (List.replicate xs.length true).all id = true by simp]
            exact q _ (s1.trans s2)
        · cases hx with | @tup a xs _ ha hxs =>
          cases hy with | @tup b ys _ hb hys =>
          have l1 := DpAll.len hxs
          have l2 := DpAll.len hys
          refine ⟨_, (pss_cons (ps_if (pt_val (pe_callB call_isiT (by rfl) T.b_isinstance (by decide +kernel) (pa_cons (pv 1) (pa_cons (pe_tup (pa_cons (pe_bltn (v := .ty "tuple") (by rfl) T.b_tuple (by decide +kernel) rfl) (pa_cons (pe_bltn (v := .ty "list") (by rfl) T.b_list (by decide +kernel) rfl) pa_nil))) pa_nil)))) (pss_cons (ps_if (PW.pt (pw_or (pt_cmpR op_ne (pe_callB call_isi (by rfl) T.b_isinstance (by decide +kernel) (pa_cons (pv 0) (pa_cons (pe_bltn (v := .ty "tuple") (by rfl) T.b_tuple (by decide +kernel) rfl) pa_nil))) (pe_callB call_isi (by rfl) T.b_isinstance (by decide +kernel) (pa_cons (pv 1) (pa_cons (pe_bltn (v := .ty "tuple") (by rfl) T.b_tuple (by decide +kernel) rfl) pa_nil))) (nomark _)) (pw_or1 (pt_cmpR op_ne (pe_callB call_isi (by rfl) T.b_isinstance (by decide +kernel) (pa_cons (pv 0) (pa_cons (pe_bltn (v := .ty "list") (by rfl) T.b_list (by decide +kernel) rfl) pa_nil))) (pe_callB call_isi (by rfl) T.b_isinstance (by decide +kernel) (pa_cons (pv 1) (pa_cons (pe_bltn (v := .ty "list") (by rfl) T.b_list (by decide +kernel) rfl) pa_nil))) (nomark _))))) (pss_one (ps_ret pe_bl)) pss_nil)
      (pss_one (ps_ret (pe_and (pe_cmpR op_eq (pe_callB call_len_seq (by rfl) T.b_len (by decide +kernel) (pa_cons (pv 0) pa_nil)) (pe_callB call_len_seq (by rfl) T.b_len (by decide +kernel) (pa_cons (pv 1) pa_nil)) (nomark _)) (pe_one (pe_callB (cr_all rfl) (by rfl) T.b_all (by decide +kernel) (pa_cons (pe_lc (own := [("_law_one", 2), ("_law_other", 3)]) (g := (gTup _ 2 (gCons (gName 2) (gCons (gName 3) gNil)))) (tt := tYes) (by rfl) sc__law_same.nd (RZ.pi_zipA (by rfl) T.b_zip (pa_cons (pv 0) (pa_cons (pv 1) pa_nil))) (blkOk_by (own := [("_law_one", 2), ("_law_other", 3)]) (N := ["_law_found", "_law_due", "_law_one", "_law_other"]) (sc := defScope s__law_same) (by decide +kernel)) (fun _ _ _ _ _ => (pg_tup (by rfl) (pgs_cons (pg_name (i := 2) sc__law_same.nd rfl (Or.inl rfl)) (pgs_cons (pg_name (i := 3) sc__law_same.nd rfl (Or.inl rfl)) pgs_nil)))) (fun _ _ _ _ _ => pts_nil) (fun _ _ _ _ _ => (pe_own D__law_same (hr.mono (by omega)) (by rfl) (pa_cons (pv 2) (pa_cons (pv 3) pa_nil))))) pa_nil))))))) pss_nil)
      (pss_one (ps_ret (pe_and (pe_cmpR op_eq (pe_callB call_isi (by rfl) T.b_isinstance (by decide +kernel) (pa_cons (pv 0) (pa_cons (pe_bltn (v := .ty "bool") (by rfl) T.b_bool (by decide +kernel) rfl) pa_nil))) (pe_callB call_isi (by rfl) T.b_isinstance (by decide +kernel) (pa_cons (pv 1) (pa_cons (pe_bltn (v := .ty "bool") (by rfl) T.b_bool (by decide +kernel) rfl) pa_nil))) (nomark _)) (pe_one (pe_cmpR op_eq (pv 0) (pv 1) (nomark _))))))), ?_⟩
          refine ⟨_, rfl, (by show 2 ≤ sizeLine; decide), fun p np => ⟨.ref b, p, [.ty "tuple", .ty "list"], _, _, true, rfl, upd_same, .cons (.ty _) (.cons (.ty _) .nil), tyT (Same.sqT (same_upd np) hb),
            kitAny_cons (kit_ty (r := true) (by decide +kernel)) (fun z => nomatch z) (fun _ => rfl), _, rfl, iteT ?_⟩⟩
          have s1 := same_upd (o := .tup [.ty "tuple", .ty "list"]) np
          generalize upd H p (.tup [.ty "tuple", .ty "list"]) = H1 at s1 ⊢
          have ta := tyT (Same.sqT s1 ha)
          have tb := tyT (Same.sqT s1 hb)
          refine ⟨_, rfl, _, _, _, _, true, rfl, .ty _, ta, kit_ty (by decide +kernel), _, rfl, _, _, _, _, true, rfl, .ty _, tb, kit_ty (by decide +kernel), rfl, _, rfl, ite2 (fun e => nomatch e) (fun _ => ?_)⟩
          refine ⟨_, rfl, _, _, _, _, false, rfl, .ty _, ta, kit_ty (by decide +kernel), _, rfl, _, _, _, _, false, rfl, .ty _, tb, kit_ty (by decide +kernel), rfl, _, rfl, ite2 (fun e => nomatch e) (fun _ => ?_)⟩
          refine ⟨_, rfl, a, xs, rfl, .inr (Same.sqT s1 ha), _, rfl, b, ys, rfl, .inr (Same.sqT s1 hb), rfl, _, rfl, ite2 (fun _ => ?_) (fun e => absurd (decide_eq_true (by rw [l1, l2])) e)⟩
          refine ⟨_, rfl, _, rfl, a, b, xs, ys, rfl, .inr ⟨Same.sqT s1 ha, Same.sqT s1 hb, fun D hD => ?_⟩⟩
          refine lc_zip (J := RZ.ItzT K a b) (by omega) (by omega) hD (fun H2 s2 => ⟨xs, ys, Same.sqT s2 (Same.sqT s1 ha), Same.sqT s2 (Same.sqT s1 hb), .inl (Nat.le_refl _)⟩)
            (fun i H2 s2 hi => ⟨xs, ys, xs[i], ys[i]'(by omega), Same.sqT s2 (Same.sqT s1 ha), Same.sqT s2 (Same.sqT s1 hb), List.getElem?_eq_getElem hi, List.getElem?_eq_getElem (by omega)⟩)
            (fun i H2 v H3 s2 ⟨T, x, y, e1, e2, e3, f1, f2⟩ => ⟨T, x, y, e1, e2, e3, f1 _ (Same.sqT s2 (Same.sqT s1 ha)), f2 _ (Same.sqT s2 (Same.sqT s1 hb))⟩) (fun i x y T H2 R Z hx hy s2 eT hR => ?_) (fun H2 s2 hL => ?_)
          · obtain ⟨d, hd1, hdx⟩ := DpAll.at hxs hx
            obtain ⟨d', hd2, hdy⟩ := DpAll.at hys hy
            have ed : d = d' := Option.some.inj (hd1.symm.trans hd2)
            subst ed
            exact ⟨T, _, rfl, .inl (.inl eT), rfl, _, _, rfl, _, _, rfl, rfl, rfl, yes_ok ⟨_, rfl, _, rfl, x, y, d, rfl, Dp.sm (s1.trans s2) hdx, Dp.sm (s1.trans s2) hdy, hall d (List.mem_of_getElem? hd1), hR⟩⟩
          · refine ⟨D, _, rfl, .inl (.inl hL), ?_⟩
            rw [show (List.replicate xs.length true).all id = true by simp]
            exact q _ (s1.trans s2)
theorem same_all {f : Addr} {fd : FuncData} (F : Fun K "_law_same" "_law_same" s__law_same f fd) (T : Txt K mg) (hb : Binds K fd ["_law_found", "_law_due"] []) (hm : mg "_law_same" = some (.ref f)) :
    ∀ n, Cl P w K mg base (n + 1) "_law_same" ["_law_found", "_law_due"] (spSame n K)
  | 0 => ⟨f, fd, same_step F T 0 (fun m e => nomatch e), F.kp, hb, hm⟩
  | n + 1 => ⟨f, fd, same_step F T (n + 1) (fun m e => by cases e; exact same_all F T hb hm n), F.kp, hb, hm⟩
end

section
variable {P : Program} {w : World} {K : PySem.W.Frag} {mg : Str → Option Value} {base : Heap}
def sp_common_divisor (K : PySem.W.Frag) : Sp := fun vs H Q _ => ∃ a b : Nat, vs = [.int a, .int b] ∧ Q (.int ((Nat.gcd a b : Nat) : Int)) H
theorem ok_common_divisor {f : Addr} {fd : FuncData} (F : Fun K "common_divisor" "common_divisor" s_common_divisor f fd) (T : Txt K mg) : FnOk P w K mg base CX0 1 f fd ["one", "other"] (sp_common_divisor K) := by
  refine F.ok sc_common_divisor (fun vs H Q E h => ?_) (fun cdv A outer s H vs Q E hr h => ?_)
  · obtain ⟨a, b, rfl, _⟩ := h
    rfl
  · obtain ⟨a, b, rfl, q⟩ := h
    refine ⟨_, (pss_cons (ps_while PassesOwn.never (pt_truth (pv 1) (by intro _; rfl)) (pss_one (ps_par (i := 0) (j := 1) (by rfl) sc_common_divisor.nd rfl rfl (by decide) rfl rfl (pa_cons (pv 1) (pa_cons (pe_op op_modN (pv 0) (pv 1)) pa_nil)) (by rfl))))
      (pss_one (ps_ret (pv 0)))), ?_⟩
    refine while_by (fun σ H' => H = H' ∧ ∃ c d : Nat, σ = [some (.int c), some (.int d)] ∧ Nat.gcd c d = Nat.gcd a b) (fun σ _ => match σ with | [_, some (.int d)] => d.toNat | _ => 0) ⟨rfl, a, b, rfl, rfl⟩ ?_ ?_
    · rintro σ H1 ⟨rfl, c, d, rfl, e⟩
      refine ⟨_, rfl, _, rfl, ite2 (fun hd => ?_) (fun hd => ?_)⟩
      · have d0 : (d : Int) ≠ 0 := fun z => by
          rw [z] at hd
          exact absurd hd (by decide)
        refine ⟨_, rfl, _, rfl, _, rfl, _, _, rfl, rfl, d0, _, _, rfl, ⟨rfl, d, c % d, ?_, ?_⟩, ?_⟩
        · show [some (V.int (d : Int)), some (V.int ((c : Int).fmod (d : Int)))] = _
          rw [Int.fmod_eq_emod_of_nonneg _ (by omega)]
          rfl
        · rw [← e, Nat.gcd_comm c d, Nat.gcd_rec d c, Nat.gcd_comm (c % d) d]
        · show ((c : Int).fmod (d : Int)).toNat < (d : Int).toNat
          have := (fm (x := (c : Int)) (m := (d : Int)) (by omega)).2
          omega
      · have d0 : d = 0 := by
          rcases Nat.eq_zero_or_pos d with z | z
          · exact z
          · exact absurd (show ((d : Int) != 0) = true from bne_iff_ne.mpr (by omega)) hd
        subst d0
        rw [Nat.gcd_zero_right] at e
        refine ⟨_, rfl, ?_⟩
        rw [e]
        exact q
    · rintro σ H1 Q1 Q2 hm ⟨v, e1, k, e2, e3⟩
      exact ⟨v, e1, k, e2, hm _ _ e3⟩
def sp_lowest (K : PySem.W.Frag) : Sp := fun vs H Q _ => ∃ t b : Int, vs = [.int t, .int b] ∧ 1 ≤ b ∧ b ≤ 1000 ∧ ∀ H' v, Same H H' → RowAt K H' v (lo t b) → Q v H'
theorem ok_lowest {f : Addr} {fd : FuncData} (F : Fun K "lowest" "lowest" s_lowest f fd) (T : Txt K mg) (D_common_divisor : Cl P w K mg base 1 "common_divisor" ["one", "other"] (sp_common_divisor K)) : FnOk P w K mg base CX0 2 f fd ["top", "bottom"] (sp_lowest K) := by
  refine F.ok sc_lowest (fun vs H Q E h => ?_) (fun cdv A outer s H vs Q E hr h => ?_)
  · obtain ⟨t, b, rfl, _⟩ := h
    rfl
  · obtain ⟨t, b, rfl, h1, h2, q⟩ := h
    refine ⟨_, (pss_cons (ps_set (i := 2) sc_lowest.nd rfl (Or.inl rfl) (pe_own D_common_divisor (hr.mono (by omega)) (by rfl) (pa_cons (pe_callB call_abs (by rfl) T.b_abs (by decide +kernel) (pa_cons (pv 0) pa_nil)) (pa_cons (pv 1) pa_nil))))
      (pss_one (ps_ret (pe_tup (pa_cons (pe_op op_fdivN (pv 0) (pv 2)) (pa_cons (pe_op op_fdivN (pv 1) (pv 2)) pa_nil)))))), ?_⟩
    obtain ⟨g, t', b', eg, gp, et, eb, bp, el, gle, _⟩ := gcd_facts (t := t) (show 0 < b by omega)
    refine ⟨_, rfl, t, rfl, _, rfl, t.natAbs, b.natAbs, ?_, ?_⟩
    · show [V.int (if t < 0 then -t else t), V.int b] = _
      rw [show (if t < 0 then -t else t) = (t.natAbs : Int) by split <;> omega, show b = ((b.natAbs : Nat) : Int) by omega]
      rfl
    rw [eg]
    refine ⟨_, rfl, _, rfl, t, g, rfl, rfl, ⟨by omega, by omega⟩, _, rfl, _, rfl, b, g, rfl, rfl, ⟨by omega, by omega⟩, (by show 2 ≤ sizeLine; decide), fun p np => ?_⟩
    refine q _ _ (same_upd np) ⟨p, rfl, .inl (.inl ?_)⟩
    rw [upd_same]
    show some (HO.tup [V.int (t.fdiv g), V.int (b.fdiv g)]) = _
    rw [Int.fdiv_eq_ediv_of_nonneg t (show 0 ≤ g by omega), Int.fdiv_eq_ediv_of_nonneg b (show 0 ≤ g by omega)]
    unfold lo
    rw [eg]
def sp_on_the_way (K : PySem.W.Frag) : Sp := fun vs H Q _ => ∃ s g k n : Int, vs = [.int s, .int g, .int k, .int n] ∧ (-20 ≤ s ∧ s ≤ 20) ∧ (-20 ≤ g ∧ g ≤ 20) ∧ 1 ≤ n ∧ n ≤ 1000 ∧ ∀ H' v, Same H H' → RowAt K H' v (lo (s * n + (g - s) * k) n) → Q v H'
theorem ok_on_the_way {f : Addr} {fd : FuncData} (F : Fun K "on_the_way" "on_the_way" s_on_the_way f fd) (T : Txt K mg) (D_lowest : Cl P w K mg base 2 "lowest" ["top", "bottom"] (sp_lowest K)) : FnOk P w K mg base CX0 3 f fd ["start", "goal", "step", "many"] (sp_on_the_way K) := by
  refine F.ok sc_on_the_way (fun vs H Q E h => ?_) (fun cdv A outer s H vs Q E hr h => ?_)
  · obtain ⟨s, g, k, n, rfl, _⟩ := h
    rfl
  · obtain ⟨s0, g, k, n, rfl, hs, hg, h1, h2, q⟩ := h
    refine ⟨_, (pss_one (ps_ret (pe_own D_lowest (hr.mono (by omega)) (by rfl) (pa_cons (pe_op op_add (pe_op op_mul (pv 0) (pv 3)) (pe_op op_mul (pe_op op_sub (pv 1) (pv 0)) (pv 2))) (pa_cons (pv 3) pa_nil))))), ?_⟩
    exact ⟨_, rfl, _, rfl, s0, n, rfl, rfl, .inl ⟨by omega, by omega⟩, _, rfl, _, rfl, g, s0, rfl, rfl, _, rfl, g - s0, k, rfl, rfl, .inl ⟨by omega, by omega⟩, _, _, rfl, rfl, _, rfl, _, n, rfl, h1, h2, q⟩
def sp_place_of (K : PySem.W.Frag) : Sp := fun vs H Q _ => ∃ (v : V) (x y : Int) (ms : List MV) (m : Int), vs = [v, .int m] ∧ WinAt K H v x y ms ∧ VWin x y ms ∧ 0 ≤ m ∧ ∀ H' v, Same H H' → PlAt K H' v (plc x y ms m) → Q v H'
theorem ok_place_of {f : Addr} {fd : FuncData} (F : Fun K "place_of" "place_of" s_place_of f fd) (T : Txt K mg) (D_on_the_way : Cl P w K mg base 3 "on_the_way" ["start", "goal", "step", "many"] (sp_on_the_way K)) : FnOk P w K mg base CX0 4 f fd ["window", "moment"] (sp_place_of K) := by
  refine F.ok sc_place_of (fun vs H Q E h => ?_) (fun cdv A outer s H vs Q E hr h => ?_)
  · obtain ⟨v, x, y, ms, m, rfl, _⟩ := h
    rfl
  · obtain ⟨v, x, y, ms, m, rfl, ⟨p, mv, rfl, hp, pm, vs, rfl, hq, pd⟩, ⟨vx, vy, v8, vm⟩, m0, q⟩ := h
    have hl : vs.length = ms.length := Paired.length pd
    refine ⟨_, (pss_cons (ps_asg (pv 0) (pg_tup (by rfl) (pgs_cons (pg_name (i := 2) sc_place_of.nd rfl (Or.inl rfl)) (pgs_cons (pg_name (i := 3) sc_place_of.nd rfl (Or.inl rfl)) (pgs_cons (pg_name (i := 4) sc_place_of.nd rfl (Or.inl rfl)) pgs_nil)))))
      (pss_cons (ps_set (i := 5) sc_place_of.nd rfl (Or.inl rfl) (pv 1))
      (pss_cons (ps_for PassesOwn.never rfl (pi_tup (pv 4)) (pg_tup (by rfl) (pgs_cons (pg_name (i := 6) sc_place_of.nd rfl (Or.inl rfl)) (pgs_cons (pg_name (i := 7) sc_place_of.nd rfl (Or.inl rfl)) (pgs_cons (pg_name (i := 8) sc_place_of.nd rfl (Or.inl rfl)) pgs_nil))))
        (pss_cons (ps_if (pt_cmpR op_lt (pv 5) (pv 8) (nomark _)) (pss_cons (ps_set (i := 9) sc_place_of.nd rfl (Or.inl rfl) (pe_op op_add (pv 5) pe_int))
      (pss_one (ps_ret (pe_tup (pa_cons (pe_own D_on_the_way (hr.mono (by omega)) (by rfl) (pa_cons (pv 2) (pa_cons (pv 6) (pa_cons (pv 9) (pa_cons (pv 8) pa_nil))))) (pa_cons (pe_own D_on_the_way (hr.mono (by omega)) (by rfl) (pa_cons (pv 3) (pa_cons (pv 7) (pa_cons (pv 9) (pa_cons (pv 8) pa_nil))))) pa_nil)))))) pss_nil)
      (pss_cons (ps_aug (i := 5) sc_place_of.nd rfl (Or.inl rfl) (pv 8) ip_sub)
      (pss_one (ps_par (i := 2) (j := 3) (by rfl) sc_place_of.nd rfl rfl (by decide) rfl rfl (pa_cons (pv 6) (pa_cons (pv 7) pa_nil)) (by rfl))))))
      (pss_one (ps_ret (pe_tup (pa_cons (pe_tup (pa_cons (pv 2) (pa_cons pe_int pa_nil))) (pa_cons (pe_tup (pa_cons (pv 3) (pa_cons pe_int pa_nil))) pa_nil)))))))), ?_⟩
    refine ⟨_, rfl, p, _, rfl, hp, rfl, _, _, rfl, _, _, rfl, _, _, rfl, rfl, ?_⟩
    refine ⟨_, rfl, _, rfl, pm, rfl, ⟨_, hq⟩, for_tup (K := K) (a := pm) (xs := vs) (fun i σ H' => H = H' ∧ ∃ (cx cy t : Int) (y6 y7 y8 y9 : Option V), σ = [some (.ref p), some (.int m), some (.int cx), some (.int cy), some (.ref pm), some (.int t), y6, y7, y8, y9] ∧ (-20 ≤ cx ∧ cx ≤ 20) ∧ (-20 ≤ cy ∧ cy ≤ 20) ∧ 0 ≤ t ∧ plc cx cy (ms.drop i) t = plc x y ms m)
      ⟨rfl, x, y, m, _, _, _, _, rfl, vx, vy, m0, rfl⟩ (fun i σ H' _ z => by rw [← z.1]; exact hq) ?_ ?_⟩
    · rintro i v σ H1 hv ⟨rfl, cx, cy, t, y6, y7, y8, y9, rfl, hcx, hcy, t0, e⟩
      obtain ⟨mm, hm1, pw, rfl, hrow⟩ := Paired.at pd hv
      have hi : i < ms.length := (List.getElem?_eq_some_iff.mp hm1).1
      have ed : ms.drop i = mm :: ms.drop (i + 1) := by
        rw [List.drop_eq_getElem_cons hi]
        congr 1
        rw [List.getElem?_eq_getElem hi] at hm1
        exact Option.some.inj hm1
      rw [ed, plc_cons] at e
      obtain ⟨vmx, vmy, vm3, vm4⟩ := vm mm (List.mem_of_getElem? hm1)
      refine ⟨pw, _, rfl, hrow, rfl, _, _, rfl, _, _, rfl, _, _, rfl, rfl, ?_⟩
      refine ⟨_, rfl, _, rfl, t, mm.2.2, rfl, rfl, _, rfl, ite2 (fun c => ?_) (fun c => ?_)⟩
      · have c1 : t < mm.2.2 := of_decide_eq_true c
        rw [if_pos c1] at e
        refine ⟨_, rfl, t, 1, rfl, rfl, ?_⟩
        refine ⟨_, rfl, _, rfl, _, rfl, _, rfl, cx, mm.1, t + 1, mm.2.2, rfl, hcx, vmx, by omega, by omega, fun H2 v1 s2 r2 => ?_⟩
        refine ⟨_, rfl, _, rfl, _, rfl, _, rfl, cy, mm.2.1, t + 1, mm.2.2, rfl, hcy, vmy, by omega, by omega, fun H3 v2 s3 r3 => ?_⟩
        refine ⟨(by show 2 ≤ sizeLine; decide), fun p4 np4 => ?_⟩
        have s4 := same_upd (o := .tup [v1, v2]) np4
        refine q _ _ ((s2.trans s3).trans s4) ?_
        rw [← e]
        exact ⟨p4, v1, v2, rfl, .inl (.inl upd_same), r2.keep (Same.tk (s3.trans s4)), r3.keep (Same.tk s4)⟩
      · have c1 : ¬ t < mm.2.2 := fun z => c (decide_eq_true z)
        rw [if_neg c1] at e
        refine ⟨_, rfl, _, rfl, t, mm.2.2, rfl, rfl, ?_⟩
        refine ⟨_, rfl, _, rfl, _, _, rfl, ?_⟩
        exact ⟨rfl, mm.1, mm.2.1, t - mm.2.2, _, _, _, _, rfl, vmx, vmy, by omega, e⟩
    · rintro σ H1 ⟨rfl, cx, cy, t, y6, y7, y8, y9, rfl, hcx, hcy, t0, e⟩
      rw [List.drop_of_length_le (by omega), plc_nil] at e
      refine ⟨_, rfl, (by show 2 ≤ sizeLine; decide), fun p1 np1 => ?_⟩
      have s1 := same_upd (o := .tup [.int cx, .int 1]) np1
      refine ⟨_, rfl, (by show 2 ≤ sizeLine; decide), fun p2 np2 => ?_⟩
      have s2 := same_upd (o := .tup [.int cy, .int 1]) np2
      refine ⟨(by show 2 ≤ sizeLine; decide), fun p3 np3 => ?_⟩
      have s3 := same_upd (o := .tup [.ref p1, .ref p2]) np3
      refine q _ _ ((s1.trans s2).trans s3) ?_
      rw [← e]
      exact ⟨p3, _, _, rfl, .inl (.inl upd_same), ⟨p1, rfl, .inl (.inl (s3 _ _ (s2 _ _ upd_same)))⟩, ⟨p2, rfl, .inl (.inl (s3 _ _ upd_same))⟩⟩
def sp_place_at (K : PySem.W.Frag) : Sp := fun vs H Q _ => ∃ (v : V) (x y : Int) (ms : List MV) (m : Int), vs = [v, .int m] ∧ WinAt K H v x y ms ∧ VWin x y ms ∧ 0 ≤ m ∧ m ≤ 1000000000 ∧ ∀ H' v, Same H H' → PlAt K H' v (plc x y ms m) → Q v H'
theorem ok_place_at {f : Addr} {fd : FuncData} (F : Fun K "place_at" "place_at" s_place_at f fd) (T : Txt K mg) (D_need_window : Cl P w K mg base 6 "need_window" ["thing"] (sp_need_window K)) (D_need_moment : Cl P w K mg base 3 "need_moment" ["thing"] (sp_need_moment K)) (D_place_of : Cl P w K mg base 4 "place_of" ["window", "moment"] (sp_place_of K)) : FnOk P w K mg base CX0 7 f fd ["window", "moment"] (sp_place_at K) := by
  refine F.ok sc_place_at (fun vs H Q E h => ?_) (fun cdv A outer s H vs Q E hr h => ?_)
  · obtain ⟨v, x, y, ms, m, rfl, _⟩ := h
    rfl
  · obtain ⟨v, x, y, ms, m, rfl, hw, vw, m0, m1, q⟩ := h
    refine ⟨_, (pss_cons (ps_expr (pe_own D_need_window (hr.mono (by omega)) (by rfl) (pa_cons (pv 0) pa_nil)))
      (pss_cons (ps_expr (pe_own D_need_moment (hr.mono (by omega)) (by rfl) (pa_cons (pv 1) pa_nil)))
      (pss_one (ps_ret (pe_own D_place_of (hr.mono (by omega)) (by rfl) (pa_cons (pv 0) (pa_cons (pv 1) pa_nil))))))), ?_⟩
    refine ⟨_, rfl, v, x, y, ms, rfl, hw, vw, fun H1 s1 => ?_⟩
    refine ⟨_, rfl, m, rfl, m0, m1, ?_⟩
    exact ⟨_, rfl, _, rfl, v, x, y, ms, m, rfl, hw.keep (Same.tk s1), vw, m0, fun H2 v2 s2 r2 => q _ _ (s1.trans s2) r2⟩
end

/-! ### the law's places -/
theorem ks_succ (t b : Int) (n : Nat) : ks t b (n + 1) = ks t b n ++ (if t * (1 + (n : Int)) % b = 0 then [1 + (n : Int)] else []) := by
  unfold ks
  rw [List.range_succ, List.map_append, List.filter_append]
  congr 1
  show List.filter _ [1 + (n : Int)] = _
  by_cases h : t * (1 + (n : Int)) % b = 0
  · rw [if_pos h]
    simp [h]
  · rw [if_neg h]
    simp [h]
theorem ks_len (t b : Int) (n : Nat) : (ks t b n).length ≤ n := by
  unfold ks
  refine Nat.le_trans (List.length_filter_le _ _) ?_
  rw [List.length_map, List.length_range]
  exact Nat.le_refl _
theorem pairedLR {α β : Type} {F : α → β → Prop} {l l' : List α} {m m' : List β} (e : l = l') (e2 : m = m') (h : Paired F l' m') : Paired F l m := by
  rw [e, e2]
  exact h
theorem pad {β : Type} {F : V → β → Prop} {vs : List V} {f : Nat → β} {L : Nat} {v : V} (h : Paired F vs ((List.range L).map f)) (hv : ∀ i, F v (f (L + i))) : ∀ n, Paired F (vs ++ List.replicate n v) ((List.range (L + n)).map f)
  | 0 => by
    rw [List.replicate_zero, List.append_nil]
    exact h
  | n + 1 => by
    rw [List.replicate_succ', ← List.append_assoc, ← Nat.add_assoc, List.range_succ, List.map_append]
    exact Paired.snocP (pad h hv n) (hv n)
section
variable {P : Program} {w : World} {K : PySem.W.Frag} {mg : Str → Option Value} {base : Heap}
def sp__law_lowest (K : PySem.W.Frag) : Sp := fun vs H Q _ => ∃ t b : Int, vs = [.int t, .int b] ∧ 1 ≤ b ∧ b ≤ 500 ∧ (-1000000 ≤ t ∧ t ≤ 1000000) ∧ ∀ H' v, Same H H' → RowAt K H' v (lo t b) → Q v H'
theorem ok__law_lowest {f : Addr} {fd : FuncData} (F : Fun K "_law_lowest" "_law_lowest" s__law_lowest f fd) (T : Txt K mg) : FnOk P w K mg base CX0 1 f fd ["_law_top", "_law_bottom"] (sp__law_lowest K) := by
  refine F.ok sc__law_lowest (fun vs H Q E h => ?_) (fun cdv A outer s H vs Q E hr h => ?_)
  · obtain ⟨t, b, rfl, _⟩ := h
    rfl
  · obtain ⟨t, b, rfl, h1, h2, ht, q⟩ := h
    refine ⟨_, (pss_cons (ps_set (i := 2) sc__law_lowest.nd rfl (Or.inl rfl) (pe_ix ix_list (pe_lc (own := [("_law_k", 3)]) (g := (gName 3)) (by rfl) sc__law_lowest.nd (pi_range2 (by rfl) T.b_range (pa_cons pe_int (pa_cons (pe_op op_add (pv 1) pe_int) pa_nil))) (blkOk_by (own := [("_law_k", 3)]) (N := ["_law_top", "_law_bottom", "_law_least", "_law_k"]) (sc := defScope s__law_lowest) (by decide +kernel)) (fun _ _ _ _ _ => (pg_name (i := 3) sc__law_lowest.nd rfl (Or.inl rfl))) (fun _ _ _ _ _ => (pts_one (pt_cmpR op_eq (pe_op op_modN (pe_op op_mul (pv 0) (pv 3)) (pv 1)) pe_int (nomark _)))) (fun _ _ _ _ _ => (pv 3))) pe_int (fun _ _ => rfl)))
      (pss_one (ps_ret (pe_tup (pa_cons (pe_op op_fdivN (pe_op op_mul (pv 0) (pv 2)) (pv 1)) (pa_cons (pv 2) pa_nil)))))), ?_⟩
    refine ⟨_, rfl, b, 1, rfl, rfl, 1, b + 1, rfl, ⟨by omega, by omega, by omega, by omega⟩, fun D hD => ?_⟩
    have en : (b + 1 - 1).toNat = b.toNat := by omega
    refine lc_range (lo := 1) (n := (b + 1 - 1).toNat) (fun i H' => Same H H' ∧ H' D = some (.lst ((ks t b i).map V.int))) ⟨same_upd hD, upd_same⟩ (fun i H1 hi p1 => ?_) (fun H1 p1 => ?_)
    · obtain ⟨s1, e1⟩ := p1
      refine ⟨rfl, _, rfl, _, rfl, t, _, rfl, rfl, .inl ⟨by omega, by omega⟩, _, rfl, _, b, rfl, rfl, (by show b ≠ 0; omega), rfl, _, rfl, ite2 (fun c => ?_) (fun c => ?_)⟩
      · have c1 : t * (1 + (i : Int)) % b = 0 := by
          have := V.int.inj (of_decide_eq_true c)
          rw [Int.fmod_eq_emod_of_nonneg _ (by omega)] at this
          exact this
        refine ⟨_, rfl, _, e1, ?_, fun a o e => ?_, ?_⟩
        · rw [List.length_map]
          exact small1000 (Nat.le_trans (ks_len t b i) (by omega))
        · rw [upd_ne (ne_of_none e hD)]
          exact s1 _ _ e
        · rw [upd_same, ks_succ, if_pos c1, List.map_append]
          rfl
      · have c1 : ¬ t * (1 + (i : Int)) % b = 0 := fun z => c (decide_eq_true (by
          show V.int ((t * (1 + (i : Int))).fmod b) = V.int 0
          rw [Int.fmod_eq_emod_of_nonneg _ (by omega), z]))
        refine ⟨s1, ?_⟩
        rw [e1, ks_succ, if_neg c1, List.append_nil]
    · obtain ⟨s1, e1⟩ := p1
      rw [en] at e1
      have hh : ((ks t b b.toNat).map V.int)[0]? = some (.int (lo t b).2) := by
        rw [List.getElem?_map, ks_head (by omega)]
        rfl
      refine ⟨D, _, 0, _, rfl, rfl, .inl (.inl e1), at_of (j := 0) rfl hh, ?_⟩
      refine ⟨_, rfl, _, rfl, t, _, rfl, rfl, .inl ⟨by omega, by omega⟩, _, rfl, _, b, rfl, rfl, ⟨by omega, by omega⟩, _, rfl, (by show 2 ≤ sizeLine; decide), fun p np => ?_⟩
      refine q _ _ (s1.trans (same_upd np)) ⟨p, rfl, .inl (.inl ?_)⟩
      rw [upd_same]
      show some (HO.tup [V.int ((t * (lo t b).2).fdiv b), V.int (lo t b).2]) = _
      rw [Int.fdiv_eq_ediv_of_nonneg _ (show 0 ≤ b by omega), lo_top (by omega)]
def sp__law_places (K : PySem.W.Frag) : Sp := fun vs H Q _ => ∃ (v : V) (x y : Int) (ms : List MV) (n : Int), vs = [v, .int n] ∧ WinAt K H v x y ms ∧ VWin x y ms ∧ 0 ≤ n ∧ n ≤ 800 ∧
  ∀ H' p vs, Same H H' → H p = none → H' p = some (.lst vs) → Paired (PlAt K H') vs ((List.range n.toNat).map fun i : Nat => plc x y ms i) → Q (.ref p) H'
theorem ok__law_places {f : Addr} {fd : FuncData} (F : Fun K "_law_places" "_law_places" s__law_places f fd) (T : Txt K mg) (D__law_lowest : Cl P w K mg base 1 "_law_lowest" ["_law_top", "_law_bottom"] (sp__law_lowest K)) : FnOk P w K mg base CX0 2 f fd ["_law_window_here", "_law_many"] (sp__law_places K) := by
  refine F.ok sc__law_places (fun vs H Q E h => ?_) (fun cdv A outer s H vs Q E hr h => ?_)
  · obtain ⟨v, x, y, ms, n, rfl, _⟩ := h
    rfl
  · obtain ⟨v, x, y, ms, n, rfl, ⟨p, mv, rfl, hp, pm, mvs, rfl, hq, pd⟩, ⟨vx, vy, v8, vm⟩, n0, n1, q⟩ := h
    have hl : mvs.length = ms.length := Paired.length pd
    have mt := mtot_nonneg vm
    refine ⟨_, (pss_cons (ps_asg (pv 0) (pg_tup (by rfl) (pgs_cons (pg_name (i := 2) sc__law_places.nd rfl (Or.inl rfl)) (pgs_cons (pg_name (i := 3) sc__law_places.nd rfl (Or.inl rfl)) (pgs_cons (pg_name (i := 4) sc__law_places.nd rfl (Or.inl rfl)) pgs_nil)))))
      (pss_cons (ps_set (i := 5) sc__law_places.nd rfl (Or.inl rfl) (pe_lst pa_nil))
      (pss_cons (ps_for PassesOwn.never rfl (pi_tup (pv 4)) (pg_tup (by rfl) (pgs_cons (pg_name (i := 6) sc__law_places.nd rfl (Or.inl rfl)) (pgs_cons (pg_name (i := 7) sc__law_places.nd rfl (Or.inl rfl)) (pgs_cons (pg_name (i := 8) sc__law_places.nd rfl (Or.inl rfl)) pgs_nil))))
        (pss_cons (ps_for PassesOwn.never rfl (pi_range2 (by rfl) T.b_range (pa_cons pe_int (pa_cons (pe_op op_add (pv 8) pe_int) pa_nil))) (pg_name (i := 9) sc__law_places.nd rfl (Or.inl rfl))
        (pss_cons (ps_set (i := 10) sc__law_places.nd rfl (Or.inl rfl) (pe_op op_add (pe_op op_mul (pv 2) (pe_op op_sub (pv 8) (pv 9))) (pe_op op_mul (pv 6) (pv 9))))
      (pss_one (ps_expr (pe_bm PySem.F.plainAttrs_list PySem.F.slot_list_append PySem.F.type_list_append mt_append (pv 5) (pa_cons (pe_tup (pa_cons (pe_own D__law_lowest (hr.mono (by omega)) (by rfl) (pa_cons (pv 10) (pa_cons (pv 8) pa_nil))) (pa_cons (pe_own D__law_lowest (hr.mono (by omega)) (by rfl) (pa_cons (pe_op op_add (pe_op op_mul (pv 3) (pe_op op_sub (pv 8) (pv 9))) (pe_op op_mul (pv 7) (pv 9))) (pa_cons (pv 8) pa_nil))) pa_nil))) pa_nil))))))
      (pss_one (ps_par (i := 2) (j := 3) (by rfl) sc__law_places.nd rfl rfl (by decide) rfl rfl (pa_cons (pv 6) (pa_cons (pv 7) pa_nil)) (by rfl)))))
      (pss_one (ps_ret (pe_slice sl_list (pe_op op_cat (pv 5) (pe_op op_rep (pe_lst (pa_cons (pe_tup (pa_cons (pe_tup (pa_cons (pv 2) (pa_cons pe_int pa_nil))) (pa_cons (pe_tup (pa_cons (pv 3) (pa_cons pe_int pa_nil))) pa_nil))) pa_nil)) (pv 1))) po_none (po_some (pv 1)))))))), ?_⟩
    refine ⟨_, rfl, p, _, rfl, hp, rfl, _, _, rfl, _, _, rfl, _, _, rfl, rfl, ?_⟩
    refine ⟨Nat.zero_le _, fun F nF => ?_⟩
    have sF : Same H (upd H F (.lst [])) := same_upd nF
    refine ⟨_, rfl, pm, rfl, ⟨_, Same.sqT sF hq⟩, for_tup (K := K) (a := pm) (xs := mvs) (fun j σ H' => Same H H' ∧ ∃ (cx cy : Int) (L : Nat) (vs : List V) (u6 u7 u8 u9 u10 : Option V), σ = [some (.ref p), some (.int n), some (.int cx), some (.int cy), some (.ref pm), some (.ref F), u6, u7, u8, u9, u10] ∧
        H' F = some (.lst vs) ∧ Paired (PlAt K H') vs ((List.range L).map fun i : Nat => plc x y ms i) ∧ (L : Int) = mtot (ms.take j) ∧ (-20 ≤ cx ∧ cx ≤ 20) ∧ (-20 ≤ cy ∧ cy ≤ 20) ∧ ∀ m : Int, (L : Int) ≤ m → plc x y ms m = plc cx cy (ms.drop j) (m - L))
      ⟨sF, x, y, 0, [], _, _, _, _, _, rfl, upd_same, .nil, rfl, vx, vy, fun m _ => by rw [List.drop_zero]; congr 1; simp⟩ (fun j σ H' _ z => Same.sqT z.1 hq) ?_ ?_⟩
    · rintro j v σ H1 hv ⟨s1, cx, cy, L, vs, u6, u7, u8, u9, u10, rfl, hF, pv1, hL, hcx, hcy, hpl⟩
      obtain ⟨mm, hm1, pw, rfl, hrow⟩ := Paired.at pd hv
      have hj : j < ms.length := (List.getElem?_eq_some_iff.mp hm1).1
      have ed : ms.drop j = mm :: ms.drop (j + 1) := by
        rw [List.drop_eq_getElem_cons hj]
        congr 1
        rw [List.getElem?_eq_getElem hj] at hm1
        exact Option.some.inj hm1
      obtain ⟨vmx, vmy, vm3, vm4⟩ := vm mm (List.mem_of_getElem? hm1)
      have hLb : (L : Int) ≤ 200 := by
        have := (mtot_nonneg (ms := ms.take j) fun q hq => vm q (List.mem_of_mem_take hq)).2
        rw [List.length_take] at this
        omega
      refine ⟨pw, _, rfl, Same.sqT s1 hrow, rfl, _, _, rfl, _, _, rfl, _, _, rfl, rfl, ?_⟩
      refine ⟨_, rfl, mm.2.2, 1, rfl, rfl, 1, mm.2.2 + 1, rfl, ⟨by omega, by omega, by omega, by omega⟩, ?_⟩
      have en : (mm.2.2 + 1 - 1).toNat = mm.2.2.toNat := by omega
      refine for_range (lo := 1) (n := (mm.2.2 + 1 - 1).toNat) (fun i σ H' => Same H H' ∧ ∃ (vs : List V) (u9 u10 : Option V), σ = [some (.ref p), some (.int n), some (.int cx), some (.int cy), some (.ref pm), some (.ref F), some (.int mm.1), some (.int mm.2.1), some (.int mm.2.2), u9, u10] ∧
          H' F = some (.lst vs) ∧ Paired (PlAt K H') vs ((List.range (L + i)).map fun i : Nat => plc x y ms i)) ⟨s1, vs, u9, u10, rfl, hF, pv1⟩ ?_ ?_
      · rintro i σ H2 hi ⟨s2, vs2, w9, w10, rfl, hF2, pv2⟩
        rw [en] at hi
        have hlv := Paired.length pv2
        rw [List.length_map, List.length_range] at hlv
        have ei : plc x y ms ((L + i : Nat) : Int) = (lo (cx * mm.2.2 + (mm.1 - cx) * (1 + (i : Int))) mm.2.2, lo (cy * mm.2.2 + (mm.2.1 - cy) * (1 + (i : Int))) mm.2.2) := by
          rw [hpl _ (by omega), ed, plc_cons, show ((L + i : Nat) : Int) - (L : Int) = (i : Int) by omega, if_pos (by omega), Int.add_comm (i : Int) 1]
        have bnd : ∀ c g : Int, (-20 ≤ c ∧ c ≤ 20) → (-20 ≤ g ∧ g ≤ 20) → -1000000 ≤ c * (mm.2.2 - (1 + (i : Int))) + g * (1 + (i : Int)) ∧ c * (mm.2.2 - (1 + (i : Int))) + g * (1 + (i : Int)) ≤ 1000000 := by
          intro c g hc hg
          have a1 : c * (mm.2.2 - (1 + (i : Int))) ≤ 20 * 24 := Int.le_trans (Int.mul_le_mul_of_nonneg_right hc.2 (by omega)) (Int.mul_le_mul_of_nonneg_left (by omega) (by omega))
          have a2 : -20 * (mm.2.2 - (1 + (i : Int))) ≤ c * (mm.2.2 - (1 + (i : Int))) := Int.mul_le_mul_of_nonneg_right hc.1 (by omega)
          have a3 : g * (1 + (i : Int)) ≤ 20 * (1 + (i : Int)) := Int.mul_le_mul_of_nonneg_right hg.2 (by omega)
          have a4 : -20 * (1 + (i : Int)) ≤ g * (1 + (i : Int)) := Int.mul_le_mul_of_nonneg_right hg.1 (by omega)
          omega
        refine ⟨_, rfl, _, rfl, _, rfl, _, _, rfl, rfl, cx, _, rfl, rfl, .inl ⟨by omega, by omega⟩, _, rfl, _, rfl, mm.1, _, rfl, rfl, .inl ⟨by omega, by omega⟩, _, _, rfl, rfl, ?_⟩
        refine ⟨_, rfl, .inl ⟨rfl, _, .inl (.inl hF2)⟩, _, rfl, _, rfl, _, mm.2.2, rfl, by omega, by omega, bnd cx mm.1 hcx vmx, fun H3 v1 s3 r3 => ?_⟩
        refine ⟨_, rfl, _, rfl, _, rfl, _, _, rfl, rfl, cy, _, rfl, rfl, .inl ⟨by omega, by omega⟩, _, rfl, _, rfl, mm.2.1, _, rfl, rfl, .inl ⟨by omega, by omega⟩, _, _, rfl, rfl, _, rfl, _, mm.2.2, rfl, by omega, by omega, bnd cy mm.2.1 hcy vmy, fun H4 v2 s4 r4 => ?_⟩
        refine ⟨(by show 2 ≤ sizeLine; decide), fun p5 np5 => ?_⟩
        obtain ⟨s5, e5⟩ := new_at (.tup [v1, v2]) np5
        have hF5 := s5 _ _ (s4 _ _ (s3 _ _ hF2))
        refine ⟨F, _, _, rfl, rfl, hF5, small1000 (by omega), ?_⟩
        have k25 : TKeep K H2 (upd (upd H4 p5 (.tup [v1, v2])) F (.lst (vs2 ++ [.ref p5]))) := fun a xs h => tk_updL hF5 _ _ (Same.sqT ((s3.trans s4).trans s5) h)
        have k35 : TKeep K H3 (upd (upd H4 p5 (.tup [v1, v2])) F (.lst (vs2 ++ [.ref p5]))) := fun a xs h => tk_updL hF5 _ _ (Same.sqT (s4.trans s5) h)
        have k45 : TKeep K H4 (upd (upd H4 p5 (.tup [v1, v2])) F (.lst (vs2 ++ [.ref p5]))) := fun a xs h => tk_updL hF5 _ _ (Same.sqT s5 h)
        refine ⟨fun b o e => ?_, vs2 ++ [.ref p5], _, _, rfl, upd_same, ?_⟩
        · rw [upd_ne (ne_of_none e nF)]
          exact s5 _ _ (s4 _ _ (s3 _ _ (s2 _ _ e)))
        · rw [← Nat.add_assoc, List.range_succ, List.map_append]
          refine Paired.snocP (Paired.mono pv2 fun _ _ => PlAt.keep k25) ?_
          show PlAt K _ (.ref p5) (plc x y ms ((L + i : Nat) : Int))
          rw [ei]
          refine ⟨p5, v1, v2, rfl, tk_updL hF5 _ _ (.inl (.inl e5)), ?_, ?_⟩
          · have := r3.keep k35
            rw [way_eq] at this
            exact this
          · have := r4.keep k45
            rw [way_eq] at this
            exact this
      · rintro σ H2 ⟨s2, vs2, w9, w10, rfl, hF2, pv2⟩
        rw [en] at pv2
        refine ⟨_, rfl, _, rfl, _, _, rfl, s2, mm.1, mm.2.1, L + mm.2.2.toNat, vs2, _, _, _, _, _, rfl, hF2, pv2, ?_, vmx, vmy, fun m hm => ?_⟩
        · have : mtot (ms.take (j + 1)) = mtot (ms.take j) + mm.2.2 := by
            unfold mtot
            rw [List.take_add_one, hm1, List.map_append, List.sum_append]
            show _ + ([mm.2.2] : List Int).sum = _
            rw [List.sum_cons, List.sum_nil, Int.add_zero]
          omega
        · rw [hpl m (by omega), ed, plc_cons, if_neg (by omega)]
          congr 1
          omega
    · rintro σ H1 ⟨s1, cx, cy, L, vs, u6, u7, u8, u9, u10, rfl, hF, pv1, hL, hcx, hcy, hpl⟩
      have hlv := Paired.length pv1
      rw [List.length_map, List.length_range] at hlv
      rw [hl, List.take_length] at hL
      refine ⟨_, rfl, _, rfl, (by show 2 ≤ sizeLine; decide), fun p1 np1 => ?_⟩
      have t1 := same_upd (o := .tup [.int cx, .int 1]) np1
      refine ⟨_, rfl, (by show 2 ≤ sizeLine; decide), fun p2 np2 => ?_⟩
      have t2 := same_upd (o := .tup [.int cy, .int 1]) np2
      refine ⟨(by show 2 ≤ sizeLine; decide), fun p3 np3 => ⟨(by show 1 ≤ sizeLine; decide), fun p4 np4 => ?_⟩⟩
      have t3 := same_upd (o := .tup [.ref p1, .ref p2]) np3
      obtain ⟨t4, e4⟩ := new_at (.lst [.ref p3]) np4
      have t14 := ((t1.trans t2).trans t3).trans t4
      refine ⟨_, rfl, p4, n, _, rfl, rfl, e4, by omega, by omega, ?_, fun p5 np5 => ?_⟩
      · show 1 * n.toNat ≤ sizeLine
        exact Nat.le_of_lt (small1000 (by omega))
      obtain ⟨t5, e5⟩ := new_at (.lst (List.replicate n.toNat [V.ref p3]).flatten) np5
      have ef : (List.replicate n.toNat [V.ref p3]).flatten = List.replicate n.toNat (V.ref p3) := List.flatten_replicate_singleton
      refine ⟨F, p5, _, _, rfl, rfl, t5 _ _ (t14 _ _ hF), e5, ?_, fun p6 np6 => ?_⟩
      · rw [ef, List.length_replicate]
        exact Nat.le_of_lt (Nat.lt_of_le_of_lt (show _ ≤ 2000 by omega) (by decide))
      obtain ⟨t6, e6⟩ := new_at (.lst (vs ++ (List.replicate n.toNat [V.ref p3]).flatten)) np6
      refine ⟨_, rfl, n, rfl, p6, _, rfl, .inl (.inl e6), fun p7 np7 => ?_⟩
      have t7 := same_upd (o := .lst (cutV (vs ++ (List.replicate n.toNat [V.ref p3]).flatten) none (some n))) np7
      have t17 := ((t14.trans t5).trans t6).trans t7
      have nq : H p7 = none := (((s1.trans t14).trans t5).trans t6).free np7
      refine q _ p7 _ (s1.trans t17) nq upd_same ?_
      obtain ⟨N, rfl⟩ : ∃ N : Nat, n = (N : Int) := ⟨n.toNat, by omega⟩
      have el : cutV (vs ++ (List.replicate ((N : Nat) : Int).toNat [V.ref p3]).flatten) none (some ((N : Nat) : Int)) = (vs ++ List.replicate N (V.ref p3)).take N := by
        rw [ef, cut_to, Int.toNat_natCast]
      have big := pad (v := .ref p3) (Paired.mono pv1 fun _ _ => PlAt.keep (Same.tk t17)) (fun i => by
        show PlAt K _ (.ref p3) (plc x y ms ((L + i : Nat) : Int))
        rw [hpl _ (by omega), List.drop_of_length_le (by omega), plc_nil]
        have t47 := ((t4.trans t5).trans t6).trans t7
        exact ⟨p3, _, _, rfl, .inl (.inl (t47 _ _ upd_same)), ⟨p1, rfl, .inl (.inl (t47 _ _ (t3 _ _ (t2 _ _ upd_same))))⟩, ⟨p2, rfl, .inl (.inl (t47 _ _ (t3 _ _ upd_same)))⟩⟩) N
      have := Paired.takeP N big
      rw [← List.map_take, List.take_range, Nat.min_eq_left (by omega)] at this
      exact pairedLR el (by rw [Int.toNat_natCast]) this
end

/-! ### the law -/
abbrev sp__law_same (K : PySem.W.Frag) : Sp := spSame 2 K
section
variable {P : Program} {w : World} {K : PySem.W.Frag} {mg : Str → Option Value} {base : Heap}
def sp_law (K : PySem.W.Frag) : Sp := fun vs H Q _ => ∃ (a : Addr) (ns : List Int), vs = [.ref a] ∧ SqL K H a (ns.map V.int) ∧ ns.length ≤ 63 ∧ ∀ H', Q (.bl true) H'
theorem ok_law {f : Addr} {fd : FuncData} (F : Fun K "law" "law" s_law f fd) (T : Txt K mg) (D__law_state : Cl P w K mg base 2 "_law_state" ["_law_script", "_law_k"] (sp__law_state K)) (D__law_window : Cl P w K mg base 2 "_law_window" ["_law_state_here"] (sp__law_window K)) (D__law_places : Cl P w K mg base 2 "_law_places" ["_law_window_here", "_law_many"] (sp__law_places K)) (D__law_same : Cl P w K mg base 3 "_law_same" ["_law_found", "_law_due"] (sp__law_same K)) (D_place_at : Cl P w K mg base 7 "place_at" ["window", "moment"] (sp_place_at K)) (D__law_take : Cl P w K mg base 1 "_law_take" ["_law_state_here", "_law_many"] (sp__law_take K)) : FnG P w K mg base 8 f fd ["_law_script"] (sp_law K) := by
  refine fun_okG F sc_law (fun vs H Q E h => ?_) (fun cdv A outer s H vs Q E hgu hr h => ?_)
  · obtain ⟨a, ns, rfl, _⟩ := h
    rfl
  · obtain ⟨a, ns, rfl, hS, hlen, q⟩ := h
    refine ⟨_, (pss_cons (ps_for PassesOwn.never rfl (pi_range1 (by rfl) T.b_range (pa_cons (pe_callB (call_max2 rfl) (by rfl) T.b_max (by decide +kernel) (pa_cons pe_int (pa_cons (pe_callB (call_min2 rfl) (by rfl) T.b_min (by decide +kernel) (pa_cons (pe_callB call_len_seq (by rfl) T.b_len (by decide +kernel) (pa_cons (pv 0) pa_nil)) (pa_cons pe_int pa_nil))) pa_nil))) pa_nil)) (pg_name (i := 1) sc_law.nd rfl (Or.inl rfl))
        (pss_cons (ps_set (i := 2) sc_law.nd rfl (Or.inl rfl) (pe_own D__law_state (hr.mono (by omega)) (by rfl) (pa_cons (pv 0) (pa_cons (pv 1) pa_nil))))
      (pss_cons (ps_set (i := 3) sc_law.nd rfl (Or.inl rfl) (pe_own D__law_window (hr.mono (by omega)) (by rfl) (pa_cons (pv 2) pa_nil)))
      (pss_cons (ps_par (i := 4) (j := 5) (by rfl) sc_law.nd rfl rfl (by decide) rfl rfl (pa_cons (pe_callB (call_repr hgu hr.units) (by rfl) T.b_repr (by decide +kernel) (pa_cons (pv 3) pa_nil)) (pa_cons (pe_callB (cr_sum rfl) (by rfl) T.b_sum (by decide +kernel) (pa_cons (pe_lc (own := [("_law_move", 8)]) (g := (gName 8)) (tt := tYes) (by rfl) sc_law.nd (pi_tup (pe_ix ix_tup (pv 3) pe_int (fun _ _ => rfl))) (blkOk_by (own := [("_law_move", 8)]) (N := ["_law_script", "_law_k", "_law_state_here", "_law_window_here", "_law_kept", "_law_size", "_law_long", "_law_moment", "_law_move"]) (sc := defScope s_law) (by decide +kernel)) (fun _ _ _ _ _ => (pg_name (i := 8) sc_law.nd rfl (Or.inl rfl))) (fun _ _ _ _ _ => pts_nil) (fun _ _ _ _ _ => (pe_ix (r := rIxT K) ix_tup (pv 8) pe_int (fun _ _ => rfl)))) pa_nil)) pa_nil)) (by rfl))
      (pss_cons (ps_set (i := 6) sc_law.nd rfl (Or.inl rfl) (pe_own D__law_places (hr.mono (by omega)) (by rfl) (pa_cons (pv 3) (pa_cons (pe_op op_add (pv 5) pe_int) pa_nil))))
      (pss_cons (ps_for PassesOwn.never rfl (pi_range1 (by rfl) T.b_range (pa_cons (pe_op op_add (pv 5) pe_int) pa_nil)) (pg_name (i := 7) sc_law.nd rfl (Or.inl rfl))
        (pss_one (ps_if (pt_not (pt_val (pe_own D__law_same (hr.mono (by omega)) (by rfl) (pa_cons (pe_own D_place_at (hr.mono (by omega)) (by rfl) (pa_cons (pv 3) (pa_cons (pv 7) pa_nil))) (pa_cons (pe_ix ix_list (pv 6) (pv 7) (fun _ _ => rfl)) pa_nil))))) (pss_one (ps_ret pe_bl)) pss_nil)))
      (pss_cons (ps_for PassesOwn.never rfl (pi_list (pe_lst (pa_cons (pe_op op_pow pe_int pe_int) (pa_cons (pe_op op_add (pv 5) (pe_own D__law_take (hr.mono (by omega)) (by rfl) (pa_cons (pv 2) (pa_cons (pe_op op_pow pe_int pe_int) pa_nil)))) pa_nil)))) (pg_name (i := 7) sc_law.nd rfl (Or.inl rfl))
        (pss_one (ps_if (pt_not (pt_val (pe_own D__law_same (hr.mono (by omega)) (by rfl) (pa_cons (pe_own D_place_at (hr.mono (by omega)) (by rfl) (pa_cons (pv 3) (pa_cons (pv 7) pa_nil))) (pa_cons (pe_ix ix_list (pv 6) (pv 5) (fun _ _ => rfl)) pa_nil))))) (pss_one (ps_ret pe_bl)) pss_nil)))
      (pss_one (ps_if (pt_cmpR op_ne (pe_callB (call_repr hgu hr.units) (by rfl) T.b_repr (by decide +kernel) (pa_cons (pv 3) pa_nil)) (pv 4) (nomark _)) (pss_one (ps_ret pe_bl)) pss_nil)))))))))
      (pss_one (ps_ret pe_bl))), ?_⟩
    obtain ⟨c, c0, c1, ec⟩ : ∃ c : Int, 0 ≤ c ∧ c ≤ 5 ∧ (if (if (5 : Int) < ((ns.map V.int).length : Int) then (5 : Int) else ((ns.map V.int).length : Int)) > 1 then (if (5 : Int) < ((ns.map V.int).length : Int) then (5 : Int) else ((ns.map V.int).length : Int)) else (1 : Int)) = c := by
      refine ⟨_, ?_, ?_, rfl⟩ <;> (repeat' split) <;> omega
    refine ⟨_, rfl, a, _, rfl, .inl hS, _, _, rfl, _, _, rfl, c, ?_, by omega, by omega, ?_⟩
    · rw [ec]
    refine for_range (lo := 0) (n := c.toNat) (fun i σ H' => Same H H' ∧ ∃ y1 y2 y3 y4 y5 y6 y7 y8, σ = [some (.ref a), y1, y2, y3, y4, y5, y6, y7, y8])
      ⟨Same.refl _, none, none, none, none, none, none, none, none, rfl⟩ ?_ (fun _ H' _ => q H')
    rintro i σ H0 hi ⟨s0, y1, y2, y3, y4, y5, y6, y7, y8, rfl⟩
    refine ⟨_, rfl, _, rfl, a, ns, _, rfl, s0.seq hS, by omega, fun H1 st s1 n1 hs1 => ?_⟩
    refine ⟨_, rfl, st, rfl, hs1, fun v x y ms H2 g2 hw vw => ?_⟩
    obtain ⟨pw, mv, rfl, hpw, pm, mvs, rfl, hqm, pdm⟩ := id hw
    obtain ⟨_, _, v8, vm⟩ := id vw
    have hs2 := g2.2 hs1
    have hlm : mvs.length = ms.length := Paired.length pdm
    have mt := mtot_nonneg vm
    -- kept, size
    obtain ⟨w1, w2, w3, w4⟩ := ro_args (winD_ro vw) (by decide) (by decide)
    obtain ⟨S, hSS⟩ : ∃ S, (winD x y ms).shown = S := ⟨_, rfl⟩
    refine ⟨_, rfl, pw, _, S, rfl, hw.dp, w1, w2, w3, w4, hSS, ?_⟩
    refine ⟨_, rfl, pw, _, 2, _, rfl, rfl, hpw, rfl, pm, rfl, ⟨_, hqm⟩, fun D hD => ?_⟩
    refine lcmap_tup ((ms.map (·.2.2)).map V.int) (by simp [hlm]) (by omega) hqm hD (fun i x y H3 R Z hx hy s3 hR => ?_) (fun H3 s3 hD3 => ?_)
    · obtain ⟨m, hm1, pww, rfl, hrow⟩ := Paired.at pdm hx
      have ey : y = .int m.2.2 := by
        rw [List.map_map, List.getElem?_map, hm1] at hy
        exact (Option.some.inj hy).symm
      subst ey
      exact ⟨rfl, yes_ok ⟨_, rfl, pww, _, 2, _, rfl, rfl, Same.sqT s3 hrow, rfl, hR _ (Same.refl _)⟩⟩
    refine ⟨D, _, rfl, .inl (.inl hD3), _, _, rfl, ?_⟩
    -- long
    refine ⟨_, rfl, _, rfl, _, _, rfl, rfl, .ref pw, x, y, ms, mtot ms + 3, rfl, hw.keep (Same.tk s3), vw, by omega, by omega, fun H4 L vs s4 nL hL pl => ?_⟩
    have s24 := s3.trans s4
    have hs4 : IsSt H4 st := (gr_same (st := st) s24).2 hs2
    have nLst : L ≠ st := st_ne ((gr_same (st := st) s3).2 hs2) nL
    have gst : ∀ H', Gr st H4 H' → WinAt K H' (.ref pw) x y ms ∧ SqL K H' L vs ∧ Paired (PlAt K H') vs ((List.range (mtot ms + 3).toNat).map fun i : Nat => plc x y ms i) := fun H' g =>
      ⟨(hw.keep (Same.tk s24)).keep (g.tk hs4), .inl (.inl (g.1 _ _ nLst hL)), Paired.mono pl fun _ _ => PlAt.keep (g.tk hs4)⟩
    have look : ∀ m : Int, 0 ≤ m → m < mtot ms + 3 → ∃ v, atI vs m = some v ∧ ∀ H', Gr st H4 H' → PlAt K H' v (plc x y ms m) := fun m h0 h1 => by
      obtain ⟨j, rfl⟩ : ∃ j : Nat, m = (j : Int) := ⟨m.toNat, by omega⟩
      have hj : ((List.range (mtot ms + 3).toNat).map fun i : Nat => plc x y ms i)[j]? = some (plc x y ms (j : Int)) := by
        rw [List.getElem?_map, List.getElem?_range (by omega)]
        rfl
      obtain ⟨v, hv, hp⟩ := Paired.at2 pl hj
      exact ⟨v, atI_nat hv, fun H' g => hp.keep (g.tk hs4)⟩
    -- each moment
    refine ⟨_, rfl, _, _, rfl, rfl, mtot ms + 3, rfl, by omega, by omega, for_range (lo := 0) (n := (mtot ms + 3).toNat) (fun j σ H' => Same H4 H' ∧ ∃ y7, σ = [some (.ref a), some (.int (0 + (i : Int))), some (.ref st), some (.ref pw), some (.str S), some (.int (mtot ms)), some (.ref L), y7, y8])
      ⟨Same.refl _, _, rfl⟩ ?_ ?_⟩
    · rintro j σ H5 hj ⟨s5, z7, rfl⟩
      have g5 := gr_same (st := st) s5
      obtain ⟨v, hv, hp⟩ := look (0 + (j : Int)) (by omega) (by omega)
      refine ⟨_, rfl, _, rfl, .ref pw, x, y, ms, _, rfl, (gst _ g5).1, vw, by omega, by omega, fun H6 v6 s6 p6 => ?_⟩
      have g6 := g5.trans (gr_same (st := st) s6)
      exact ⟨_, rfl, _, rfl, L, vs, _, v, rfl, rfl, (gst _ g6).2.1, hv, v6, v, _, rfl, p6.dp, (hp _ g6).dp, dOk_pl _, fun H7 s7 => ⟨_, rfl, iteF ⟨(s5.trans s6).trans s7, _, rfl⟩⟩⟩
    · rintro σ H5 ⟨s5, z7, rfl⟩
      have g5 := gr_same (st := st) s5
      have e106 : (10 : Int) ^ (6 : Int).toNat = 1000000 := by decide
      have e109 : (10 : Int) ^ (9 : Int).toNat = 1000000000 := by decide
      refine ⟨10, 9, rfl, rfl, ⟨by decide, by decide, by decide⟩, _, rfl, _, rfl, 10, 6, rfl, rfl, ⟨by decide, by decide, by decide⟩, st, _, rfl, g5.2 hs4, by decide, by decide, fun r6 H6 a6 b6 g6 => ?_⟩
      rw [e106] at b6
      have g46 := g5.trans g6
      refine ⟨_, _, rfl, rfl, (by show 2 ≤ sizeLine; decide), fun p7 np7 => ?_⟩
      refine ⟨p7, rfl, ⟨_, .inl (.inl upd_same)⟩, for_list (K := K) (a := p7) (xs := [.int (10 ^ (9 : Int).toNat), .int (mtot ms + r6)]) (fun j σ H' => Same H6 H' ∧ H' p7 = some (.lst [.int (10 ^ (9 : Int).toNat), .int (mtot ms + r6)]) ∧ ∃ y7, σ = [some (.ref a), some (.int (0 + (i : Int))), some (.ref st), some (.ref pw), some (.str S), some (.int (mtot ms)), some (.ref L), y7, y8])
        ⟨same_upd np7, upd_same, _, rfl⟩ (fun j σ H' _ z => .inl (.inl z.2.1)) ?_ ?_⟩
      · rintro j u σ H7 hu ⟨s7, e7, z7', rfl⟩
        rw [e109] at hu
        obtain ⟨m, rfl, m0, m1⟩ : ∃ m : Int, u = .int m ∧ mtot ms ≤ m ∧ m ≤ 1000000000 := by
          have hm := List.mem_of_getElem? hu
          rcases List.mem_cons.mp hm with e | hm
          · exact ⟨_, e, by omega, by omega⟩
          · exact ⟨_, List.mem_singleton.mp hm, by omega, by omega⟩
        have g7 := g46.trans (gr_same (st := st) s7)
        obtain ⟨v, hv, hp⟩ := look (mtot ms) (by omega) (by omega)
        refine ⟨_, rfl, _, rfl, .ref pw, x, y, ms, m, rfl, (gst _ g7).1, vw, by omega, m1, fun H8 v8 s8 p8 => ?_⟩
        have g8 := g7.trans (gr_same (st := st) s8)
        rw [plc_far ms x y m (mtot ms) vm m0 (Int.le_refl _)] at p8
        exact ⟨_, rfl, _, rfl, L, vs, _, v, rfl, rfl, (gst _ g8).2.1, hv, v8, v, _, rfl, p8.dp, (hp _ g8).dp, dOk_pl _, fun H9 s9 => ⟨_, rfl, iteF ⟨(s7.trans s8).trans s9, s9 _ _ (s8 _ _ e7), _, rfl⟩⟩⟩
      · rintro σ H7 ⟨s7, e7, z7', rfl⟩
        have g7 := g46.trans (gr_same (st := st) s7)
        refine ⟨_, rfl, pw, _, S, rfl, (gst _ g7).1.dp, w1, w2, w3, w4, hSS, ?_⟩
        refine ⟨_, rfl, rfl, _, rfl, iteNS rfl ?_⟩
        exact ⟨((g2.trans (gr_same s24)).trans g7).same (s0.trans s1) (s0.free n1), _, _, _, _, _, _, _, _, rfl⟩
end

theorem all_mk {l : PySem.W.OpenLaw} {w : World} {K : PySem.W.Frag} {h : Heap} {mg : Str → Option Value} {fa : Addr} (X : K.In h) (G : h.Ns mainGlobals mg) (hfa : mg "law" = some (.ref fa))
    {f0 f1 f2 f3 f4 f5 f6 f7 f8 f9 f10 f11 f12 f13 f14 f15 f16 f17 f18 f19 f20 f21 : Addr} {od0 an0 od1 an1 od2 an2 od3 an3 od4 an4 od5 an5 od6 an6 od7 an7 od8 an8 od9 an9 od10 an10 od11 an11 od12 an12 od13 an13 od14 an14 od15 an15 od16 an16 od17 an17 od18 an18 od19 an19 od20 an20 od21 an21 : Option Addr} {sl0 sl1 sl2 sl3 sl4 sl5 sl6 sl7 sl8 sl9 sl10 sl11 sl12 sl13 sl14 sl15 sl16 sl17 sl18 sl19 sl20 sl21 : Array (Option Value)} {oc0 kV0 dc0 pm0 cd0 ct0 oc1 kV1 dc1 pm1 cd1 ct1 oc2 kV2 dc2 pm2 cd2 ct2 oc3 kV3 dc3 pm3 cd3 ct3 oc4 kV4 dc4 pm4 cd4 ct4 oc5 kV5 dc5 pm5 cd5 ct5 oc6 kV6 dc6 pm6 cd6 ct6 oc7 kV7 dc7 pm7 cd7 ct7 oc8 kV8 dc8 pm8 cd8 ct8 oc9 kV9 dc9 pm9 cd9 ct9 oc10 kV10 dc10 pm10 cd10 ct10 oc11 kV11 dc11 pm11 cd11 ct11 oc12 kV12 dc12 pm12 cd12 ct12 oc13 kV13 dc13 pm13 cd13 ct13 oc14 kV14 dc14 pm14 cd14 ct14 oc15 kV15 dc15 pm15 cd15 ct15 oc16 kV16 dc16 pm16 cd16 ct16 oc17 kV17 dc17 pm17 cd17 ct17 oc18 kV18 dc18 pm18 cd18 ct18 oc19 kV19 dc19 pm19 cd19 ct19 oc20 kV20 dc20 pm20 cd20 ct20 oc21 kV21 dc21 pm21 cd21 ct21 : Value} {t0 t1 t2 t3 : Tok}
    (a0 : PySem.W.nsIn K mainGlobals "is_whole_from" = some (some (.ref f0))) (l0 : K.lookup f0 = some ⟨oc0, od0, .func (PySem.W.fnOf "is_whole_from" "is_whole_from" (defArgs s_is_whole_from) (defBody s_is_whole_from) (defScope s_is_whole_from) .none kV0 dc0 pm0 an0 cd0 ct0), sl0⟩) (c0 : PySem.W.codeIn K cd0 "is_whole_from" = true) (k0 : PySem.W.keepIn K (.ref f0) = true)
    (a1 : PySem.W.nsIn K mainGlobals "is_whole" = some (some (.ref f1))) (l1 : K.lookup f1 = some ⟨oc1, od1, .func (PySem.W.fnOf "is_whole" "is_whole" (defArgs s_is_whole) (defBody s_is_whole) (defScope s_is_whole) .none kV1 dc1 pm1 an1 cd1 ct1), sl1⟩) (c1 : PySem.W.codeIn K cd1 "is_whole" = true) (k1 : PySem.W.keepIn K (.ref f1) = true)
    (a2 : PySem.W.nsIn K mainGlobals "need_moment" = some (some (.ref f2))) (l2 : K.lookup f2 = some ⟨oc2, od2, .func (PySem.W.fnOf "need_moment" "need_moment" (defArgs s_need_moment) (defBody s_need_moment) (defScope s_need_moment) .none kV2 dc2 pm2 an2 cd2 ct2), sl2⟩) (c2 : PySem.W.codeIn K cd2 "need_moment" = true) (k2 : PySem.W.keepIn K (.ref f2) = true)
    (a3 : PySem.W.nsIn K mainGlobals "is_tuple" = some (some (.ref f3))) (l3 : K.lookup f3 = some ⟨oc3, od3, .func (PySem.W.fnOf "is_tuple" "is_tuple" (defArgs s_is_tuple) (defBody s_is_tuple) (defScope s_is_tuple) .none kV3 dc3 pm3 an3 cd3 ct3), sl3⟩) (c3 : PySem.W.codeIn K cd3 "is_tuple" = true) (k3 : PySem.W.keepIn K (.ref f3) = true)
    (a4 : PySem.W.nsIn K mainGlobals "is_way" = some (some (.ref f4))) (l4 : K.lookup f4 = some ⟨oc4, od4, .func (PySem.W.fnOf "is_way" "is_way" (defArgs s_is_way) (defBody s_is_way) (defScope s_is_way) .none kV4 dc4 pm4 an4 cd4 ct4), sl4⟩) (c4 : PySem.W.codeIn K cd4 "is_way" = true) (k4 : PySem.W.keepIn K (.ref f4) = true)
    (a5 : PySem.W.nsIn K mainGlobals "is_many" = some (some (.ref f5))) (l5 : K.lookup f5 = some ⟨oc5, od5, .func (PySem.W.fnOf "is_many" "is_many" (defArgs s_is_many) (defBody s_is_many) (defScope s_is_many) .none kV5 dc5 pm5 an5 cd5 ct5), sl5⟩) (c5 : PySem.W.codeIn K cd5 "is_many" = true) (k5 : PySem.W.keepIn K (.ref f5) = true)
    (a6 : PySem.W.nsIn K mainGlobals "is_move" = some (some (.ref f6))) (l6 : K.lookup f6 = some ⟨oc6, od6, .func (PySem.W.fnOf "is_move" "is_move" (defArgs s_is_move) (defBody s_is_move) (defScope s_is_move) .none kV6 dc6 pm6 an6 cd6 ct6), sl6⟩) (c6 : PySem.W.codeIn K cd6 "is_move" = true) (k6 : PySem.W.keepIn K (.ref f6) = true)
    (a7 : PySem.W.nsIn K mainGlobals "is_window" = some (some (.ref f7))) (l7 : K.lookup f7 = some ⟨oc7, od7, .func (PySem.W.fnOf "is_window" "is_window" (defArgs s_is_window) (defBody s_is_window) (defScope s_is_window) .none kV7 dc7 pm7 an7 cd7 ct7), sl7⟩) (c7 : PySem.W.codeIn K cd7 "is_window" = true) (k7 : PySem.W.keepIn K (.ref f7) = true)
    (a8 : PySem.W.nsIn K mainGlobals "need_window" = some (some (.ref f8))) (l8 : K.lookup f8 = some ⟨oc8, od8, .func (PySem.W.fnOf "need_window" "need_window" (defArgs s_need_window) (defBody s_need_window) (defScope s_need_window) .none kV8 dc8 pm8 an8 cd8 ct8), sl8⟩) (c8 : PySem.W.codeIn K cd8 "need_window" = true) (k8 : PySem.W.keepIn K (.ref f8) = true)
    (a9 : PySem.W.nsIn K mainGlobals "common_divisor" = some (some (.ref f9))) (l9 : K.lookup f9 = some ⟨oc9, od9, .func (PySem.W.fnOf "common_divisor" "common_divisor" (defArgs s_common_divisor) (defBody s_common_divisor) (defScope s_common_divisor) .none kV9 dc9 pm9 an9 cd9 ct9), sl9⟩) (c9 : PySem.W.codeIn K cd9 "common_divisor" = true) (k9 : PySem.W.keepIn K (.ref f9) = true)
    (a10 : PySem.W.nsIn K mainGlobals "lowest" = some (some (.ref f10))) (l10 : K.lookup f10 = some ⟨oc10, od10, .func (PySem.W.fnOf "lowest" "lowest" (defArgs s_lowest) (defBody s_lowest) (defScope s_lowest) .none kV10 dc10 pm10 an10 cd10 ct10), sl10⟩) (c10 : PySem.W.codeIn K cd10 "lowest" = true) (k10 : PySem.W.keepIn K (.ref f10) = true)
    (a11 : PySem.W.nsIn K mainGlobals "on_the_way" = some (some (.ref f11))) (l11 : K.lookup f11 = some ⟨oc11, od11, .func (PySem.W.fnOf "on_the_way" "on_the_way" (defArgs s_on_the_way) (defBody s_on_the_way) (defScope s_on_the_way) .none kV11 dc11 pm11 an11 cd11 ct11), sl11⟩) (c11 : PySem.W.codeIn K cd11 "on_the_way" = true) (k11 : PySem.W.keepIn K (.ref f11) = true)
    (a12 : PySem.W.nsIn K mainGlobals "place_of" = some (some (.ref f12))) (l12 : K.lookup f12 = some ⟨oc12, od12, .func (PySem.W.fnOf "place_of" "place_of" (defArgs s_place_of) (defBody s_place_of) (defScope s_place_of) .none kV12 dc12 pm12 an12 cd12 ct12), sl12⟩) (c12 : PySem.W.codeIn K cd12 "place_of" = true) (k12 : PySem.W.keepIn K (.ref f12) = true)
    (a13 : PySem.W.nsIn K mainGlobals "place_at" = some (some (.ref f13))) (l13 : K.lookup f13 = some ⟨oc13, od13, .func (PySem.W.fnOf "place_at" "place_at" (defArgs s_place_at) (defBody s_place_at) (defScope s_place_at) .none kV13 dc13 pm13 an13 cd13 ct13), sl13⟩) (c13 : PySem.W.codeIn K cd13 "place_at" = true) (k13 : PySem.W.keepIn K (.ref f13) = true)
    (a14 : PySem.W.nsIn K mainGlobals "_law_cell_at" = some (some (.ref f14))) (l14 : K.lookup f14 = some ⟨oc14, od14, .func (PySem.W.fnOf "_law_cell_at" "_law_cell_at" (defArgs s__law_cell_at) (defBody s__law_cell_at) (defScope s__law_cell_at) .none kV14 dc14 pm14 an14 cd14 ct14), sl14⟩) (c14 : PySem.W.codeIn K cd14 "_law_cell_at" = true) (k14 : PySem.W.keepIn K (.ref f14) = true)
    (a15 : PySem.W.nsIn K mainGlobals "_law_state" = some (some (.ref f15))) (l15 : K.lookup f15 = some ⟨oc15, od15, .func (PySem.W.fnOf "_law_state" "_law_state" (defArgs s__law_state) (defBody s__law_state) (defScope s__law_state) .none kV15 dc15 pm15 an15 cd15 ct15), sl15⟩) (c15 : PySem.W.codeIn K cd15 "_law_state" = true) (k15 : PySem.W.keepIn K (.ref f15) = true)
    (a16 : PySem.W.nsIn K mainGlobals "_law_take" = some (some (.ref f16))) (l16 : K.lookup f16 = some ⟨oc16, od16, .func (PySem.W.fnOf "_law_take" "_law_take" (defArgs s__law_take) (defBody s__law_take) (defScope s__law_take) .none kV16 dc16 pm16 an16 cd16 ct16), sl16⟩) (c16 : PySem.W.codeIn K cd16 "_law_take" = true) (k16 : PySem.W.keepIn K (.ref f16) = true)
    (a17 : PySem.W.nsIn K mainGlobals "_law_same" = some (some (.ref f17))) (l17 : K.lookup f17 = some ⟨oc17, od17, .func (PySem.W.fnOf "_law_same" "_law_same" (defArgs s__law_same) (defBody s__law_same) (defScope s__law_same) .none kV17 dc17 pm17 an17 cd17 ct17), sl17⟩) (c17 : PySem.W.codeIn K cd17 "_law_same" = true) (k17 : PySem.W.keepIn K (.ref f17) = true)
    (a18 : PySem.W.nsIn K mainGlobals "_law_window" = some (some (.ref f18))) (l18 : K.lookup f18 = some ⟨oc18, od18, .func (PySem.W.fnOf "_law_window" "_law_window" (defArgs s__law_window) (defBody s__law_window) (defScope s__law_window) .none kV18 dc18 pm18 an18 cd18 ct18), sl18⟩) (c18 : PySem.W.codeIn K cd18 "_law_window" = true) (k18 : PySem.W.keepIn K (.ref f18) = true)
    (a19 : PySem.W.nsIn K mainGlobals "_law_lowest" = some (some (.ref f19))) (l19 : K.lookup f19 = some ⟨oc19, od19, .func (PySem.W.fnOf "_law_lowest" "_law_lowest" (defArgs s__law_lowest) (defBody s__law_lowest) (defScope s__law_lowest) .none kV19 dc19 pm19 an19 cd19 ct19), sl19⟩) (c19 : PySem.W.codeIn K cd19 "_law_lowest" = true) (k19 : PySem.W.keepIn K (.ref f19) = true)
    (a20 : PySem.W.nsIn K mainGlobals "_law_places" = some (some (.ref f20))) (l20 : K.lookup f20 = some ⟨oc20, od20, .func (PySem.W.fnOf "_law_places" "_law_places" (defArgs s__law_places) (defBody s__law_places) (defScope s__law_places) .none kV20 dc20 pm20 an20 cd20 ct20), sl20⟩) (c20 : PySem.W.codeIn K cd20 "_law_places" = true) (k20 : PySem.W.keepIn K (.ref f20) = true)
    (a21 : PySem.W.nsIn K mainGlobals "law" = some (some (.ref f21))) (l21 : K.lookup f21 = some ⟨oc21, od21, .func (PySem.W.fnOf "law" "law" (defArgs s_law) (defBody s_law) (defScope s_law) .none kV21 dc21 pm21 an21 cd21 ct21), sl21⟩) (c21 : PySem.W.codeIn K cd21 "law" = true) (k21 : PySem.W.keepIn K (.ref f21) = true)
    (z_len : PySem.W.nsIn K mainGlobals "len" = some none)
    (z_isinstance : PySem.W.nsIn K mainGlobals "isinstance" = some none)
    (z_max : PySem.W.nsIn K mainGlobals "max" = some none)
    (z_min : PySem.W.nsIn K mainGlobals "min" = some none)
    (z_sum : PySem.W.nsIn K mainGlobals "sum" = some none)
    (z_all : PySem.W.nsIn K mainGlobals "all" = some none)
    (z_tuple : PySem.W.nsIn K mainGlobals "tuple" = some none)
    (z_list : PySem.W.nsIn K mainGlobals "list" = some none)
    (z_abs : PySem.W.nsIn K mainGlobals "abs" = some none)
    (z_range : PySem.W.nsIn K mainGlobals "range" = some none)
    (z_zip : PySem.W.nsIn K mainGlobals "zip" = some none)
    (z_bool : PySem.W.nsIn K mainGlobals "bool" = some none)
    (z_int : PySem.W.nsIn K mainGlobals "int" = some none)
    (z_repr : PySem.W.nsIn K mainGlobals "repr" = some none)
    (v_LAST_MOMENT : PySem.W.nsIn K mainGlobals "LAST_MOMENT" = some (some (.int 1000000000 t0)))
    (v_MOST_WAY : PySem.W.nsIn K mainGlobals "MOST_WAY" = some (some (.int 20 t1)))
    (v_MOST_MANY : PySem.W.nsIn K mainGlobals "MOST_MANY" = some (some (.int 24 t2)))
    (v_MOST_MOVES : PySem.W.nsIn K mainGlobals "MOST_MOVES" = some (some (.int 8 t3))) :
    ∃ fd : FuncData, (∀ (s : Shared) (v : Value), BindsTo s fd ⟨[v], []⟩ [("_law_script", v)]) ∧ ∀ base : Heap, K.In base → base.Ns mainGlobals mg → FnG l.prog w K mg base 8 fa fd ["_law_script"] (sp_law K) := by
  have e := hfa.symm.trans (PySem.W.mg_of X G a21)
  cases e
  have T : Txt K mg := ⟨PySem.W.mg_none_of X G z_len, PySem.W.mg_none_of X G z_isinstance, PySem.W.mg_none_of X G z_max, PySem.W.mg_none_of X G z_min, PySem.W.mg_none_of X G z_sum, PySem.W.mg_none_of X G z_all, PySem.W.mg_none_of X G z_tuple, PySem.W.mg_none_of X G z_list, PySem.W.mg_none_of X G z_abs, PySem.W.mg_none_of X G z_range, PySem.W.mg_none_of X G z_zip, PySem.W.mg_none_of X G z_bool, PySem.W.mg_none_of X G z_int, PySem.W.mg_none_of X G z_repr, ⟨_, PySem.W.mg_of X G v_LAST_MOMENT⟩, ⟨_, PySem.W.mg_of X G v_MOST_WAY⟩, ⟨_, PySem.W.mg_of X G v_MOST_MANY⟩, ⟨_, PySem.W.mg_of X G v_MOST_MOVES⟩⟩
  refine ⟨PySem.W.fnOf "law" "law" (defArgs s_law) (defBody s_law) (defScope s_law) .none kV21 dc21 pm21 an21 cd21 ct21, fun s v => .of_eq rfl, fun base _ _ => ?_⟩
  have F0 := fun_mk (st := s_is_whole_from) l0 c0 k0
  have b0 := F0.binds (ps := ["thing", "least"]) fun _ _ _ _ _ _ us hl => match us, hl with | [_, _], _ => rfl
  have D_is_whole_from : Cl l.prog w K mg base 1 "is_whole_from" ["thing", "least"] (sp_is_whole_from K) := ⟨_, _, ok_is_whole_from F0 T , k0, b0, PySem.W.mg_of X G a0⟩
  have F1 := fun_mk (st := s_is_whole) l1 c1 k1
  have b1 := F1.binds (ps := ["thing", "least", "most"]) fun _ _ _ _ _ _ us hl => match us, hl with | [_, _, _], _ => rfl
  have D_is_whole : Cl l.prog w K mg base 2 "is_whole" ["thing", "least", "most"] (sp_is_whole K) := ⟨_, _, ok_is_whole F1 T (D_is_whole_from), k1, b1, PySem.W.mg_of X G a1⟩
  have F2 := fun_mk (st := s_need_moment) l2 c2 k2
  have b2 := F2.binds (ps := ["thing"]) fun _ _ _ _ _ _ us hl => match us, hl with | [_], _ => rfl
  have D_need_moment : Cl l.prog w K mg base 3 "need_moment" ["thing"] (sp_need_moment K) := ⟨_, _, ok_need_moment F2 T (D_is_whole), k2, b2, PySem.W.mg_of X G a2⟩
  have F3 := fun_mk (st := s_is_tuple) l3 c3 k3
  have b3 := F3.binds (ps := ["thing", "least", "most"]) fun _ _ _ _ _ _ us hl => match us, hl with | [_, _, _], _ => rfl
  have D_is_tuple : Cl l.prog w K mg base 1 "is_tuple" ["thing", "least", "most"] (sp_is_tuple K) := ⟨_, _, ok_is_tuple F3 T , k3, b3, PySem.W.mg_of X G a3⟩
  have F4 := fun_mk (st := s_is_way) l4 c4 k4
  have b4 := F4.binds (ps := ["thing"]) fun _ _ _ _ _ _ us hl => match us, hl with | [_], _ => rfl
  have D_is_way : Cl l.prog w K mg base 3 "is_way" ["thing"] (sp_is_way K) := ⟨_, _, ok_is_way F4 T (D_is_whole), k4, b4, PySem.W.mg_of X G a4⟩
  have F5 := fun_mk (st := s_is_many) l5 c5 k5
  have b5 := F5.binds (ps := ["thing"]) fun _ _ _ _ _ _ us hl => match us, hl with | [_], _ => rfl
  have D_is_many : Cl l.prog w K mg base 3 "is_many" ["thing"] (sp_is_many K) := ⟨_, _, ok_is_many F5 T (D_is_whole), k5, b5, PySem.W.mg_of X G a5⟩
  have F6 := fun_mk (st := s_is_move) l6 c6 k6
  have b6 := F6.binds (ps := ["thing"]) fun _ _ _ _ _ _ us hl => match us, hl with | [_], _ => rfl
  have D_is_move : Cl l.prog w K mg base 4 "is_move" ["thing"] (sp_is_move K) := ⟨_, _, ok_is_move F6 T (D_is_tuple) (D_is_way) (D_is_many), k6, b6, PySem.W.mg_of X G a6⟩
  have F7 := fun_mk (st := s_is_window) l7 c7 k7
  have b7 := F7.binds (ps := ["thing"]) fun _ _ _ _ _ _ us hl => match us, hl with | [_], _ => rfl
  have D_is_window : Cl l.prog w K mg base 5 "is_window" ["thing"] (sp_is_window K) := ⟨_, _, ok_is_window F7 T (D_is_tuple) (D_is_way) (D_is_move), k7, b7, PySem.W.mg_of X G a7⟩
  have F8 := fun_mk (st := s_need_window) l8 c8 k8
  have b8 := F8.binds (ps := ["thing"]) fun _ _ _ _ _ _ us hl => match us, hl with | [_], _ => rfl
  have D_need_window : Cl l.prog w K mg base 6 "need_window" ["thing"] (sp_need_window K) := ⟨_, _, ok_need_window F8 T (D_is_window), k8, b8, PySem.W.mg_of X G a8⟩
  have F9 := fun_mk (st := s_common_divisor) l9 c9 k9
  have b9 := F9.binds (ps := ["one", "other"]) fun _ _ _ _ _ _ us hl => match us, hl with | [_, _], _ => rfl
  have D_common_divisor : Cl l.prog w K mg base 1 "common_divisor" ["one", "other"] (sp_common_divisor K) := ⟨_, _, ok_common_divisor F9 T , k9, b9, PySem.W.mg_of X G a9⟩
  have F10 := fun_mk (st := s_lowest) l10 c10 k10
  have b10 := F10.binds (ps := ["top", "bottom"]) fun _ _ _ _ _ _ us hl => match us, hl with | [_, _], _ => rfl
  have D_lowest : Cl l.prog w K mg base 2 "lowest" ["top", "bottom"] (sp_lowest K) := ⟨_, _, ok_lowest F10 T (D_common_divisor), k10, b10, PySem.W.mg_of X G a10⟩
  have F11 := fun_mk (st := s_on_the_way) l11 c11 k11
  have b11 := F11.binds (ps := ["start", "goal", "step", "many"]) fun _ _ _ _ _ _ us hl => match us, hl with | [_, _, _, _], _ => rfl
  have D_on_the_way : Cl l.prog w K mg base 3 "on_the_way" ["start", "goal", "step", "many"] (sp_on_the_way K) := ⟨_, _, ok_on_the_way F11 T (D_lowest), k11, b11, PySem.W.mg_of X G a11⟩
  have F12 := fun_mk (st := s_place_of) l12 c12 k12
  have b12 := F12.binds (ps := ["window", "moment"]) fun _ _ _ _ _ _ us hl => match us, hl with | [_, _], _ => rfl
  have D_place_of : Cl l.prog w K mg base 4 "place_of" ["window", "moment"] (sp_place_of K) := ⟨_, _, ok_place_of F12 T (D_on_the_way), k12, b12, PySem.W.mg_of X G a12⟩
  have F13 := fun_mk (st := s_place_at) l13 c13 k13
  have b13 := F13.binds (ps := ["window", "moment"]) fun _ _ _ _ _ _ us hl => match us, hl with | [_, _], _ => rfl
  have D_place_at : Cl l.prog w K mg base 7 "place_at" ["window", "moment"] (sp_place_at K) := ⟨_, _, ok_place_at F13 T (D_need_window) (D_need_moment) (D_place_of), k13, b13, PySem.W.mg_of X G a13⟩
  have F14 := fun_mk (st := s__law_cell_at) l14 c14 k14
  have b14 := F14.binds (ps := ["_law_script", "_law_k"]) fun _ _ _ _ _ _ us hl => match us, hl with | [_, _], _ => rfl
  have D__law_cell_at : Cl l.prog w K mg base 1 "_law_cell_at" ["_law_script", "_law_k"] (sp__law_cell_at K) := ⟨_, _, ok__law_cell_at F14 T , k14, b14, PySem.W.mg_of X G a14⟩
  have F15 := fun_mk (st := s__law_state) l15 c15 k15
  have b15 := F15.binds (ps := ["_law_script", "_law_k"]) fun _ _ _ _ _ _ us hl => match us, hl with | [_, _], _ => rfl
  have D__law_state : Cl l.prog w K mg base 2 "_law_state" ["_law_script", "_law_k"] (sp__law_state K) := ⟨_, _, ok__law_state F15 T (D__law_cell_at), k15, b15, PySem.W.mg_of X G a15⟩
  have F16 := fun_mk (st := s__law_take) l16 c16 k16
  have b16 := F16.binds (ps := ["_law_state_here", "_law_many"]) fun _ _ _ _ _ _ us hl => match us, hl with | [_, _], _ => rfl
  have D__law_take : Cl l.prog w K mg base 1 "_law_take" ["_law_state_here", "_law_many"] (sp__law_take K) := ⟨_, _, ok__law_take F16 T , k16, b16, PySem.W.mg_of X G a16⟩
  have F17 := fun_mk (st := s__law_same) l17 c17 k17
  have b17 := F17.binds (ps := ["_law_found", "_law_due"]) fun _ _ _ _ _ _ us hl => match us, hl with | [_, _], _ => rfl
  have D__law_same : Cl l.prog w K mg base 3 "_law_same" ["_law_found", "_law_due"] (sp__law_same K) := same_all F17 T b17 (PySem.W.mg_of X G a17) 2
  have F18 := fun_mk (st := s__law_window) l18 c18 k18
  have b18 := F18.binds (ps := ["_law_state_here"]) fun _ _ _ _ _ _ us hl => match us, hl with | [_], _ => rfl
  have D__law_window : Cl l.prog w K mg base 2 "_law_window" ["_law_state_here"] (sp__law_window K) := ⟨_, _, ok__law_window F18 T (D__law_take), k18, b18, PySem.W.mg_of X G a18⟩
  have F19 := fun_mk (st := s__law_lowest) l19 c19 k19
  have b19 := F19.binds (ps := ["_law_top", "_law_bottom"]) fun _ _ _ _ _ _ us hl => match us, hl with | [_, _], _ => rfl
  have D__law_lowest : Cl l.prog w K mg base 1 "_law_lowest" ["_law_top", "_law_bottom"] (sp__law_lowest K) := ⟨_, _, ok__law_lowest F19 T , k19, b19, PySem.W.mg_of X G a19⟩
  have F20 := fun_mk (st := s__law_places) l20 c20 k20
  have b20 := F20.binds (ps := ["_law_window_here", "_law_many"]) fun _ _ _ _ _ _ us hl => match us, hl with | [_, _], _ => rfl
  have D__law_places : Cl l.prog w K mg base 2 "_law_places" ["_law_window_here", "_law_many"] (sp__law_places K) := ⟨_, _, ok__law_places F20 T (D__law_lowest), k20, b20, PySem.W.mg_of X G a20⟩
  have F21 := fun_mk (st := s_law) l21 c21 k21
  exact ok_law F21 T (D__law_state) (D__law_window) (D__law_places) (D__law_same) (D_place_at) (D__law_take)

end Lan
open PySem PySem.W PyProof.Rows
set_option maxRecDepth 100000 in
set_option maxHeartbeats 0 in
theorem PySem.Challenge.cw_lanternrows_k05_places_of_a_window_holds : PySem.Challenge.rw_lanternrows_k05_places_of_a_window.Holds := by
  w_on; o_law; k_head; (case hw => w_witness2)
  k_fill
  refine Lan.walk_ofG (l := PySem.Challenge.rw_lanternrows_k05_places_of_a_window) (n := 63) (k := 8) (x := "_law_script") (sp := fun w => Lan.sp_law _) rfl (by decide) rfl ⟨rfl, by decide, by decide⟩ (fun w h Y => PySem.W.kIn_of Y) ?F (fun _ _ a ns hl hS => ⟨a, ns, rfl, hS, hl, fun _ => rfl⟩)
  case F =>
    intro w mg fa h KX G hmg
    refine' Lan.all_mk KX G hmg ?a0 ?l0 ?c0 ?k0 ?a1 ?l1 ?c1 ?k1 ?a2 ?l2 ?c2 ?k2 ?a3 ?l3 ?c3 ?k3 ?a4 ?l4 ?c4 ?k4 ?a5 ?l5 ?c5 ?k5 ?a6 ?l6 ?c6 ?k6 ?a7 ?l7 ?c7 ?k7 ?a8 ?l8 ?c8 ?k8 ?a9 ?l9 ?c9 ?k9 ?a10 ?l10 ?c10 ?k10 ?a11 ?l11 ?c11 ?k11 ?a12 ?l12 ?c12 ?k12 ?a13 ?l13 ?c13 ?k13 ?a14 ?l14 ?c14 ?k14 ?a15 ?l15 ?c15 ?k15 ?a16 ?l16 ?c16 ?k16 ?a17 ?l17 ?c17 ?k17 ?a18 ?l18 ?c18 ?k18 ?a19 ?l19 ?c19 ?k19 ?a20 ?l20 ?c20 ?k20 ?a21 ?l21 ?c21 ?k21 ?z_len ?z_isinstance ?z_max ?z_min ?z_sum ?z_all ?z_tuple ?z_list ?z_abs ?z_range ?z_zip ?z_bool ?z_int ?z_repr ?v_LAST_MOMENT ?v_MOST_WAY ?v_MOST_MANY ?v_MOST_MOVES
    (case a0 => k_is)
    (case l0 => k_is)
    (case c0 => k_is)
    (case k0 => k_is)
    (case a1 => k_is)
    (case l1 => k_is)
    (case c1 => k_is)
    (case k1 => k_is)
    (case a2 => k_is)
    (case l2 => k_is)
    (case c2 => k_is)
    (case k2 => k_is)
    (case a3 => k_is)
    (case l3 => k_is)
    (case c3 => k_is)
    (case k3 => k_is)
    (case a4 => k_is)
    (case l4 => k_is)
    (case c4 => k_is)
    (case k4 => k_is)
    (case a5 => k_is)
    (case l5 => k_is)
    (case c5 => k_is)
    (case k5 => k_is)
    (case a6 => k_is)
    (case l6 => k_is)
    (case c6 => k_is)
    (case k6 => k_is)
    (case a7 => k_is)
    (case l7 => k_is)
    (case c7 => k_is)
    (case k7 => k_is)
    (case a8 => k_is)
    (case l8 => k_is)
    (case c8 => k_is)
    (case k8 => k_is)
    (case a9 => k_is)
    (case l9 => k_is)
    (case c9 => k_is)
    (case k9 => k_is)
    (case a10 => k_is)
    (case l10 => k_is)
    (case c10 => k_is)
    (case k10 => k_is)
    (case a11 => k_is)
    (case l11 => k_is)
    (case c11 => k_is)
    (case k11 => k_is)
    (case a12 => k_is)
    (case l12 => k_is)
    (case c12 => k_is)
    (case k12 => k_is)
    (case a13 => k_is)
    (case l13 => k_is)
    (case c13 => k_is)
    (case k13 => k_is)
    (case a14 => k_is)
    (case l14 => k_is)
    (case c14 => k_is)
    (case k14 => k_is)
    (case a15 => k_is)
    (case l15 => k_is)
    (case c15 => k_is)
    (case k15 => k_is)
    (case a16 => k_is)
    (case l16 => k_is)
    (case c16 => k_is)
    (case k16 => k_is)
    (case a17 => k_is)
    (case l17 => k_is)
    (case c17 => k_is)
    (case k17 => k_is)
    (case a18 => k_is)
    (case l18 => k_is)
    (case c18 => k_is)
    (case k18 => k_is)
    (case a19 => k_is)
    (case l19 => k_is)
    (case c19 => k_is)
    (case k19 => k_is)
    (case a20 => k_is)
    (case l20 => k_is)
    (case c20 => k_is)
    (case k20 => k_is)
    (case a21 => k_is)
    (case l21 => k_is)
    (case c21 => k_is)
    (case k21 => k_is)
    (case z_len => k_is)
    (case z_isinstance => k_is)
    (case z_max => k_is)
    (case z_min => k_is)
    (case z_sum => k_is)
    (case z_all => k_is)
    (case z_tuple => k_is)
    (case z_list => k_is)
    (case z_abs => k_is)
    (case z_range => k_is)
    (case z_zip => k_is)
    (case z_bool => k_is)
    (case z_int => k_is)
    (case z_repr => k_is)
    (case v_LAST_MOMENT => k_is)
    (case v_MOST_WAY => k_is)
    (case v_MOST_MANY => k_is)
    (case v_MOST_MOVES => k_is)
