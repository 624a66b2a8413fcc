import PyProof.Rows.All
import Wide.All
import OpenK.AllK
import Wide.FinOn
import HandS.ForMost
import HandS.IsInst
import HandS.TupAny
import HandS.TupMul
import HandS.Conv
import HandS.Style
import HandS.Flow
import HandS.Codes
import HandS.Zip
import KE.GoesNew
import HandS.Lambda
import HandS.EndTab
import HandS.ExcInit
import HandS.ExcField
import HandS.ExcIs
import HandS.HotCalls
import HandS.TryOnly
import HandS.WordsExc
import HandS.ExcOwn
import HandS.Small
import HandS.FStr
import KE.KExcIs
import HandS.SetFor
import PySem.Challenge.RW_lanternrows_k42_whole_shown_behind_one_a
set_option Elab.async false
set_option linter.all false
set_option maxRecDepth 100000
set_option maxHeartbeats 4000000
namespace Lan
open PySem PySem.Spec PyProof.Rows L2
/-! ### short rules -/
def bkV : Option Int → V
  | none => .non
  | some i => .int i
structure Cl (P : Program) (w : World) (K : PySem.W.Frag) (mg : Str → Option Value) (base : Heap) (k : Nat) (x : Str) (ps : List Str) (sp : Sp) : Prop where
  ex : ∃ (f : Addr) (fd : FuncData), FnOk P w K mg base CX0 k f fd ps sp ∧ PySem.W.keepIn K (.ref f) = true ∧ Binds K fd ps [] ∧ mg x = some (.ref f)
section
variable {X : Cx}
theorem pe_gint {x : Str} {pos : Pos} {n : Int} (hg : Gl X x) (h : ∃ t, X.mg x = some (.int n t)) (hd : (x == ("__debug__" : Str)) = false := by decide) : PE X (.Name x pos) (tC (.int n)) := by
  obtain ⟨t, h⟩ := h
  exact pe_glob hg h ⟨_, rfl⟩ hd
theorem pe_own {k : Nat} {x : Str} {ps : List Str} {sp : Sp} {e : Expr} {es : List Expr} {t : TA} {p pos : Pos} (C : Cl X.prog X.w X.K X.mg X.base k x ps sp) (hr : Room k X.A) (hg : Gl X x) (ha : PA X (e :: es) t)
    (hdb : (x == ("__debug__" : Str)) = false := by decide) (he : starEach (e :: es) X.env = (false, eval e X.env) :: starEach es X.env := by rfl) (hpl : (backTo pos (starEach es X.env)).any (·.1) = false := by rfl) :
    PE X (.Call (.Name x p) (e :: es) [] pos) (tCall sp [] E0 t) := by
  obtain ⟨f, fd, F, hk, hb, hm⟩ := C.ex
  exact pe_call F hr hg hm hk hb .nil pass0 ha hdb he hpl
def tPartN (t : TE) : TO := fun σ H Q => t σ H fun x H1 => ∃ o : Option Int, x = bkV o ∧ Q o H1
theorem po_opt {e : Expr} {te : TE} (h : PE X e te) : PO X (some e) (tPartN te) := by
  refine ⟨fun pins s σ H Q I hw => ?_⟩
  rw [evalPart_some]
  refine thn (h.run pins s σ H _ I hw) fun u s1 ⟨x, H1, I1, r1, q1⟩ => ?_
  obtain ⟨o, rfl, q⟩ := q1
  cases o with
  | none =>
    cases r1
    exact ⟨none, H1, I1, .none, q⟩
  | some i =>
    obtain ⟨t, rfl⟩ := r1
    exact ⟨some i, H1, I1, .int i t, q⟩
end
/-! ### heaps -/
theorem same_upd {H : Hp} {p : Addr} {o : HO} (h : H p = none) : Same H (upd H p o) := fun b x e => by
  rw [upd_ne (ne_of_none e h)]
  exact e
theorem new_at {H : Hp} {p : Addr} (o : HO) (h : H p = none) : Same H (upd H p o) ∧ (upd H p o) p = some o := ⟨same_upd h, upd_same⟩
theorem Same.sqT {K : PySem.W.Frag} {H H' : Hp} {a : Addr} {xs : List V} (e : Same H H') (h : SqT K H a xs) : SqT K H' a xs := by
  rcases h with (h | ⟨o, h⟩) | h
  · exact .inl (.inl (e _ _ h))
  · exact .inl (.inr ⟨o, e _ _ h⟩)
  · exact .inr h
def IsSt (H : Hp) (st : Addr) : Prop := ∃ a b : Int, H st = some (.lst [.int a, .int b]) ∧ 0 ≤ a ∧ 0 ≤ b ∧ b < 2147483647
/-- all but the state at st stands, and st holds a state as before -/
def Gr (st : Addr) (H H' : Hp) : Prop := (∀ b o, b ≠ st → H b = some o → H' b = some o) ∧ (IsSt H st → IsSt H' st)
theorem Gr.refl {st : Addr} {H : Hp} : Gr st H H := ⟨fun _ _ _ h => h, id⟩
theorem Gr.trans {st : Addr} {H H1 H2 : Hp} (a : Gr st H H1) (b : Gr st H1 H2) : Gr st H H2 := ⟨fun c o n h => b.1 c o n (a.1 c o n h), fun h => b.2 (a.2 h)⟩
theorem gr_same {st : Addr} {H H' : Hp} (s : Same H H') : Gr st H H' := ⟨fun b o _ h => s b o h, fun ⟨a, b, h, r⟩ => ⟨a, b, s _ _ h, r⟩⟩
theorem gr_set {st : Addr} {H : Hp} {a b : Int} (h0 : 0 ≤ a) (h1 : 0 ≤ b) (h2 : b < 2147483647) : Gr st H (upd H st (.lst [.int a, .int b])) :=
  ⟨fun c o n h => by rw [upd_ne n]; exact h, fun _ => ⟨a, b, upd_same, h0, h1, h2⟩⟩
theorem Gr.sqT {st : Addr} {K : PySem.W.Frag} {H H' : Hp} {a : Addr} {xs : List V} (g : Gr st H H') (s : IsSt H st) (h : SqT K H a xs) : SqT K H' a xs := by
  obtain ⟨u, v, hs, _⟩ := s
  rcases h with (h | ⟨o, h⟩) | h
  · exact .inl (.inl (g.1 _ _ (ne_of h hs (by intro z; cases z)) h))
  · exact .inl (.inr ⟨o, g.1 _ _ (ne_of h hs (by intro z; cases z)) h⟩)
  · exact .inr h
/-- behind a state that was not there before -/
theorem Gr.same {st : Addr} {H H1 H2 : Hp} (g : Gr st H1 H2) (s : Same H H1) (n : H st = none) : Same H H2 := fun b o h => g.1 b o (ne_of_none h n) (s b o h)
theorem tyT {K : PySem.W.Frag} {H : Hp} {a : Addr} {xs : List V} (h : SqT K H a xs) : TyX K H (.ref a) (.type "tuple") := by
  rcases h with (h | ⟨o, h⟩) | ⟨o, its, n, h, c, _⟩
  · exact .base (.tup h)
  · exact .fTuple h
  · exact .kTuple h c
theorem yes_ok {σ : L2.St} {H : Hp} {te : TE} {R : VK} {Z : Hp → Prop} (h : te σ H R) : tYes σ H (fun b H3 => if b = true then te σ H3 R else Z H3) := by
  show if true = true then te σ H R else Z H
  rw [if_pos rfl]
  exact h
/-! ### comprehensions that make one value an item and leave the heap -/
theorem lcmap_tup {K : PySem.W.Frag} {a : Addr} {xs : List V} {g : TG} {tt : TT} {te : TE} {vs : List Nat} {σ : L2.St} {H1 : Hp} {D : Addr} {Qd : Hp → Prop} (ys : List V) (hl : ys.length = xs.length) (hz : xs.length ≤ 1000) (hS : SqT K H1 a xs) (hD : H1 D = none)
    (hs : ∀ (i : Nat) (x y : V) (H : Hp) (R : V → Hp → Prop) (Z : Hp → Prop), xs[i]? = some x → ys[i]? = some y → Same H1 H → (∀ H4, Same H H4 → R y H4) → g x (wipe σ vs) H fun σ2 H2 => wipe σ2 vs = wipe σ vs ∧ tt σ2 H2 fun b H3 => if b = true then te σ2 H3 R else Z H3)
    (hd : ∀ H, Same H1 H → H D = some (.lst ys) → Qd H) :
    ∃ W : Nat → Nat → Hp → Prop, (∃ m, W 0 m (upd H1 D (.lst []))) ∧ ∀ i m H, W i m H →
      ((Itt K a).stop i H ∧ Qd H) ∨ ((Itt K a).go i H ∧ ∃ Nx : Hp → Prop, (∀ H', Nx H' → ∃ m', m' < m ∧ W (i + 1) m' H') ∧ ∀ x H', (Itt K a).yld i H x H' → g x (wipe σ vs) H' fun σ2 H2 => wipe σ2 vs = wipe σ vs ∧ tt σ2 H2 fun b H3 =>
        if b = true then te σ2 H3 fun y H4 => ∃ acc, H4 D = some (.lst acc) ∧ acc.length < sizeLine ∧ Nx (upd H4 D (.lst (acc ++ [y]))) else Nx H3) := by
  refine lc_tup (K := K) (a := a) (xs := xs) (fun i H => Same H1 H ∧ H D = some (.lst (ys.take i))) ⟨same_upd hD, upd_same⟩ (fun i H _ p => Same.sqT p.1 hS) (fun i x H hx p => ?_) (fun H p => ?_)
  · have hi : i < xs.length := (List.getElem?_eq_some_iff.mp hx).1
    obtain ⟨y, hy⟩ : ∃ y, ys[i]? = some y := ⟨_, List.getElem?_eq_getElem (by omega)⟩
    refine hs i x y H _ _ hx hy p.1 (fun H4 s4 => ⟨ys.take i, s4 _ _ p.2, ?_, ?_, ?_⟩)
    · rw [List.length_take]
      exact Nat.lt_of_le_of_lt (Nat.min_le_left _ _) (small1000 (by omega))
    · intro b o e
      rw [upd_ne (ne_of_none e hD)]
      exact s4 _ _ (p.1 _ _ e)
    · rw [upd_same, List.take_add_one, hy]
      rfl
  · refine hd H p.1 ?_
    rw [p.2, List.take_of_length_le (by omega)]
/-! ### paired lists -/
theorem Paired.mono {α β : Type} {F G : α → β → Prop} {l₁ : List α} {l₂ : List β} (p : Paired F l₁ l₂) (f : ∀ a b, F a b → G a b) : Paired G l₁ l₂ := Paired.mapP p f
theorem Paired.takeP {α β : Type} {F : α → β → Prop} : ∀ {l₁ : List α} {l₂ : List β} (n : Nat), Paired F l₁ l₂ → Paired F (l₁.take n) (l₂.take n)
  | _, _, 0, _ => .nil
  | _, _, _ + 1, .nil => .nil
  | _, _, n + 1, .cons r t => .cons r (Paired.takeP n t)
theorem Paired.dropP {α β : Type} {F : α → β → Prop} : ∀ {l₁ : List α} {l₂ : List β} (n : Nat), Paired F l₁ l₂ → Paired F (l₁.drop n) (l₂.drop n)
  | _, _, 0, p => p
  | _, _, _ + 1, .nil => .nil
  | _, _, n + 1, .cons _ t => Paired.dropP n t
theorem Paired.at {α β : Type} {F : α → β → Prop} : ∀ {l₁ : List α} {l₂ : List β} {i : Nat} {x : α}, Paired F l₁ l₂ → l₁[i]? = some x → ∃ y, l₂[i]? = some y ∧ F x y
  | _, _, i, x, .nil, h => by simp at h
  | _, _, 0, x, .cons (a := a) r t, h => by
    have e : _ = x := Option.some.inj h
    subst e
    exact ⟨_, rfl, r⟩
  | _, _, i + 1, x, .cons r t, h => Paired.at (i := i) t h
theorem Paired.at2 {α β : Type} {F : α → β → Prop} : ∀ {l₁ : List α} {l₂ : List β} {i : Nat} {y : β}, Paired F l₁ l₂ → l₂[i]? = some y → ∃ x, l₁[i]? = some x ∧ F x y
  | _, _, i, y, .nil, h => by simp at h
  | _, _, 0, y, .cons r t, h => by
    have e : _ = y := Option.some.inj h
    subst e
    exact ⟨_, rfl, r⟩
  | _, _, i + 1, y, .cons r t, h => Paired.at2 (i := i) t h
theorem Paired.snocP {α β : Type} {F : α → β → Prop} : ∀ {l₁ : List α} {l₂ : List β} {x : α} {y : β}, Paired F l₁ l₂ → F x y → Paired F (l₁ ++ [x]) (l₂ ++ [y])
  | _, _, _, _, .nil, h => .cons h .nil
  | _, _, _, _, .cons r t, h => .cons r (Paired.snocP t h)
/-! ### rows, layers as they lie in the heap -/
abbrev RW := Int × Int
def RowAt (K : PySem.W.Frag) (H : Hp) (v : V) (r : RW) : Prop := ∃ p, v = .ref p ∧ SqT K H p [.int r.1, .int r.2]
def RowsAt (K : PySem.W.Frag) (H : Hp) (v : V) (rs : List RW) : Prop := ∃ p vs, v = .ref p ∧ SqT K H p vs ∧ Paired (RowAt K H) vs rs
def LayAt (K : PySem.W.Frag) (H : Hp) (v : V) (rs : List RW) (bk : Option Int) : Prop := ∃ p rv, v = .ref p ∧ SqT K H p [rv, bkV bk] ∧ RowsAt K H rv rs
def VRow (r : RW) : Prop := 0 ≤ r.1 ∧ r.1 ≤ 9 ∧ 1 ≤ r.2 ∧ r.2 ≤ 24
def VRows (rs : List RW) : Prop := rs.length ≤ 8 ∧ ∀ r ∈ rs, VRow r
def VBack (rs : List RW) (bk : Option Int) : Prop := ∀ i, bk = some i → 0 ≤ i ∧ i < rs.length
abbrev TKeep (K : PySem.W.Frag) (H H' : Hp) : Prop := ∀ a xs, SqT K H a xs → SqT K H' a xs
theorem Same.tk {K : PySem.W.Frag} {H H' : Hp} (s : Same H H') : TKeep K H H' := fun _ _ h => Same.sqT s h
theorem Gr.tk {st : Addr} {K : PySem.W.Frag} {H H' : Hp} (g : Gr st H H') (s : IsSt H st) : TKeep K H H' := fun _ _ h => g.sqT s h
theorem RowAt.keep {K : PySem.W.Frag} {H H' : Hp} {v : V} {r : RW} (k : TKeep K H H') : RowAt K H v r → RowAt K H' v r := fun ⟨p, e, h⟩ => ⟨p, e, k _ _ h⟩
theorem RowsAt.keep {K : PySem.W.Frag} {H H' : Hp} {v : V} {rs : List RW} (k : TKeep K H H') : RowsAt K H v rs → RowsAt K H' v rs := fun ⟨p, vs, e, h, q⟩ => ⟨p, vs, e, k _ _ h, Paired.mono q fun _ _ => RowAt.keep k⟩
theorem LayAt.keep {K : PySem.W.Frag} {H H' : Hp} {v : V} {rs : List RW} {bk : Option Int} (k : TKeep K H H') : LayAt K H v rs bk → LayAt K H' v rs bk := fun ⟨p, rv, e, h, q⟩ => ⟨p, rv, e, k _ _ h, q.keep k⟩
/-! ### what a layer shows -/
def tot (rs : List RW) : Int := (rs.map (·.2)).sum
theorem tot_nil : tot [] = 0 := rfl
theorem tot_cons (r : RW) (rs : List RW) : tot (r :: rs) = r.2 + tot rs := by
  unfold tot
  rw [List.map_cons, List.sum_cons]
theorem tot_append (rs qs : List RW) : tot (rs ++ qs) = tot rs + tot qs := by
  induction rs with
  | nil => simp [tot_nil]
  | cons r t ih =>
    rw [List.cons_append, tot_cons, tot_cons, ih]
    omega
theorem tot_split (rs : List RW) (k : Nat) : tot rs = tot (rs.take k) + tot (rs.drop k) := by
  rw [← tot_append, List.take_append_drop]
theorem tot_nonneg : ∀ {rs : List RW}, (∀ r ∈ rs, VRow r) → (rs.length : Int) ≤ tot rs ∧ tot rs ≤ 24 * rs.length
  | [], _ => by
    rw [tot_nil]
    exact ⟨Int.le_refl _, Int.le_refl _⟩
  | r :: t, h => by
    have h1 := h r (List.mem_cons_self ..)
    have ih := tot_nonneg (rs := t) fun q hq => h q (List.mem_cons_of_mem _ hq)
    rw [tot_cons, List.length_cons]
    obtain ⟨_, _, h3, h4⟩ := h1
    obtain ⟨i1, i2⟩ := ih
    constructor <;> omega
def walk : List RW → Int → Int
  | [], _ => 0
  | r :: t, m => if m < r.2 then r.1 else walk t (m - r.2)
def near (rs : List RW) (bk : Option Int) (m : Int) : Int := match bk with
  | none => m
  | some b => if m < tot (rs.take b.toNat) then m else tot (rs.take b.toNat) + (m - tot (rs.take b.toNat)) % tot (rs.drop b.toNat)
def shown (rs : List RW) (bk : Option Int) (m : Int) : Int := walk rs (near rs bk m)
theorem walk_out : ∀ (rs : List RW) (m : Int), tot rs ≤ m → (∀ r ∈ rs, VRow r) → walk rs m = 0
  | [], _, _, _ => rfl
  | r :: t, m, h, v => by
    have v1 := v r (List.mem_cons_self ..)
    have vt : ∀ q ∈ t, VRow q := fun q hq => v q (List.mem_cons_of_mem _ hq)
    have t0 := (tot_nonneg vt).1
    rw [tot_cons] at h
    unfold walk
    rw [if_neg (by omega)]
    exact walk_out t _ (by omega) vt
theorem walk_at : ∀ (rs : List RW) (p : Nat) (r : RW) (j : Int), rs[p]? = some r → (∀ r ∈ rs, VRow r) → 0 ≤ j → j < r.2 → walk rs (tot (rs.take p) + j) = r.1
  | [], p, r, j, h, _, _, _ => by simp at h
  | q :: t, 0, r, j, h, _, h0, h1 => by
    have e : q = r := Option.some.inj h
    subst e
    rw [List.take_zero, tot_nil]
    unfold walk
    rw [if_pos (by omega)]
  | q :: t, p + 1, r, j, h, v, h0, h1 => by
    have vq := v q (List.mem_cons_self ..)
    have vt : ∀ q ∈ t, VRow q := fun q hq => v q (List.mem_cons_of_mem _ hq)
    have tp : 0 ≤ tot (t.take p) := by
      have := (tot_nonneg (rs := t.take p) fun q hq => vt q (List.mem_of_mem_take hq)).1
      omega
    rw [List.take_succ_cons, tot_cons]
    unfold walk
    rw [if_neg (by omega), show q.2 + tot (t.take p) + j - q.2 = tot (t.take p) + j by omega]
    exact walk_at t p r j h vt h0 h1
theorem tot_take_le {rs : List RW} (v : ∀ r ∈ rs, VRow r) {p : Nat} {r : RW} (h : rs[p]? = some r) : tot (rs.take p) + r.2 ≤ tot rs := by
  have hp : p < rs.length := (List.getElem?_eq_some_iff.mp h).1
  have e : rs.take (p + 1) = rs.take p ++ [r] := by
    rw [List.take_add_one, h]
    rfl
  have s := tot_split rs (p + 1)
  rw [e, tot_append] at s
  have e1 : tot [r] = r.2 := by
    rw [tot_cons, tot_nil]
    omega
  have := (tot_nonneg (rs := rs.drop (p + 1)) fun q hq => v q (List.mem_of_mem_drop hq)).1
  omega
/-- the j-th picture of the row p, behind k more rounds -/
theorem shown_at {rs : List RW} {bk : Option Int} (v : ∀ r ∈ rs, VRow r) (vb : VBack rs bk) {p k : Nat} {r : RW} {j c : Int} (h : rs[p]? = some r) (h0 : 0 ≤ j) (h1 : j < r.2)
    (hc : ∀ b, bk = some b → c = tot (rs.drop b.toNat)) (hk : 0 < k → ∃ b, bk = some b ∧ b ≤ p) : shown rs bk (tot (rs.take p) + k * c + j) = r.1 := by
  have w := walk_at rs p r j h v h0 h1
  have tp : 0 ≤ tot (rs.take p) := by
    have := (tot_nonneg (rs := rs.take p) fun q hq => v q (List.mem_of_mem_take hq)).1
    omega
  unfold shown near
  cases bk with
  | none =>
    have k0 : k = 0 := by
      rcases Nat.eq_zero_or_pos k with z | z
      · exact z
      · obtain ⟨b, e, _⟩ := hk z
        cases e
    subst k0
    dsimp only
    rw [show tot (rs.take p) + ((0 : Nat) : Int) * c + j = tot (rs.take p) + j by simp]
    exact w
  | some b =>
    have hb := vb b rfl
    have ec := hc b rfl
    have s := tot_split rs b.toNat
    have le := tot_take_le v h
    rw [← ec] at s
    dsimp only
    rw [← ec]
    have cpos : 0 < c := by
      have := (tot_nonneg (rs := rs.drop b.toNat) fun q hq => v q (List.mem_of_mem_drop hq)).1
      rw [← ec, List.length_drop] at this
      omega
    rcases Nat.eq_zero_or_pos k with z | z
    · subst z
      rw [show tot (rs.take p) + ((0 : Nat) : Int) * c + j = tot (rs.take p) + j by simp]
      by_cases hm : tot (rs.take p) + j < tot (rs.take b.toNat)
      · rw [if_pos hm]
        exact w
      · rw [if_neg hm, Int.emod_eq_of_lt (by omega) (by omega)]
        rw [show tot (rs.take b.toNat) + (tot (rs.take p) + j - tot (rs.take b.toNat)) = tot (rs.take p) + j by omega]
        exact w
    · obtain ⟨b', e, hbp⟩ := hk z
      have e' : b = b' := Option.some.inj e
      subst e'
      have bp : b.toNat ≤ p := by omega
      have tb : tot (rs.take b.toNat) ≤ tot (rs.take p) := by
        have e1 : rs.take b.toNat = (rs.take p).take b.toNat := by
          rw [List.take_take, Nat.min_eq_left bp]
        have s1 := tot_split (rs.take p) b.toNat
        rw [← e1] at s1
        have := (tot_nonneg (rs := (rs.take p).drop b.toNat) fun q hq => v q (List.mem_of_mem_take (List.mem_of_mem_drop hq))).1
        omega
      have kc : 0 ≤ (k : Int) * c := Int.mul_nonneg (by omega) (by omega)
      rw [if_neg (by omega)]
      rw [show tot (rs.take p) + (k : Int) * c + j - tot (rs.take b.toNat) = (tot (rs.take p) + j - tot (rs.take b.toNat)) + c * k by rw [Int.mul_comm c]; omega, Int.add_mul_emod_self_left, Int.emod_eq_of_lt (by omega) (by omega)]
      rw [show tot (rs.take b.toNat) + (tot (rs.take p) + j - tot (rs.take b.toNat)) = tot (rs.take p) + j by omega]
      exact w
theorem shown_end {rs : List RW} (v : ∀ r ∈ rs, VRow r) {m : Int} (h : tot rs ≤ m) : shown rs none m = 0 := walk_out rs m h v
/-- a great moment is as the one so many whole rounds ahead -/
theorem shown_far {rs : List RW} {bk : Option Int} (v : ∀ r ∈ rs, VRow r) (vb : VBack rs bk) {m s : Int} (hs : s = match bk with | none => 1 | some b => tot (rs.drop b.toNat)) (h : tot rs ≤ m) :
    shown rs bk (tot rs + (m - tot rs) % s) = shown rs bk m := by
  cases bk with
  | none =>
    dsimp only at hs
    subst hs
    rw [shown_end v h, shown_end v (by omega)]
  | some b =>
    dsimp only at hs
    have hb := vb b rfl
    have e := tot_split rs b.toNat
    have spos : 0 < s := by
      have := (tot_nonneg (rs := rs.drop b.toNat) fun q hq => v q (List.mem_of_mem_drop hq)).1
      rw [← hs, List.length_drop] at this
      omega
    have hm := Int.emod_nonneg (m - tot rs) (show s ≠ 0 by omega)
    unfold shown near
    dsimp only
    rw [← hs] at e ⊢
    rw [if_neg (by omega), if_neg (by omega)]
    congr 2
    rw [show tot rs + (m - tot rs) % s - tot (rs.take b.toNat) = (m - tot rs) % s + s * 1 by omega, Int.add_mul_emod_self_left, Int.emod_emod,
      show m - tot (rs.take b.toNat) = (m - tot rs) + s * 1 by omega, Int.add_mul_emod_self_left]
theorem shown_walk_none (rs : List RW) (m : Int) : shown rs none m = walk rs m := rfl
/-! ### slices -/
theorem cut_to (xs : List V) (k : Nat) : cutV xs none (some (k : Int)) = xs.take k := by
  unfold cutV
  rw [HT.sIx_none, HT.sIx_nat, List.drop_zero, Nat.sub_zero]
  rcases Nat.le_total k xs.length with h | h
  · rw [Nat.min_eq_left h]
  · rw [Nat.min_eq_right h, List.take_length, List.take_of_length_le h]
theorem cut_from (xs : List V) (k : Nat) : cutV xs (some (k : Int)) none = xs.drop k := by
  unfold cutV
  rw [HT.sIx_none, HT.sIx_nat]
  rcases Nat.le_total k xs.length with h | h
  · rw [Nat.min_eq_left h, List.take_of_length_le (by rw [List.length_drop]; omega)]
  · rw [Nat.min_eq_right h, Nat.sub_self, List.take_zero, List.drop_of_length_le h]
theorem cut_all (xs : List V) : cutV xs none none = xs := by
  unfold cutV
  rw [HT.sIx_none, HT.sIx_none, List.drop_zero, Nat.sub_zero, List.take_length]
theorem cut_whole {xs : List V} {lo hi : Option Int} (h : HT.sIx xs.length 0 lo = 0 ∧ HT.sIx xs.length xs.length hi = xs.length) : cutV xs lo hi = xs := by
  unfold cutV
  rw [h.1, h.2, List.drop_zero, Nat.sub_zero, List.take_length]
theorem sl_rows {K : PySem.W.Frag} {H : Hp} {a : Addr} {xs : List V} {lo hi : Option Int} (rs : List RW) {R : VK} (hS : SqT K H a xs) (hp : Paired (RowAt K H) (cutV xs lo hi) rs) (h : ∀ H' v, Same H H' → RowsAt K H' v rs → R v H') :
    rSlA K (.ref a) lo hi H R := by
  refine ⟨a, xs, rfl, hS, fun w => h H _ (Same.refl _) ⟨a, xs, rfl, hS, ?_⟩, fun _ p np => ?_⟩
  · rw [cut_whole w] at hp
    exact hp
  · have s := same_upd (o := .tup (cutV xs lo hi)) np
    exact h _ _ s ⟨p, _, rfl, .inl (.inl upd_same), Paired.mono hp fun _ _ => RowAt.keep (Same.tk s)⟩
/-! ### windows -/
abbrev MV := Int × Int × Int
def MoveAt (K : PySem.W.Frag) (H : Hp) (v : V) (m : MV) : Prop := ∃ p, v = .ref p ∧ SqT K H p [.int m.1, .int m.2.1, .int m.2.2]
def MovesAt (K : PySem.W.Frag) (H : Hp) (v : V) (ms : List MV) : Prop := ∃ p vs, v = .ref p ∧ SqT K H p vs ∧ Paired (MoveAt K H) vs ms
def WinAt (K : PySem.W.Frag) (H : Hp) (v : V) (x y : Int) (ms : List MV) : Prop := ∃ p mv, v = .ref p ∧ SqT K H p [.int x, .int y, mv] ∧ MovesAt K H mv ms
def VMove (m : MV) : Prop := (-20 ≤ m.1 ∧ m.1 ≤ 20) ∧ (-20 ≤ m.2.1 ∧ m.2.1 ≤ 20) ∧ 0 ≤ m.2.2 ∧ m.2.2 ≤ 24
def VWin (x y : Int) (ms : List MV) : Prop := (-20 ≤ x ∧ x ≤ 20) ∧ (-20 ≤ y ∧ y ≤ 20) ∧ ms.length ≤ 8 ∧ ∀ m ∈ ms, VMove m
theorem MoveAt.keep {K : PySem.W.Frag} {H H' : Hp} {v : V} {m : MV} (k : TKeep K H H') : MoveAt K H v m → MoveAt K H' v m := fun ⟨p, e, h⟩ => ⟨p, e, k _ _ h⟩
theorem MovesAt.keep {K : PySem.W.Frag} {H H' : Hp} {v : V} {ms : List MV} (k : TKeep K H H') : MovesAt K H v ms → MovesAt K H' v ms := fun ⟨p, vs, e, h, q⟩ => ⟨p, vs, e, k _ _ h, Paired.mono q fun _ _ => MoveAt.keep k⟩
theorem WinAt.keep {K : PySem.W.Frag} {H H' : Hp} {v : V} {x y : Int} {ms : List MV} (k : TKeep K H H') : WinAt K H v x y ms → WinAt K H' v x y ms := fun ⟨p, mv, e, h, q⟩ => ⟨p, mv, e, k _ _ h, q.keep k⟩
def mtot (ms : List MV) : Int := (ms.map (·.2.2)).sum
/-! ### sheets -/
abbrev LY := List RW × Option Int
def LyAt (K : PySem.W.Frag) (H : Hp) (v : V) (l : LY) : Prop := LayAt K H v l.1 l.2
def LaysAt (K : PySem.W.Frag) (H : Hp) (v : V) (ls : List LY) : Prop := ∃ p vs, v = .ref p ∧ SqT K H p vs ∧ Paired (LyAt K H) vs ls
def VLy (l : LY) : Prop := VRows l.1 ∧ VBack l.1 l.2
def VLays (ls : List LY) : Prop := 1 ≤ ls.length ∧ ls.length ≤ 4 ∧ ∀ l ∈ ls, VLy l
def ShAt (K : PySem.W.Frag) (H : Hp) (v : V) (ls : List LY) (x y : Int) (ms : List MV) : Prop := ∃ p lv wv, v = .ref p ∧ SqT K H p [lv, wv] ∧ LaysAt K H lv ls ∧ WinAt K H wv x y ms
theorem LyAt.keep {K : PySem.W.Frag} {H H' : Hp} {v : V} {l : LY} (k : TKeep K H H') : LyAt K H v l → LyAt K H' v l := LayAt.keep k
theorem LaysAt.keep {K : PySem.W.Frag} {H H' : Hp} {v : V} {ls : List LY} (k : TKeep K H H') : LaysAt K H v ls → LaysAt K H' v ls := fun ⟨p, vs, e, h, q⟩ => ⟨p, vs, e, k _ _ h, Paired.mono q fun _ _ => LyAt.keep k⟩
theorem ShAt.keep {K : PySem.W.Frag} {H H' : Hp} {v : V} {ls : List LY} {x y : Int} {ms : List MV} (k : TKeep K H H') : ShAt K H v ls x y ms → ShAt K H' v ls x y ms := fun ⟨p, lv, wv, e, h, q, r⟩ => ⟨p, lv, wv, e, k _ _ h, q.keep k, r.keep k⟩
/-! ### places -/
def PlAt (K : PySem.W.Frag) (H : Hp) (v : V) (p : RW × RW) : Prop := ∃ a v1 v2, v = .ref a ∧ SqT K H a [v1, v2] ∧ RowAt K H v1 p.1 ∧ RowAt K H v2 p.2
theorem PlAt.keep {K : PySem.W.Frag} {H H' : Hp} {v : V} {p : RW × RW} (k : TKeep K H H') : PlAt K H v p → PlAt K H' v p := fun ⟨a, v1, v2, e, h, r1, r2⟩ => ⟨a, v1, v2, e, k _ _ h, r1.keep k, r2.keep k⟩
/-! ### pictures -/
abbrev PIC := List Int × (RW × RW)
def PicAt (K : PySem.W.Frag) (H : Hp) (v : V) (c : PIC) : Prop := ∃ a b v2, v = .ref a ∧ SqT K H a [.ref b, v2] ∧ SqT K H b (c.1.map V.int) ∧ PlAt K H v2 c.2
theorem PicAt.keep {K : PySem.W.Frag} {H H' : Hp} {v : V} {c : PIC} (k : TKeep K H H') : PicAt K H v c → PicAt K H' v c := fun ⟨a, b, v2, e, h, h1, h2⟩ => ⟨a, b, v2, e, k _ _ h, k _ _ h1, h2.keep k⟩
/-! ### fractions in lowest terms -/
def lo (t b : Int) : RW := (t / ((Nat.gcd t.natAbs b.natAbs : Nat) : Int), b / ((Nat.gcd t.natAbs b.natAbs : Nat) : Int))
theorem gcd_facts {t b : Int} (hb : 0 < b) : ∃ g t' b' : Int, ((Nat.gcd t.natAbs b.natAbs : Nat) : Int) = g ∧ 0 < g ∧ t = g * t' ∧ b = g * b' ∧ 0 < b' ∧ (lo t b) = (t', b') ∧ g ≤ b ∧ Nat.Coprime b'.natAbs t'.natAbs := by
  have g0 : 0 < Nat.gcd t.natAbs b.natAbs := Nat.gcd_pos_of_pos_right _ (by omega)
  obtain ⟨t', ht⟩ : ((Nat.gcd t.natAbs b.natAbs : Nat) : Int) ∣ t := Int.natAbs_dvd_natAbs.mp (by rw [Int.natAbs_natCast]; exact Nat.gcd_dvd_left _ _)
  obtain ⟨b', hb'⟩ : ((Nat.gcd t.natAbs b.natAbs : Nat) : Int) ∣ b := Int.natAbs_dvd_natAbs.mp (by rw [Int.natAbs_natCast]; exact Nat.gcd_dvd_right _ _)
  have gp : (0 : Int) < ((Nat.gcd t.natAbs b.natAbs : Nat) : Int) := by omega
  have bp : 0 < b' := Int.pos_of_mul_pos_left (a := b') (b := ((Nat.gcd t.natAbs b.natAbs : Nat) : Int)) (by rw [Int.mul_comm, ← hb']; exact hb) gp
  have gle : ((Nat.gcd t.natAbs b.natAbs : Nat) : Int) ≤ b := by
    have := Nat.gcd_le_right t.natAbs (show 0 < b.natAbs by omega)
    omega
  have cop : Nat.gcd b'.natAbs t'.natAbs = 1 := by
    have e1 : t.natAbs = Nat.gcd t.natAbs b.natAbs * t'.natAbs := by
      have := congrArg Int.natAbs ht
      rw [Int.natAbs_mul, Int.natAbs_natCast] at this
      exact this
    have e2 : b.natAbs = Nat.gcd t.natAbs b.natAbs * b'.natAbs := by
      have := congrArg Int.natAbs hb'
      rw [Int.natAbs_mul, Int.natAbs_natCast] at this
      exact this
    have e3 : Nat.gcd (Nat.gcd t.natAbs b.natAbs * t'.natAbs) (Nat.gcd t.natAbs b.natAbs * b'.natAbs) = Nat.gcd t.natAbs b.natAbs * Nat.gcd t'.natAbs b'.natAbs := Nat.gcd_mul_left _ _ _
    rw [← e1, ← e2] at e3
    rw [Nat.gcd_comm]
    exact Nat.eq_of_mul_eq_mul_left g0 (by rw [← e3, Nat.mul_one])
  refine ⟨_, t', b', rfl, gp, ht, hb', bp, ?_, gle, cop⟩
  unfold lo
  congr 1
  · conv => lhs; arg 1; rw [ht]
    exact Int.mul_ediv_cancel_left _ (by omega)
  · conv => lhs; arg 1; rw [hb']
    exact Int.mul_ediv_cancel_left _ (by omega)
theorem lo_mem {t b k : Int} (hb : 0 < b) : t * k % b = 0 ↔ (lo t b).2 ∣ k := by
  obtain ⟨g, t', b', _, gp, et, eb, bp, el, _, cop⟩ := gcd_facts (t := t) hb
  rw [el]
  show _ ↔ b' ∣ k
  constructor
  · intro h
    have h1 := Int.dvd_of_emod_eq_zero h
    rw [et, eb, Int.mul_assoc] at h1
    obtain ⟨c, hc⟩ := h1
    rw [Int.mul_assoc] at hc
    have h2 : b' ∣ t' * k := ⟨c, Int.eq_of_mul_eq_mul_left (by omega) hc⟩
    have h3 := Int.natAbs_dvd_natAbs.mpr h2
    rw [Int.natAbs_mul] at h3
    exact Int.natAbs_dvd_natAbs.mp (Nat.Coprime.dvd_of_dvd_mul_left cop h3)
  · rintro ⟨c, hc⟩
    apply Int.emod_eq_zero_of_dvd
    refine ⟨t' * c, ?_⟩
    rw [et, eb, hc]
    rw [Int.mul_assoc, Int.mul_assoc, Int.mul_left_comm t' b' c]
/-- the numbers from 1 to n that the law looks through -/
def ks (t b : Int) (n : Nat) : List Int := ((List.range n).map fun j => 1 + ((j : Nat) : Int)).filter fun k => decide (t * k % b = 0)
theorem ks_head {t b : Int} (hb : 0 < b) : (ks t b b.toNat)[0]? = some (lo t b).2 := by
  obtain ⟨g, t', b', _, gp, et, eb, bp, el, _, cop⟩ := gcd_facts (t := t) hb
  have hm : ∀ k, t * k % b = 0 ↔ b' ∣ k := fun k => by
    have := lo_mem (t := t) (k := k) hb
    rw [el] at this
    exact this
  rw [el]
  show (ks t b b.toNat)[0]? = some b'
  have ble : b' ≤ b := by
    rw [eb]
    have : 1 * b' ≤ g * b' := Int.mul_le_mul_of_nonneg_right (by omega) (by omega)
    omega
  unfold ks
  rw [List.filter_map, List.getElem?_map, ← List.head?_eq_getElem?, List.head?_filter]
  have e : (List.range b.toNat).find? ((fun k : Int => decide (t * k % b = 0)) ∘ fun j : Nat => 1 + (j : Int)) = some (b'.toNat - 1) := by
    rw [List.find?_range_eq_some]
    refine ⟨?_, List.mem_range.mpr (by omega), fun j hj => ?_⟩
    · show decide (t * (1 + ((b'.toNat - 1 : Nat) : Int)) % b = 0) = true
      rw [decide_eq_true_eq, hm, show 1 + ((b'.toNat - 1 : Nat) : Int) = b' by omega]
      exact Int.dvd_refl _
    · show (!decide (t * (1 + (j : Int)) % b = 0)) = true
      rw [Bool.not_eq_true', decide_eq_false_iff_not, hm]
      intro hd
      have := Int.le_of_dvd (by omega) hd
      omega
  rw [e]
  show some (1 + ((b'.toNat - 1 : Nat) : Int)) = some b'
  congr 1
  omega
theorem lo_top {t b : Int} (hb : 0 < b) : t * (lo t b).2 / b = (lo t b).1 := by
  obtain ⟨g, t', b', _, gp, et, eb, bp, el, _, cop⟩ := gcd_facts (t := t) hb
  rw [el]
  show t * b' / b = t'
  rw [et, show g * t' * b' = b * t' by rw [eb, Int.mul_assoc, Int.mul_assoc, Int.mul_comm t' b']]
  exact Int.mul_ediv_cancel_left _ (by omega)
/-! ### where a window stands -/
def plc (x y : Int) : List MV → Int → RW × RW
  | [], _ => ((x, 1), (y, 1))
  | m :: r, t => if t < m.2.2 then (lo (x * m.2.2 + (m.1 - x) * (t + 1)) m.2.2, lo (y * m.2.2 + (m.2.1 - y) * (t + 1)) m.2.2) else plc m.1 m.2.1 r (t - m.2.2)
theorem way_eq (x g n k : Int) : x * (n - k) + g * k = x * n + (g - x) * k := by
  rw [Int.mul_sub, Int.sub_mul]
  omega
theorem plc_nil (x y t : Int) : plc x y [] t = ((x, 1), (y, 1)) := rfl
theorem plc_cons (x y : Int) (m : MV) (r : List MV) (t : Int) : plc x y (m :: r) t = if t < m.2.2 then (lo (x * m.2.2 + (m.1 - x) * (t + 1)) m.2.2, lo (y * m.2.2 + (m.2.1 - y) * (t + 1)) m.2.2) else plc m.1 m.2.1 r (t - m.2.2) := rfl
theorem mtot_cons (m : MV) (r : List MV) : mtot (m :: r) = m.2.2 + mtot r := by
  unfold mtot
  rw [List.map_cons, List.sum_cons]
theorem mtot_nonneg : ∀ {ms : List MV}, (∀ m ∈ ms, VMove m) → 0 ≤ mtot ms ∧ mtot ms ≤ 24 * ms.length
  | [], _ => ⟨Int.le_refl _, Int.le_refl _⟩
  | m :: r, h => by
    have ih := mtot_nonneg (ms := r) fun q hq => h q (List.mem_cons_of_mem _ hq)
    obtain ⟨_, _, h3, h4⟩ := h m (List.mem_cons_self ..)
    rw [mtot_cons, List.length_cons]
    obtain ⟨i1, i2⟩ := ih
    constructor <;> omega
theorem plc_far : ∀ (ms : List MV) (x y a b : Int), (∀ m ∈ ms, VMove m) → mtot ms ≤ a → mtot ms ≤ b → plc x y ms a = plc x y ms b
  | [], _, _, _, _, _, _, _ => rfl
  | m :: r, x, y, a, b, h, ha, hb => by
    have hr : ∀ q ∈ r, VMove q := fun q hq => h q (List.mem_cons_of_mem _ hq)
    have := (mtot_nonneg hr).1
    rw [mtot_cons] at ha hb
    rw [plc_cons, plc_cons, if_neg (by omega), if_neg (by omega)]
    exact plc_far r _ _ _ _ hr (by omega) (by omega)
def pic (ls : List LY) (x y : Int) (ms : List MV) (m : Int) : PIC := (ls.map (fun l => shown l.1 l.2 m), plc x y ms m)
/-! ### the law's own helpers -/
theorem fm {x m : Int} (h : 0 < m) : 0 ≤ x.fmod m ∧ x.fmod m < m := by
  rw [Int.fmod_eq_emod_of_nonneg x (by omega)]
  exact ⟨Int.emod_nonneg _ (by omega), Int.emod_lt_of_pos _ h⟩
theorem tk_updL {K : PySem.W.Frag} {H : Hp} {D : Addr} {xs ys : List V} (h : H D = some (.lst xs)) : TKeep K H (upd H D (.lst ys)) := by
  intro a zs q
  rcases q with (q | ⟨o, q⟩) | q
  · refine .inl (.inl ?_)
    rw [upd_ne (ne_of q h (by intro z; cases z))]
    exact q
  · refine .inl (.inr ⟨o, ?_⟩)
    rw [upd_ne (ne_of q h (by intro z; cases z))]
    exact q
  · exact .inr q
inductive Fl : V → String → Bool → Prop
  | non : Fl .non "NoneType" false
  | bl (b : Bool) : Fl (.bl b) "bool" true
  | int (i : Int) : Fl (.int i) "int" false
theorem Fl.ty {K : PySem.W.Frag} {H : Hp} {x : V} {t : String} {b : Bool} (f : Fl x t b) : TyX K H x (.type t) := by
  cases f with
  | non => exact .base .non
  | bl b => exact .base (.bl b)
  | int i => exact .base (.int i)
theorem Fl.kit {x : V} {t : String} {b : Bool} (f : Fl x t b) : kitB t "bool" = some b := by
  cases f <;> decide +kernel
theorem Fl.kit2 {K : PySem.W.Frag} {x : V} {t : String} {b : Bool} (f : Fl x t b) : PySem.W.kitAny K (.type t) [.type "tuple", .type "list"] = some false := by
  cases f <;> exact kitAny_cons (kit_ty (r := false) (by decide +kernel)) (fun _ => kitAny_cons (kit_ty (r := false) (by decide +kernel)) (fun _ => kitAny_nil) (fun z => nomatch z)) (fun z => nomatch z)
theorem Fl.scal {x y : V} {t u : String} {b : Bool} (f : Fl x t b) (g : Fl y u b) : L2.scal x y = true := by
  cases f <;> cases g <;> rfl
theorem Fl.ne {x y : V} {t u : String} {b c : Bool} (f : Fl x t b) (g : Fl y u c) (h : b ≠ c) : x ≠ y := by
  cases f <;> cases g <;> first | exact absurd rfl h | (intro z; cases z)
theorem st_ne {H : Hp} {st p : Addr} (s : IsSt H st) (h : H p = none) : p ≠ st := by
  obtain ⟨x, y, hx, _⟩ := s
  exact fun z => by rw [z, hx] at h; cases h
theorem st_neT {H : Hp} {st p : Addr} {xs : List V} (s : IsSt H st) (h : H p = some (.tup xs)) : p ≠ st := by
  obtain ⟨x, y, hx, _⟩ := s
  exact ne_of h hx (by intro z; cases z)
/-! ### the law's own comparison, of equal data -/
theorem tyL {K : PySem.W.Frag} {H : Hp} {a : Addr} {xs : List V} (h : SqL K H a xs) : TyX K H (.ref a) (.type "list") := by
  rcases h with (h | ⟨o, h⟩) | ⟨o, its, n, h, c, _⟩
  · exact .base (.lst h)
  · exact .base (.frz h)
  · exact .kList h c
mutual
theorem Dp.sm {K : PySem.W.Frag} {H H' : Hp} (s : Same H H') : ∀ {v : V} {d : PyData}, Dp K H v d → Dp K H' v d
  | _, _, .non => .non
  | _, _, .bl b => .bl b
  | _, _, .int i => .int i
  | _, _, .str x => .str x
  | _, _, .lst h q => .lst (s.seq h) (DpAll.sm s q)
  | _, _, .tup h q => .tup (Same.sqT s h) (DpAll.sm s q)
theorem DpAll.sm {K : PySem.W.Frag} {H H' : Hp} (s : Same H H') : ∀ {v : List V} {d : List PyData}, DpAll K H v d → DpAll K H' v d
  | _, _, .nil => .nil
  | _, _, .cons h q => .cons (Dp.sm s h) (DpAll.sm s q)
end
theorem DpAll.at {K : PySem.W.Frag} {H : Hp} : ∀ {vs : List V} {ds : List PyData} {i : Nat} {v : V}, DpAll K H vs ds → vs[i]? = some v → ∃ d, ds[i]? = some d ∧ Dp K H v d
  | _, _, i, v, .nil, h => by simp at h
  | _, _, 0, v, .cons a t, h => by
    have e : _ = v := Option.some.inj h
    subst e
    exact ⟨_, rfl, a⟩
  | _, _, i + 1, v, .cons a t, h => DpAll.at (i := i) t h
theorem DpAll.len {K : PySem.W.Frag} {H : Hp} : ∀ {vs : List V} {ds : List PyData}, DpAll K H vs ds → vs.length = ds.length
  | _, _, .nil => rfl
  | _, _, .cons _ t => by rw [List.length_cons, List.length_cons, DpAll.len t]
def flD (d : PyData) : Prop := d = .none ∨ (∃ b, d = .bool b) ∨ ∃ i, d = .int i
def dOk : Nat → PyData → Prop
  | 0, d => flD d
  | n + 1, d => flD d ∨ ∃ ds, (d = .list ds ∨ d = .tuple ds) ∧ ds.length ≤ 1000 ∧ ∀ e ∈ ds, dOk n e
theorem flD.fl {K : PySem.W.Frag} {H : Hp} {x y : V} {d : PyData} (f : flD d) (hx : Dp K H x d) (hy : Dp K H y d) : x = y ∧ ∃ t b, Fl x t b := by
  rcases f with rfl | ⟨b, rfl⟩ | ⟨i, rfl⟩
  · cases hx
    cases hy
    exact ⟨rfl, _, _, .non⟩
  · cases hx
    cases hy
    exact ⟨rfl, _, _, .bl b⟩
  · cases hx
    cases hy
    exact ⟨rfl, _, _, .int i⟩
/-- a comprehension over a zip of two that stand still, each item True -/
theorem lc_zip {J : It} {xs ys : List V} {g : TG} {tt : TT} {te : TE} {vs : List Nat} {σ : L2.St} {H1 : Hp} {D : Addr} {Qd : Hp → Prop} (hl : ys.length = xs.length) (hz : xs.length ≤ 1000) (hD : H1 D = none)
    (st : ∀ H, Same H1 H → J.stop xs.length H) (go : ∀ (i : Nat) (H : Hp), Same H1 H → i < xs.length → J.go i H)
    (yl : ∀ (i : Nat) (H : Hp) (v : V) (H' : Hp), Same H1 H → J.yld i H v H' → ∃ T x y, v = .ref T ∧ H T = none ∧ H' = upd H T (.tup [x, y]) ∧ xs[i]? = some x ∧ ys[i]? = some y)
    (hs : ∀ (i : Nat) (x y : V) (T : Addr) (H : Hp) (R : V → Hp → Prop) (Z : Hp → Prop), xs[i]? = some x → ys[i]? = some y → Same H1 H → H T = some (.tup [x, y]) → (∀ H4, Same H H4 → R (.bl true) H4) →
      g (.ref T) (wipe σ vs) H fun σ2 H2 => wipe σ2 vs = wipe σ vs ∧ tt σ2 H2 fun b H3 => if b = true then te σ2 H3 R else Z H3)
    (hd : ∀ H, Same H1 H → H D = some (.lst ((List.replicate xs.length true).map V.bl)) → Qd H) :
    ∃ W : Nat → Nat → Hp → Prop, (∃ m, W 0 m (upd H1 D (.lst []))) ∧ ∀ i m H, W i m H →
      (J.stop i H ∧ Qd H) ∨ (J.go i H ∧ ∃ Nx : Hp → Prop, (∀ H', Nx H' → ∃ m', m' < m ∧ W (i + 1) m' H') ∧ ∀ x H', J.yld i H x H' → g x (wipe σ vs) H' fun σ2 H2 => wipe σ2 vs = wipe σ vs ∧ tt σ2 H2 fun b H3 =>
        if b = true then te σ2 H3 fun y H4 => ∃ acc, H4 D = some (.lst acc) ∧ acc.length < sizeLine ∧ Nx (upd H4 D (.lst (acc ++ [y]))) else Nx H3) := by
  refine ⟨fun i m H => m = xs.length - i ∧ i ≤ xs.length ∧ Same H1 H ∧ H D = some (.lst ((List.replicate i true).map V.bl)), ⟨xs.length, by simp, Nat.zero_le _, same_upd hD, upd_same⟩, ?_⟩
  rintro i m H ⟨rfl, hi, s1, eD⟩
  by_cases hlt : i < xs.length
  · refine .inr ⟨go i H s1 hlt, fun H' => Same H1 H' ∧ H' D = some (.lst ((List.replicate (i + 1) true).map V.bl)), fun H' p => ⟨xs.length - (i + 1), by omega, rfl, hlt, p⟩, fun v H' hy => ?_⟩
    obtain ⟨T, x, y, rfl, nT, rfl, hx, hy⟩ := yl i H v H' s1 hy
    have sT : Same H (upd H T (.tup [x, y])) := same_upd nT
    refine hs i x y T _ _ _ hx hy (s1.trans sT) upd_same (fun H4 s4 => ⟨_, s4 _ _ (sT _ _ eD), ?_, ?_, ?_⟩)
    · rw [List.length_map, List.length_replicate]
      exact small1000 (by omega)
    · intro b o e
      rw [upd_ne (ne_of_none e hD)]
      exact s4 _ _ (sT _ _ (s1 _ _ e))
    · rw [upd_same, List.replicate_succ', List.map_append]
      rfl
  · have e : i = xs.length := by omega
    subst e
    exact .inl ⟨st H s1, hd H s1 eD⟩
/-! ### a def that is entered where nothing is being shown: repr is known there -/
structure FnG (P : Program) (w : World) (K : PySem.W.Frag) (mg : Str → Option Value) (base : Heap) (k : Nat) (f : Addr) (fd : FuncData) (ps : List Str) (sp : Sp) : Prop where
  len : ∀ vs H Q E, sp vs H Q E → vs.length = ps.length
  run : ∀ (A : Around) (outer : List Env) (s : Shared) (H : Hp) (args : Args) (us : List Value) (vs : List V) (Q : VK) (E : XK), A.guards = some [] → Room k A → Env0 P w K mg base A outer s H → BindsTo s fd args (ps.zip us) →
    Vals vs us → sp vs H Q E → codeAny (model P w) A (.call (.ref f) args) (CR CX0 outer P w H s Q E) s
/-! ### a call goes by the def's body, in whatever context the body is read -/
/-- the def st stands at f, its code object is cdv -/
structure DefAt (K : PySem.W.Frag) (x qual : Str) (st : Stmt) (f : Addr) (fd : FuncData) (cdv : Value) : Prop where
  isFn : ∃ (kV doc pm : Value) (an : Option Addr) (ct : Value), fd = PySem.W.fnOf x qual (defArgs st) (defBody st) (defScope st) .none kV doc pm an cdv ct
  there : ∃ (oc : Value) (od : Option Addr) (osl : Array (Option Value)), K.lookup f = some ⟨oc, od, .func fd, osl⟩
  coded : PySem.W.codeIn K cdv qual = true
/-- what a call's value is, told by how the body ends -/
def given : Flow → Value
  | .ret u => u
  | _ => .none
/-- the state in which a body begins whose parameters ps hold us -/
abbrev Begun (qual : Str) (st : Stmt) (f : Addr) (cdv : Value) (ps : List Str) (us : List Value) (s s1 : Shared) : Prop :=
  InCallC s s.heap.objs.size (bindL (envOfC qual (defScope st) s.heap.objs.size f cdv).kindOf (ps.zip us) fun _ => none) (cellsFrom (s.heap.objs.size + 1) (defScope st).names [])
    (bindC (envOfC qual (defScope st) s.heap.objs.size f cdv).kindOf (ps.zip us) fun _ => none) s1
theorem given_by {X : Cx} {Q : VK} {fl : Flow} {s' : Shared} (none : X.ex = []) (h : SP X [] { nx := fun _ H' => Q .non H', rt := Q } fl s') : CE X.outer X.prog X.w X.H_0 X.s_0 Q (given fl) s' := by
  have told : ∀ {σ : L2.St} {H' : Hp} {v : V}, Inv X [] σ H' s' → RelV v (given fl) → Q v H' → CE X.outer X.prog X.w X.H_0 X.s_0 Q (given fl) s' := fun J rv q => ⟨_, _, J.os, J.bare, none ▸ J.base, J.hok, rv, q⟩
  match fl, h with
  | .ret _, ⟨_, _, _, J, rv, q⟩ => exact told J rv q
  | .next, ⟨_, _, J, q⟩ => exact told (v := .non) J rfl q
  | .brk, ⟨_, _, _, q⟩ | .cont, ⟨_, _, _, q⟩ => exact q.elim
section
variable {P : Program} {w : World} {K : PySem.W.Frag} {mg : Str → Option Value} {base : Heap}
theorem defAt_of {x qual : Str} {st : Stmt} {f : Addr} {fd : FuncData} (F : Fun K x qual st f fd) : ∃ cdv, DefAt K x qual st f fd cdv :=
  let ⟨oc, od, kV, doc, pm, an, cdv, ct, osl, e, l, c⟩ := F.ex
  ⟨cdv, ⟨kV, doc, pm, an, ct, e⟩, ⟨oc, od, osl, l⟩, c⟩
theorem DefAt.call {x qual : Str} {st : Stmt} {f : Addr} {fd : FuncData} {cdv : Value} {N ps : List Str} {A : Around} {outer : List Env} {s : Shared} {H : Hp} {args : Args} {us : List Value} {R : Result → Shared → Prop} (D : DefAt K x qual st f fd cdv) (S : FnScope N ps (defScope st))
    (room : A.depth < recursionLimit) (e0 : Env0 P w K mg base A outer s H) (hb : BindsTo s fd args (ps.zip us))
    (body : ∀ s1, Begun qual st f cdv ps us s s1 → wpAny (model P w) (A.deeper (envOfC qual (defScope st) s.heap.objs.size f cdv)) (execs (defBody st) (envOfC qual (defScope st) s.heap.objs.size f cdv)) (fun fl s' => R (.ok (.ret (given fl))) s')
      (fun e s' => wpAny (model P w) (A.deeper (envOfC qual (defScope st) s.heap.objs.size f cdv)) (leaving (envOfC qual (defScope st) s.heap.objs.size f cdv) e) (fun _ z => R (.error e) z) (fun e' z => R (.error e') z) s') s1) :
    codeAny (model P w) A (.call (.ref f) args) R s := by
  obtain ⟨⟨kV, doc, pm, an, ct, rfl⟩, ⟨oc, od, osl, there⟩, coded⟩ := D
  have stands : ∀ b o, base.get? b = some o → s.heap.get? b = some o := fun b o z => (e0.bs b o z).1
  have kin := e0.mod.kin.keeps stands
  apply codeAny_call_function room (kin f _ there) rfl S.co S.gen rfl (PySem.W.codeRec_of kin coded)
  apply hb
  apply wpAny_newFunctionEnv_cells S.kind
  · exact fun y hy => (S.par y.1 (List.of_mem_zip hy).1).imp id fun c => ⟨c, PySem.W.cellsFrom_some _ _ _ (.inl c)⟩
  · rintro _ rfl s1 begun
    exact ⟨(e0.mod.nolimit.keeps stands).keeps begun.toInCall.keep, codeAny_func (wpAny_mono (body s1 begun) (fun fl _ h => by cases fl <;> exact h) fun _ _ h => h)⟩
theorem fun_okG {x qual : Str} {st : Stmt} {f : Addr} {fd : FuncData} {N ps : List Str} {k : Nat} {sp : Sp} (F : Fun K x qual st f fd) (S : FnScope N ps (defScope st)) (ln : ∀ vs H Q E, sp vs H Q E → vs.length = ps.length)
    (hbody : ∀ (cdv : Value) (A : Around) (outer : List Env) (s : Shared) (H : Hp) (vs : List V) (Q : VK) (E : XK), A.guards = some [] → Room k (A.deeper (envOfC qual (defScope st) s.heap.objs.size f cdv)) → sp vs H Q E →
      ∃ t, PSs (cxOf CX0 P w K mg base N qual (defScope st) f cdv A outer s H E).nox (defBody st) t ∧ t { nx := fun _ H' => Q .non H', rt := Q } (L2.start N vs) H) : FnG P w K mg base (k + 1) f fd ps sp := by
  obtain ⟨cdv, D⟩ := defAt_of F
  refine ⟨ln, fun A outer s H args us vs Q E hgu hr e0 hb r hsp => D.call S hr.depth e0 hb fun s1 begun => ?_⟩
  obtain ⟨t, ht, hq⟩ := hbody cdv A outer s H vs Q E hgu (hr.deeper _) hsp
  exact thn (ht.nox.run [] s1 _ H _ (inv_start S hr.hd e0 (ln _ _ _ _ hsp) r begun) hq) fun _ _ h => given_by rfl h
/-- the law's call from such a promise -/
theorem law_callG {mb : Str → Option Value} {k : Nat} {fa a : Addr} {fd : FuncData} {x : Str} {sp : Sp} {s₁ : Shared} {vs : List Value} {ns : List Int}
    (KX : K.In s₁.heap) (hns : s₁.heap.Ns mainGlobals mg) (hb : s₁.heap.Ns builtinsNs mb) (hbb : ∀ x : Str, x ≠ "__name__" → mb x = bootBuiltins x) (hlim : s₁.heap.NoLimit)
    (hge : s₁.gens = #[]) (ha : s₁.heap.get? a = some { cls := .type "list", data := .seq vs.toArray }) (hi : IntsAre vs ns) (hl : ns.length ≤ sizeLine) (hr : Room k callerA)
    (F : ∀ base : Heap, K.In base → base.Ns mainGlobals mg → FnG P w K mg base k fa fd [x] sp)
    (hbind : ∀ (s : Shared) (u : Value), BindsTo s fd ⟨[u], []⟩ [(x, u)])
    (hsp : ∀ H : Hp, SqL K H a (ns.map V.int) → sp [.ref a] H (fun v _ => v = .bl true) fun _ _ _ => False) :
    codeAny (model P w) callerA (.call (.ref fa) ⟨[.ref a], []⟩)
      (fun r s' => r = .ok (.ret (.bool true)) ∧ OldK s₁.heap s'.heap ∧ s'.os = s₁.os ∧ AllBare s'.gens) s₁ := by
  have rv := vals_ints hi
  have lv := hi.length
  obtain ⟨H, hH⟩ : ∃ H : Hp, ∀ b, H b = if b = a ∧ K.lookup a = none then some (.frz { cls := .type "list", data := .seq vs.toArray } (.lst (ns.map V.int))) else none := ⟨fun b => _, fun _ => rfl⟩
  have some_of : ∀ {b u}, H b = some u → b = a ∧ K.lookup a = none ∧ u = .frz { cls := .type "list", data := .seq vs.toArray } (.lst (ns.map V.int)) := by
    intro b u e
    rw [hH b] at e
    by_cases c : b = a ∧ K.lookup a = none
    · rw [if_pos c] at e
      exact ⟨c.1, c.2, (Option.some.inj e).symm⟩
    · rw [if_neg c] at e
      cases e
  have none_of : ∀ {b o} {es : Array DictEntry} {ep : Nat}, s₁.heap.get? b = some o → o.data = .dict es ep → H b = none := by
    intro b o es ep e d
    cases c : H b with
    | none => rfl
    | some u =>
      obtain ⟨rfl, _, _⟩ := some_of c
      rw [ha] at e
      cases e
      cases d
  have hS : SqL K H a (ns.map V.int) := by
    cases hk : K.lookup a with
    | none => exact .inl (.inr ⟨_, by rw [hH a, if_pos ⟨rfl, hk⟩]⟩)
    | some o =>
      have e := KX a o hk
      rw [ha] at e
      cases e
      refine .inr ⟨_, vs.toArray, _, hk, rfl, rfl, rfl, ?_, by simpa using rv⟩
      rw [List.size_toArray, lv]
      exact hl
  have hok : HOk P w H s₁.heap := by
    intro b u e
    obtain ⟨rfl, _, rfl⟩ := some_of e
    refine ⟨ha, ?_, vs, _, rv, ha⟩
    rw [List.length_map]
    exact hl
  have nsB : ∀ {b : Addr} {m : Str → Option Value}, s₁.heap.Ns b m → (hidT s₁.heap H).Ns b m := by
    rintro b m ⟨o, es, ep, e, d, r⟩
    exact ⟨o, es, ep, hidT_get e (none_of e d), d, r⟩
  have kB : K.In (hidT s₁.heap H) := by
    intro b o e
    refine hidT_get (KX b o e) ?_
    cases c : H b with
    | none => rfl
    | some u =>
      obtain ⟨rfl, k0, _⟩ := some_of c
      rw [k0] at e
      cases e
  have md : Mod K mg (hidT s₁.heap H) := by
    obtain ⟨mc, h1, h2⟩ := hlim
    exact ⟨kB, nsB hns, ⟨mb, nsB hb, hbb⟩, ⟨mc, nsB h1, h2⟩⟩
  have e0 : Env0 P w K mg (hidT s₁.heap H) callerA [] s₁ H := by
    refine ⟨rfl, md, fun b o e => of_hidT e, Nat.le_of_eq (hidT_size _ _), trivial, ?_, hok, .of_eq hge⟩
    intro b hb
    exact absurd (show b ∈ ([] : List Addr) from hb) (by simp)
  have go := (F _ kB (nsB hns)).run callerA [] s₁ H ⟨[.ref a], []⟩ [.ref a] [.ref a] _ _ rfl hr e0
    (hbind s₁ (.ref a)) (.cons rfl .nil) (hsp H hS)
  refine codeAny_mono go fun r s' h => ?_
  cases r with
  | error e => exact h.elim
  | ok fl =>
    cases fl with
    | ret u =>
      obtain ⟨v, H', os, bare, un, hok', r', qv⟩ := h
      have qv' : v = .bl true := qv
      subst qv'
      obtain rfl : u = Value.bool true := r'
      refine ⟨rfl, OldK.of_keep fun b o e => ?_, os, bare⟩
      cases c : H b with
      | none =>
        refine un.keep b o e c ?_ (by simp)
        intro z
        exact absurd (show b ∈ ([] : List Addr) from z) (by simp)
      | some u =>
        obtain ⟨_, _, rfl⟩ := some_of c
        have c2 := un.frzs b _ _ c
        obtain ⟨e1, _⟩ := hok b _ c
        obtain ⟨e2, _⟩ := hok' b _ c2
        rw [e] at e1
        cases e1
        exact e2
    | next => exact False.elim h
    | brk => exact False.elim h
    | cont => exact False.elim h
end
theorem walk_ofG {l : PySem.W.OpenLaw} {n k : Nat} {q : Program} {loose : List Str} {XP : (Str → Option Value) → Heap → Prop} {YP : World → Heap → Prop} {d : DefRec} {K : Params → PySem.W.Frag} {sp : World → Sp} {x : Str}
    (hn : l.most = some n) (hn2 : n ≤ sizeLine) (hdf : d.params.defaults = []) (hr : Room k callerA) (hY : ∀ (w : World) (h : Heap), YP w h → (K w.params).In h)
    (F : ∀ (w : World) (mg : Str → Option Value) (fa : Addr) (h : Heap), (K w.params).In h → h.Ns mainGlobals mg → mg d.name = some (.ref fa) →
      ∃ fd : FuncData, (∀ (s : Shared) (u : Value), BindsTo s fd ⟨[u], []⟩ [(x, u)]) ∧
        ∀ base : Heap, (K w.params).In base → base.Ns mainGlobals mg → FnG l.prog w (K w.params) mg base k fa fd [x] (sp w))
    (hsp : ∀ (w : World) (H : Hp) (a : Addr) (ns : List Int), ns.length ≤ n → SqL (K w.params) H a (ns.map V.int) → sp w [.ref a] H (fun v _ => v = .bl true) fun _ _ _ => False) :
    PySem.W.WalkO q loose XP YP l.row.toRowW d [] (fun f vs => PySem.call f vs) := by
  refine Att.attach_call hn hdf fun w s₀ s₁ mg mb fa o pm cd doc a vs ns G Y _ _ _ hmg hobj hints hlen hge => ?_
  have KX := hY w _ Y
  obtain ⟨fd, hb, hF⟩ := F w mg fa _ KX G.T.g hmg
  exact law_callG KX G.T.g G.T.b G.T.builtins G.T.nolimit hge hobj hints (Nat.le_trans hlen hn2) hr hF hb
    (fun H hS => hsp w H a ns hlen hS)
/-! ### repr of data -/
def rRepr (K : PySem.W.Frag) : List V → Hp → VK → Prop := fun xs H Q => ∃ (a : Addr) (d : PyData) (S : Str), xs = [.ref a] ∧ Dp K H (.ref a) d ∧ d.showable = true ∧ d.hasDict = false ∧ d.depth ≤ 30 ∧ d.shown.length ≤ sizeLine ∧ d.shown = S ∧ Q (.str S) H
theorem call_repr {X : Cx} (hg : X.A.guards = some []) (hu : X.A.units + 64 < cLine) : CallR X (.builtin "repr") (rRepr X.K) := by
  intro pins s σ H xs us Q I r h
  obtain ⟨a, d, S, rfl, hd, hs, hnd, hdep, hsz, hS, q⟩ := h
  subst hS
  obtain ⟨u, rfl, rx⟩ := vals1 r
  cases (show u = Value.ref a from rx)
  obtain ⟨as, rd⟩ := Dp.reads I d _ _ hd rfl
  refine repr_of_reads' rd hs (fun z => by rw [hnd] at z; cases z) hg (by omega) (fun _ _ e => e) (fun h' u tk hk => ?_) hsz
  exact ⟨.str d.shown, H, I.kept hk, ⟨_, rfl⟩, q⟩
/-! ### data that can be shown -/
structure RO (k w : Nat) (d : PyData) : Prop where
  sh : d.showable = true
  nd : d.hasDict = false
  dp : d.depth ≤ k
  lv : d.leavesShort 13 = true
  wt : d.weight ≤ w
theorem RO.none {w : Nat} : RO 0 w .none := ⟨rfl, rfl, Nat.le_refl _, rfl, Nat.zero_le _⟩
theorem RO.bool {w : Nat} (b : Bool) : RO 0 w (.bool b) := ⟨rfl, rfl, Nat.le_refl _, rfl, Nat.zero_le _⟩
theorem RO.int {i : Int} (h1 : -999999999999 ≤ i) (h2 : i ≤ 999999999999) : RO 0 41 (.int i) := by
  have hl : i.natAbs.log2 < 41 := by
    rcases Nat.eq_zero_or_pos i.natAbs with e | e
    · rw [e]
      decide
    · exact (Nat.log2_lt (by omega)).mpr (Nat.lt_of_le_of_lt (show i.natAbs ≤ 999999999999 by omega) (by decide))
  refine ⟨decide_eq_true (by omega), rfl, Nat.le_refl _, decide_eq_true (PyData.shown_int_le2 h1 h2), ?_⟩
  show (if i == 0 then 0 else i.natAbs.log2 + 1) ≤ 41
  split <;> omega
theorem RO.more {k w k' w' : Nat} {d : PyData} (h : RO k w d) (h1 : k ≤ k') (h2 : w ≤ w') : RO k' w' d := ⟨h.sh, h.nd, Nat.le_trans h.dp h1, h.lv, Nat.le_trans h.wt h2⟩
theorem ro_all {k w : Nat} : ∀ {ds : List PyData}, (∀ e ∈ ds, RO k w e) → PyData.showableAll ds = true ∧ PyData.hasDictAll ds = false ∧ PyData.depthAll ds ≤ k ∧ PyData.leavesShortAll 13 ds = true ∧ PyData.weightAll ds ≤ ds.length * (w + 1)
  | [], _ => ⟨rfl, rfl, Nat.zero_le _, rfl, Nat.zero_le _⟩
  | d :: t, h => by
    obtain ⟨a, b, c, e, f⟩ := ro_all (ds := t) fun x hx => h x (List.mem_cons_of_mem _ hx)
    have h1 := h d (List.mem_cons_self ..)
    refine ⟨?_, ?_, ?_, ?_, ?_⟩
    · show (d.showable && PyData.showableAll t) = true
      rw [h1.sh, a]
      rfl
    · show (d.hasDict || PyData.hasDictAll t) = false
      rw [h1.nd, b]
      rfl
    · show max d.depth (PyData.depthAll t) ≤ k
      exact Nat.max_le.mpr ⟨h1.dp, c⟩
    · show (d.leavesShort 13 && PyData.leavesShortAll 13 t) = true
      rw [h1.lv, e]
      rfl
    · show d.weight + 1 + PyData.weightAll t ≤ (t.length + 1) * (w + 1)
      have := h1.wt
      rw [Nat.add_mul, Nat.one_mul]
      omega
theorem RO.tup {k w n : Nat} {ds : List PyData} (h : ∀ e ∈ ds, RO k w e) (hn : ds.length * (w + 1) ≤ n) : RO (k + 1) n (.tuple ds) := by
  obtain ⟨a, b, c, e, f⟩ := ro_all h
  exact ⟨a, b, Nat.succ_le_succ c, e, Nat.le_trans f hn⟩
theorem RO.lst {k w n : Nat} {ds : List PyData} (h : ∀ e ∈ ds, RO k w e) (hn : ds.length * (w + 1) ≤ n) : RO (k + 1) n (.list ds) := by
  obtain ⟨a, b, c, e, f⟩ := ro_all h
  exact ⟨a, b, Nat.succ_le_succ c, e, Nat.le_trans f hn⟩
theorem RO.fits {k w : Nat} {d : PyData} (h : RO k w d) (hw : w ≤ 1000000) : d.shown.length ≤ sizeLine := by
  have := PyData.shown_le 13 (by decide) d h.lv
  have := h.wt
  have e : sizeLine = 16777216 := by decide
  omega
/-! ### windows and places as data -/
theorem dpAll_of {K : PySem.W.Frag} {H : Hp} {β : Type} {R : V → β → Prop} {f : β → PyData} (h : ∀ v m, R v m → Dp K H v (f m)) : ∀ {vs : List V} {ms : List β}, Paired R vs ms → DpAll K H vs (ms.map f)
  | _, _, .nil => .nil
  | _, _, .cons r t => .cons (h _ _ r) (dpAll_of h t)
def rwD (r : RW) : PyData := .tuple [.int r.1, .int r.2]
def plD (p : RW × RW) : PyData := .tuple [rwD p.1, rwD p.2]
def mvD (m : MV) : PyData := .tuple [.int m.1, .int m.2.1, .int m.2.2]
def winD (x y : Int) (ms : List MV) : PyData := .tuple [.int x, .int y, .tuple (ms.map mvD)]
theorem RowAt.dp {K : PySem.W.Frag} {H : Hp} {v : V} {r : RW} : RowAt K H v r → Dp K H v (rwD r) := by
  rintro ⟨p, rfl, h⟩
  exact .tup h (.cons (.int _) (.cons (.int _) .nil))
theorem PlAt.dp {K : PySem.W.Frag} {H : Hp} {v : V} {p : RW × RW} : PlAt K H v p → Dp K H v (plD p) := by
  rintro ⟨a, v1, v2, rfl, h, r1, r2⟩
  exact .tup h (.cons r1.dp (.cons r2.dp .nil))
theorem MoveAt.dp {K : PySem.W.Frag} {H : Hp} {v : V} {m : MV} : MoveAt K H v m → Dp K H v (mvD m) := by
  rintro ⟨p, rfl, h⟩
  exact .tup h (.cons (.int _) (.cons (.int _) (.cons (.int _) .nil)))
theorem WinAt.dp {K : PySem.W.Frag} {H : Hp} {v : V} {x y : Int} {ms : List MV} : WinAt K H v x y ms → Dp K H v (winD x y ms) := by
  rintro ⟨p, mv, rfl, h, pm, vs, rfl, hq, pd⟩
  exact .tup h (.cons (.int _) (.cons (.int _) (.cons (.tup hq (dpAll_of (f := mvD) (fun _ _ h => MoveAt.dp h) pd)) .nil)))
theorem mem3 {α : Type} {a b c e : α} (h : e ∈ [a, b, c]) : e = a ∨ e = b ∨ e = c := by
  simpa using h
theorem mvD_ro {m : MV} (h : VMove m) : RO 1 126 (mvD m) := by
  obtain ⟨h1, h2, h3, h4⟩ := h
  refine RO.tup (k := 0) (w := 41) (fun e he => ?_) (by show 3 * 42 ≤ 126; decide)
  rcases mem3 he with rfl | rfl | rfl <;> exact RO.int (by omega) (by omega)
theorem winD_ro {x y : Int} {ms : List MV} (h : VWin x y ms) : RO 3 3051 (winD x y ms) := by
  obtain ⟨h1, h2, h3, h4⟩ := h
  refine RO.tup (k := 2) (w := 1016) (fun e he => ?_) (by show 3 * 1017 ≤ 3051; decide)
  rcases mem3 he with rfl | rfl | rfl
  · exact (RO.int (by omega) (by omega)).more (by omega) (by omega)
  · exact (RO.int (by omega) (by omega)).more (by omega) (by omega)
  · refine RO.tup (k := 1) (w := 126) (fun e he => ?_) ?_
    · obtain ⟨m, hm, rfl⟩ := List.mem_map.mp he
      exact mvD_ro (h4 m hm)
    · rw [List.length_map]
      omega
theorem ro_args {k w : Nat} {d : PyData} (h : RO k w d) (hk : k ≤ 30) (hw : w ≤ 1000000) : d.showable = true ∧ d.hasDict = false ∧ d.depth ≤ 30 ∧ d.shown.length ≤ sizeLine := ⟨h.sh, h.nd, Nat.le_trans h.dp hk, h.fits hw⟩
theorem fl_int (i : Int) : flD (.int i) := .inr (.inr ⟨i, rfl⟩)
theorem dOk_rw (r : RW) : dOk 1 (rwD r) := by
  refine .inr ⟨_, .inr rfl, (by show 2 ≤ 1000; decide), fun e he => ?_⟩
  rcases List.mem_cons.mp he with rfl | he
  · exact fl_int _
  · rw [List.mem_singleton.mp he]
    exact fl_int _
theorem dOk_pl (p : RW × RW) : dOk 2 (plD p) := by
  refine .inr ⟨_, .inr rfl, (by show 2 ≤ 1000; decide), fun e he => ?_⟩
  rcases List.mem_cons.mp he with rfl | he
  · exact dOk_rw _
  · rw [List.mem_singleton.mp he]
    exact dOk_rw _
/-! ### layers, sheets, pictures as data -/
def bkD : Option Int → PyData
  | none => .none
  | some i => .int i
def lyD (l : LY) : PyData := .tuple [.tuple (l.1.map rwD), bkD l.2]
def shD (ls : List LY) (x y : Int) (ms : List MV) : PyData := .tuple [.tuple (ls.map lyD), winD x y ms]
def picD (c : PIC) : PyData := .tuple [.tuple (c.1.map .int), plD c.2]
theorem bkD_dp {K : PySem.W.Frag} {H : Hp} (o : Option Int) : Dp K H (bkV o) (bkD o) := by
  cases o with
  | none => exact .non
  | some i => exact .int i
theorem LyAt.dp {K : PySem.W.Frag} {H : Hp} {v : V} {l : LY} : LyAt K H v l → Dp K H v (lyD l) := by
  rintro ⟨p, rv, rfl, h, pr, vs, rfl, hq, pd⟩
  exact .tup h (.cons (.tup hq (dpAll_of (f := rwD) (fun _ _ h => RowAt.dp h) pd)) (.cons (bkD_dp _) .nil))
theorem ShAt.dp {K : PySem.W.Frag} {H : Hp} {v : V} {ls : List LY} {x y : Int} {ms : List MV} : ShAt K H v ls x y ms → Dp K H v (shD ls x y ms) := by
  rintro ⟨p, lv, wv, rfl, h, ⟨pl, vs, rfl, hq, pd⟩, hw⟩
  exact .tup h (.cons (.tup hq (dpAll_of (f := lyD) (fun _ _ h => LyAt.dp h) pd)) (.cons hw.dp .nil))
theorem ints_dp {K : PySem.W.Frag} {H : Hp} : ∀ ns : List Int, DpAll K H (ns.map V.int) (ns.map .int)
  | [] => .nil
  | n :: r => .cons (.int n) (ints_dp r)
theorem PicAt.dp {K : PySem.W.Frag} {H : Hp} {v : V} {c : PIC} : PicAt K H v c → Dp K H v (picD c) := by
  rintro ⟨a, b, v2, rfl, h, h1, h2⟩
  exact .tup h (.cons (.tup h1 (ints_dp _)) (.cons h2.dp .nil))
theorem mem2 {α : Type} {a b e : α} (h : e ∈ [a, b]) : e = a ∨ e = b := by
  simpa using h
theorem rwD_ro {r : RW} (h : VRow r) : RO 1 84 (rwD r) := by
  obtain ⟨h1, h2, h3, h4⟩ := h
  refine RO.tup (k := 0) (w := 41) (fun e he => ?_) (by show 2 * 42 ≤ 84; decide)
  rcases mem2 he with rfl | rfl <;> exact RO.int (by omega) (by omega)
theorem lyD_ro {l : LY} (h : VLy l) : RO 3 1362 (lyD l) := by
  obtain ⟨⟨h8, hr⟩, hb⟩ := h
  refine RO.tup (k := 2) (w := 680) (fun e he => ?_) (by show 2 * 681 ≤ 1362; decide)
  rcases mem2 he with rfl | rfl
  · refine RO.tup (k := 1) (w := 84) (fun e he => ?_) ?_
    · obtain ⟨r, hm, rfl⟩ := List.mem_map.mp he
      exact rwD_ro (hr r hm)
    · rw [List.length_map]
      omega
  · cases e : l.2 with
    | none => exact RO.none.more (by omega) (Nat.le_refl _)
    | some i =>
      have := hb i e
      exact (RO.int (by omega) (by omega)).more (by omega) (by omega)
theorem shD_ro {ls : List LY} {x y : Int} {ms : List MV} (h : VLays ls) (hw : VWin x y ms) : RO 5 10906 (shD ls x y ms) := by
  obtain ⟨h1, h4, hl⟩ := h
  refine RO.tup (k := 4) (w := 5452) (fun e he => ?_) (by show 2 * 5453 ≤ 10906; decide)
  rcases mem2 he with rfl | rfl
  · refine RO.tup (k := 3) (w := 1362) (fun e he => ?_) ?_
    · obtain ⟨l, hm, rfl⟩ := List.mem_map.mp he
      exact lyD_ro (hl l hm)
    · rw [List.length_map]
      omega
  · exact (winD_ro hw).more (by omega) (by omega)
theorem dOk_up : ∀ {n : Nat} {d : PyData}, dOk n d → dOk (n + 1) d
  | 0, _, h => .inl h
  | n + 1, _, .inl h => .inl h
  | n + 1, _, .inr ⟨ds, h1, h2, h3⟩ => .inr ⟨ds, h1, h2, fun e he => dOk_up (h3 e he)⟩
theorem dOk_pic {c : PIC} (h : c.1.length ≤ 1000) : dOk 3 (picD c) := by
  refine .inr ⟨_, .inr rfl, (by show 2 ≤ 1000; decide), fun e he => ?_⟩
  rcases mem2 he with rfl | rfl
  · refine dOk_up (n := 1) (.inr ⟨_, .inr rfl, by rw [List.length_map]; exact h, fun e he => ?_⟩)
    obtain ⟨i, _, rfl⟩ := List.mem_map.mp he
    exact fl_int i
  · exact dOk_pl _
theorem dOk_pics {cs : List PIC} (h : cs.length ≤ 1000) (hc : ∀ c ∈ cs, c.1.length ≤ 1000) : dOk 4 (.list (cs.map picD)) := by
  refine .inr ⟨_, .inl rfl, by rw [List.length_map]; exact h, fun e he => ?_⟩
  obtain ⟨c, hm, rfl⟩ := List.mem_map.mp he
  exact dOk_pic (hc c hm)
theorem lcmap_list {K : PySem.W.Frag} {a : Addr} {xs : List V} {g : TG} {tt : TT} {te : TE} {vs : List Nat} {σ : L2.St} {H1 : Hp} {D : Addr} {Qd : Hp → Prop} (ys : List V) (hl : ys.length = xs.length) (hz : xs.length ≤ 1000) (hS : SqL K H1 a xs) (hD : H1 D = none)
    (hs : ∀ (i : Nat) (x y : V) (H : Hp) (R : V → Hp → Prop) (Z : Hp → Prop), xs[i]? = some x → ys[i]? = some y → Same H1 H → (∀ H4, Same H H4 → R y H4) → g x (wipe σ vs) H fun σ2 H2 => wipe σ2 vs = wipe σ vs ∧ tt σ2 H2 fun b H3 => if b = true then te σ2 H3 R else Z H3)
    (hd : ∀ H, Same H1 H → H D = some (.lst ys) → Qd H) :
    ∃ W : Nat → Nat → Hp → Prop, (∃ m, W 0 m (upd H1 D (.lst []))) ∧ ∀ i m H, W i m H →
      ((Itl K a).stop i H ∧ Qd H) ∨ ((Itl K a).go i H ∧ ∃ Nx : Hp → Prop, (∀ H', Nx H' → ∃ m', m' < m ∧ W (i + 1) m' H') ∧ ∀ x H', (Itl K a).yld i H x H' → g x (wipe σ vs) H' fun σ2 H2 => wipe σ2 vs = wipe σ vs ∧ tt σ2 H2 fun b H3 =>
        if b = true then te σ2 H3 fun y H4 => ∃ acc, H4 D = some (.lst acc) ∧ acc.length < sizeLine ∧ Nx (upd H4 D (.lst (acc ++ [y]))) else Nx H3) := by
  refine lc_list (K := K) (a := a) (xs := xs) (fun i H => Same H1 H ∧ H D = some (.lst (ys.take i))) ⟨same_upd hD, upd_same⟩ (fun i H _ p => p.1.seq hS) (fun i x H hx p => ?_) (fun H p => ?_)
  · have hi : i < xs.length := (List.getElem?_eq_some_iff.mp hx).1
    obtain ⟨y, hy⟩ : ∃ y, ys[i]? = some y := ⟨_, List.getElem?_eq_getElem (by omega)⟩
    refine hs i x y H _ _ hx hy p.1 (fun H4 s4 => ⟨ys.take i, s4 _ _ p.2, ?_, ?_, ?_⟩)
    · rw [List.length_take]
      exact Nat.lt_of_le_of_lt (Nat.min_le_left _ _) (small1000 (by omega))
    · intro b o e
      rw [upd_ne (ne_of_none e hD)]
      exact s4 _ _ (p.1 _ _ e)
    · rw [upd_same, List.take_add_one, hy]
      rfl
  · refine hd H p.1 ?_
    rw [p.2, List.take_of_length_le (by omega)]
/-! ### laying -/
def rnd (rs : List RW) : Option Int → Int
  | none => 0
  | some b => tot (rs.drop b.toNat)
def lays (rs : List RW) (bk : Option Int) (n : Nat) : List V := (List.range n).map fun i => V.int (shown rs bk (i : Nat))
theorem lays_at {rs : List RW} {bk : Option Int} {n i : Nat} (h : i < n) : (lays rs bk n)[i]? = some (.int (shown rs bk (i : Nat))) := by
  unfold lays
  rw [List.getElem?_map, List.getElem?_range h]
  rfl
theorem lays_len (rs : List RW) (bk : Option Int) (n : Nat) : (lays rs bk n).length = n := by
  unfold lays
  rw [List.length_map, List.length_range]
theorem lays_of {rs : List RW} {bk : Option Int} {n : Nat} {fs : List Int} (hl : n ≤ fs.length) (h : ∀ i, i < fs.length → fs[i]? = some (shown rs bk (i : Nat))) : (fs.map V.int).take n = lays rs bk n := by
  apply List.ext_getElem?
  intro i
  by_cases hi : i < n
  · rw [lays_at hi, List.getElem?_take_of_lt hi, List.getElem?_map, h i (by omega)]
    rfl
  · rw [List.getElem?_eq_none (by rw [List.length_take]; omega), List.getElem?_eq_none (by rw [lays_len]; omega)]
/-! ### laid out, row by row -/
/-- a walk over J: Body tells what is asked of a turn, Qd what is asked at the end -/
abbrev Goes (J : It) (Body : V → Hp → (Hp → Prop) → Prop) (Hs : Hp) (Qd : Hp → Prop) : Prop :=
  ∃ W : Nat → Nat → Hp → Prop, (∃ m, W 0 m Hs) ∧ ∀ i m H, W i m H →
    (J.stop i H ∧ Qd H) ∨ (J.go i H ∧ ∃ Nx : Hp → Prop, (∀ H', Nx H' → ∃ m', m' < m ∧ W (i + 1) m' H') ∧ ∀ x H', J.yld i H x H' → Body x H' Nx)
/-- n turns: Pv i stands when i of them are done -/
theorem goes_by {J : It} {n : Nat} {Body : V → Hp → (Hp → Prop) → Prop} {Hs : Hp} {Qd : Hp → Prop} (Pv : Nat → Hp → Prop) (h0 : Pv 0 Hs) (last : ∀ H, Pv n H → J.stop n H ∧ Qd H)
    (turn : ∀ i H, i < n → Pv i H → J.go i H ∧ ∀ x H', J.yld i H x H' → Body x H' (Pv (i + 1))) : Goes J Body Hs Qd := by
  refine ⟨fun done left H => done + left = n ∧ Pv done H, ⟨n, Nat.zero_add n, h0⟩, fun i left H here => ?_⟩
  cases left with
  | zero =>
    obtain ⟨rfl, p⟩ := here
    exact .inl (last H p)
  | succ less =>
    have now := turn i H (by have := here.1; omega) here.2
    exact .inr ⟨now.1, Pv (i + 1), fun H' p => ⟨less, Nat.lt_succ_self less, by have := here.1; omega, p⟩, now.2⟩
theorem wk_tup {K : PySem.W.Frag} {a : Addr} {xs : List V} {Body : V → Hp → (Hp → Prop) → Prop} {Hs : Hp} {Qd : Hp → Prop} (Pv : Nat → Hp → Prop) (h0 : Pv 0 Hs) (hl : ∀ i H, i ≤ xs.length → Pv i H → SqT K H a xs)
    (hs : ∀ i x H, xs[i]? = some x → Pv i H → Body x H (Pv (i + 1))) (hd : ∀ H, Pv xs.length H → Qd H) : Goes (Itt K a) Body Hs Qd :=
  goes_by (n := xs.length) Pv h0 (fun H p => ⟨⟨xs, hl _ H (Nat.le_refl _) p, Nat.le_refl _⟩, hd H p⟩) fun i H lt p =>
    have stays := hl i H (Nat.le_of_lt lt) p
    ⟨⟨xs, _, stays, List.getElem?_eq_getElem lt⟩, fun x _ y => y.1 ▸ hs i x H (y.2 xs stays) p⟩
theorem wk_list {K : PySem.W.Frag} {a : Addr} {xs : List V} {Body : V → Hp → (Hp → Prop) → Prop} {Hs : Hp} {Qd : Hp → Prop} (Pv : Nat → Hp → Prop) (h0 : Pv 0 Hs) (hl : ∀ i H, i ≤ xs.length → Pv i H → SqL K H a xs)
    (hs : ∀ i x H, xs[i]? = some x → Pv i H → Body x H (Pv (i + 1))) (hd : ∀ H, Pv xs.length H → Qd H) : Goes (Itl K a) Body Hs Qd :=
  goes_by (n := xs.length) Pv h0 (fun H p => ⟨⟨xs, hl _ H (Nat.le_refl _) p, Nat.le_refl _⟩, hd H p⟩) fun i H lt p =>
    have stays := hl i H (Nat.le_of_lt lt) p
    ⟨⟨xs, _, stays, List.getElem?_eq_getElem lt⟩, fun x _ y => y.1 ▸ hs i x H (y.2 xs stays) p⟩
theorem wk_range {lo : Int} {n : Nat} {Body : V → Hp → (Hp → Prop) → Prop} {Hs : Hp} {Qd : Hp → Prop} (Pv : Nat → Hp → Prop) (h0 : Pv 0 Hs)
    (hs : ∀ i H, i < n → Pv i H → Body (.int (lo + i)) H (Pv (i + 1))) (hd : ∀ H, Pv n H → Qd H) : Goes (Itr lo n) Body Hs Qd :=
  goes_by Pv h0 (fun H p => ⟨Nat.le_refl n, hd H p⟩) fun i H lt p => ⟨lt, fun _ _ y => y.1 ▸ y.2 ▸ hs i H lt p⟩
theorem yes_ok2 {σ : L2.St} {H : Hp} {X Z : Hp → Prop} (h : X H) : tYes σ H (fun b H3 => if b = true then X H3 else Z H3) := by
  show if true = true then X H else Z H
  rw [if_pos rfl]
  exact h
def dwg : List RW → List Int
  | [] => []
  | r :: t => List.replicate r.2.toNat r.1 ++ dwg t
theorem dwg_append (a b : List RW) : dwg (a ++ b) = dwg a ++ dwg b := by
  induction a with
  | nil => rfl
  | cons r t ih => rw [List.cons_append, dwg, dwg, ih, List.append_assoc]
theorem dwg_len : ∀ {rs : List RW}, (∀ r ∈ rs, VRow r) → ((dwg rs).length : Int) = tot rs
  | [], _ => rfl
  | r :: t, v => by
    have v1 := v r (List.mem_cons_self ..)
    have ih := dwg_len (rs := t) fun q hq => v q (List.mem_cons_of_mem _ hq)
    rw [dwg, List.length_append, List.length_replicate, tot_cons]
    obtain ⟨_, _, h3, _⟩ := v1
    omega
theorem dwg_at : ∀ {rs : List RW} {i : Nat}, (∀ r ∈ rs, VRow r) → (i : Int) < tot rs → (dwg rs)[i]? = some (walk rs i)
  | [], i, _, h => by
    rw [tot_nil] at h
    omega
  | r :: t, i, v, h => by
    have v1 := v r (List.mem_cons_self ..)
    have vt : ∀ q ∈ t, VRow q := fun q hq => v q (List.mem_cons_of_mem _ hq)
    obtain ⟨_, _, h3, _⟩ := v1
    rw [tot_cons] at h
    rw [dwg]
    unfold walk
    by_cases c : (i : Int) < r.2
    · rw [if_pos c, List.getElem?_append_left (by rw [List.length_replicate]; omega), List.getElem?_replicate, if_pos (by omega)]
    · rw [if_neg c, List.getElem?_append_right (by rw [List.length_replicate]; omega), List.length_replicate]
      have := dwg_at (rs := t) (i := i - r.2.toNat) vt (by omega)
      rw [this]
      congr 2
      omega
theorem walk_cons (r : RW) (t : List RW) (m : Int) : walk (r :: t) m = if m < r.2 then r.1 else walk t (m - r.2) := rfl
theorem walk_append : ∀ {a b : List RW} {m : Int}, (∀ r ∈ a, VRow r) → 0 ≤ m → walk (a ++ b) m = if m < tot a then walk a m else walk b (m - tot a)
  | [], b, m, _, h => by
    rw [tot_nil, if_neg (by omega), List.nil_append, show m - 0 = m by omega]
  | r :: t, b, m, v, h => by
    have v1 := v r (List.mem_cons_self ..)
    have vt : ∀ q ∈ t, VRow q := fun q hq => v q (List.mem_cons_of_mem _ hq)
    have t0 := (tot_nonneg vt).1
    obtain ⟨_, _, h3, _⟩ := v1
    rw [List.cons_append, tot_cons, walk_cons, walk_cons]
    by_cases c : m < r.2
    · rw [if_pos c, if_pos (by omega), if_pos c]
    · rw [if_neg c, walk_append vt (by omega), if_neg c]
      by_cases d : m < r.2 + tot t
      · rw [if_pos d, if_pos (by omega)]
      · rw [if_neg d, if_neg (by omega), show m - r.2 - tot t = m - (r.2 + tot t) by omega]
theorem rep_at {α : Type} {B : List α} (hB : 0 < B.length) : ∀ (t j : Nat), j < t * B.length → (List.replicate t B).flatten[j]? = B[j % B.length]?
  | 0, j, h => by omega
  | t + 1, j, h => by
    rw [List.replicate_succ, List.flatten_cons]
    by_cases c : j < B.length
    · rw [List.getElem?_append_left c, Nat.mod_eq_of_lt c]
    · rw [List.getElem?_append_right (by omega), rep_at hB t (j - B.length) (by rw [Nat.add_mul, Nat.one_mul] at h; omega), ← Nat.mod_eq_sub_mod (by omega)]
/-- what a layer shows: ahead once, around again and again -/
def ahL (rs : List RW) : Option Int → List Int
  | none => dwg rs
  | some b => dwg (rs.take b.toNat)
def arL (rs : List RW) : Option Int → List Int
  | none => [0]
  | some b => dwg (rs.drop b.toNat)
theorem VRows.takeV {rs : List RW} (v : VRows rs) (k : Nat) : VRows (rs.take k) := ⟨by rw [List.length_take]; have := v.1; omega, fun r hr => v.2 r (List.mem_of_mem_take hr)⟩
theorem VRows.dropV {rs : List RW} (v : VRows rs) (k : Nat) : VRows (rs.drop k) := ⟨by rw [List.length_drop]; have := v.1; omega, fun r hr => v.2 r (List.mem_of_mem_drop hr)⟩
theorem ahL_len {rs : List RW} {bk : Option Int} (v : VRows rs) : (ahL rs bk).length ≤ 192 := by
  cases bk with
  | none =>
    have h := dwg_len v.2
    have t := (tot_nonneg v.2).2
    have := v.1
    show (dwg rs).length ≤ 192
    omega
  | some b =>
    have h := dwg_len (v.takeV b.toNat).2
    have t := (tot_nonneg (v.takeV b.toNat).2).2
    have := (v.takeV b.toNat).1
    show (dwg (rs.take b.toNat)).length ≤ 192
    omega
theorem arL_len {rs : List RW} {bk : Option Int} (v : VRows rs) (vb : VBack rs bk) : 1 ≤ (arL rs bk).length ∧ (arL rs bk).length ≤ 192 := by
  cases bk with
  | none => exact ⟨Nat.le_refl _, by show 1 ≤ 192; omega⟩
  | some b =>
    have hb := vb b rfl
    have h := dwg_len (v.dropV b.toNat).2
    have t := tot_nonneg (v.dropV b.toNat).2
    have := v.1
    rw [List.length_drop] at t
    show 1 ≤ (dwg (rs.drop b.toNat)).length ∧ (dwg (rs.drop b.toNat)).length ≤ 192
    omega
theorem shown_lay {rs : List RW} {bk : Option Int} (v : VRows rs) (vb : VBack rs bk) (i : Nat) :
    some (shown rs bk i) = if i < (ahL rs bk).length then (ahL rs bk)[i]? else (arL rs bk)[(i - (ahL rs bk).length) % (arL rs bk).length]? := by
  cases bk with
  | none =>
    have h := dwg_len v.2
    show some (walk rs i) = if i < (dwg rs).length then (dwg rs)[i]? else ([0] : List Int)[(i - (dwg rs).length) % 1]?
    by_cases c : i < (dwg rs).length
    · rw [if_pos c, dwg_at v.2 (by omega)]
    · rw [if_neg c, walk_out rs i (by omega) v.2, Nat.mod_one]
      rfl
  | some b =>
    have hb := vb b rfl
    have h := dwg_len (v.takeV b.toNat).2
    have h2 := dwg_len (v.dropV b.toNat).2
    have t2 := (tot_nonneg (v.dropV b.toNat).2).1
    rw [List.length_drop] at t2
    have cpos : 0 < tot (rs.drop b.toNat) := by omega
    show some (walk rs (if (i : Int) < tot (rs.take b.toNat) then (i : Int) else tot (rs.take b.toNat) + ((i : Int) - tot (rs.take b.toNat)) % tot (rs.drop b.toNat))) = if i < (dwg (rs.take b.toNat)).length then (dwg (rs.take b.toNat))[i]? else (dwg (rs.drop b.toNat))[(i - (dwg (rs.take b.toNat)).length) % (dwg (rs.drop b.toNat)).length]?
    have wa := fun m h0 => walk_append (a := rs.take b.toNat) (b := rs.drop b.toNat) (m := m) (v.takeV b.toNat).2 h0
    rw [List.take_append_drop] at wa
    by_cases c : i < (dwg (rs.take b.toNat)).length
    · rw [if_pos c, if_pos (by omega), wa _ (by omega), if_pos (by omega), dwg_at (v.takeV b.toNat).2 (by omega)]
    · have m0 := Int.emod_nonneg ((i : Int) - tot (rs.take b.toNat)) (show tot (rs.drop b.toNat) ≠ 0 by omega)
      have m1 := Int.emod_lt_of_pos ((i : Int) - tot (rs.take b.toNat)) cpos
      have t1 := (tot_nonneg (v.takeV b.toNat).2).1
      have em : (((i - (dwg (rs.take b.toNat)).length) % (dwg (rs.drop b.toNat)).length : Nat) : Int) = ((i : Int) - tot (rs.take b.toNat)) % tot (rs.drop b.toNat) := by
        rw [Int.natCast_emod, h2, Int.natCast_sub (by omega), h]
      rw [if_neg c, if_neg (by omega), wa _ (by omega), if_neg (by omega), dwg_at (v.dropV b.toNat).2 (by omega), em]
      congr 2
      omega
def laysI (rs : List RW) (bk : Option Int) (n : Nat) : List Int := (List.range n).map fun i => shown rs bk (i : Nat)
theorem laysI_map (rs : List RW) (bk : Option Int) (n : Nat) : lays rs bk n = (laysI rs bk n).map V.int := by
  unfold lays laysI
  rw [List.map_map]
  rfl
theorem first_lay {rs : List RW} {bk : Option Int} (v : VRows rs) (vb : VBack rs bk) {n t : Nat} (ht : n ≤ (ahL rs bk).length + t * (arL rs bk).length) :
    ((ahL rs bk) ++ (List.replicate t (arL rs bk)).flatten).take n = laysI rs bk n := by
  have hp := (arL_len v vb).1
  apply List.ext_getElem?
  intro i
  unfold laysI
  by_cases hi : i < n
  · rw [List.getElem?_take_of_lt hi, List.getElem?_map, List.getElem?_range hi]
    show _ = some (shown rs bk (i : Nat))
    rw [shown_lay v vb]
    by_cases c : i < (ahL rs bk).length
    · rw [if_pos c, List.getElem?_append_left c]
    · rw [if_neg c, List.getElem?_append_right (by omega), rep_at (by omega) t _ (by omega)]
  · rw [List.getElem?_eq_none (by rw [List.length_take]; omega), List.getElem?_eq_none (by rw [List.length_map, List.length_range]; omega)]
/-! ### data that is compared -/
mutual
def nb : PyData → Bool
  | .none => true
  | .int _ => true
  | .str x => PyData.strOk x
  | .bool _ => false
  | .list xs => nbs xs
  | .tuple xs => nbs xs
  | .dict _ => false
def nbs : List PyData → Bool
  | [] => true
  | x :: xs => nb x && nbs xs
end
theorem nbs_all : ∀ {xs : List PyData}, (∀ x ∈ xs, nb x = true) → nbs xs = true
  | [], _ => rfl
  | x :: xs, h => by
    show (nb x && nbs xs) = true
    rw [h x (List.mem_cons_self ..), nbs_all fun y hy => h y (List.mem_cons_of_mem _ hy)]
    rfl
mutual
theorem nb_can : ∀ d : PyData, nb d = true → d.canLay0 = true
  | .none, _ => rfl
  | .int _, _ => rfl
  | .str x, h => h
  | .bool _, h => nomatch h
  | .list xs, h => nbs_can xs h
  | .tuple xs, h => nbs_can xs h
  | .dict _, h => nomatch h
theorem nbs_can : ∀ xs : List PyData, nbs xs = true → PyData.canLayAll0 xs = true
  | [], _ => rfl
  | x :: xs, h => by
    have h' : (nb x && nbs xs) = true := h
    rw [Bool.and_eq_true] at h'
    show (x.canLay0 && PyData.canLayAll0 xs) = true
    rw [nb_can x h'.1, nbs_can xs h'.2]
    rfl
end
mutual
theorem nb_eq : ∀ d e : PyData, nb d = true → nb e = true → (PyData.eqv d e = true → d = e)
  | .none, e, _, h => by cases e <;> first | (intro _; rfl) | (intro z; cases z) | (cases h)
  | .int i, e, _, h => by
    cases e <;> first | (intro z; cases z) | (cases h) | skip
    intro z
    rw [PyData.eqv] at z
    rw [eq_of_beq z]
  | .str x, e, _, h => by
    cases e <;> first | (intro z; cases z) | (cases h) | skip
    intro z
    rw [PyData.eqv] at z
    rw [eq_of_beq z]
  | .bool _, _, h, _ => nomatch h
  | .list xs, e, h0, h => by
    cases e <;> first | (intro z; cases z) | (cases h) | skip
    intro z
    rw [PyData.eqv] at z
    rw [nbs_eq xs _ h0 h z]
  | .tuple xs, e, h0, h => by
    cases e <;> first | (intro z; cases z) | (cases h) | skip
    intro z
    rw [PyData.eqv] at z
    rw [nbs_eq xs _ h0 h z]
  | .dict _, _, h, _ => nomatch h
theorem nbs_eq : ∀ xs ys : List PyData, nbs xs = true → nbs ys = true → (PyData.eqvAll xs ys = true → xs = ys)
  | [], [], _, _ => fun _ => rfl
  | [], _ :: _, _, _ => fun z => nomatch z
  | _ :: _, [], _, _ => fun z => nomatch z
  | x :: xs, y :: ys, h0, h => by
    intro z
    have h0' : (nb x && nbs xs) = true := h0
    have h' : (nb y && nbs ys) = true := h
    rw [Bool.and_eq_true] at h0' h'
    rw [PyData.eqvAll, Bool.and_eq_true] at z
    rw [nb_eq x y h0'.1 h'.1 z.1, nbs_eq xs ys h0'.2 h'.2 z.2]
end
theorem nb_eqv {d e : PyData} (h0 : nb d = true) (h : nb e = true) : PyData.eqv d e = true ↔ d = e :=
  ⟨nb_eq d e h0 h, fun z => by rw [z]; exact SeqAt.eqv_refl e (nb_can e h)⟩
/-- may be compared: depth at most k -/
structure Sd (k : Nat) (d : PyData) : Prop where
  nb : nb d = true
  dp : d.depth ≤ k
theorem Sd.int {k : Nat} (i : Int) : Sd k (.int i) := ⟨rfl, Nat.zero_le _⟩
theorem Sd.none {k : Nat} : Sd k .none := ⟨rfl, Nat.zero_le _⟩
theorem Sd.more {k k' : Nat} {d : PyData} (h : Sd k d) (h1 : k ≤ k') : Sd k' d := ⟨h.nb, Nat.le_trans h.dp h1⟩
theorem sd_all {k : Nat} : ∀ {ds : List PyData}, (∀ e ∈ ds, Sd k e) → PyData.depthAll ds ≤ k
  | [], _ => Nat.zero_le _
  | d :: t, h => Nat.max_le.mpr ⟨(h d (List.mem_cons_self ..)).dp, sd_all fun x hx => h x (List.mem_cons_of_mem _ hx)⟩
theorem Sd.tup {k : Nat} {ds : List PyData} (h : ∀ e ∈ ds, Sd k e) : Sd (k + 1) (.tuple ds) := ⟨nbs_all fun x hx => (h x hx).nb, Nat.succ_le_succ (sd_all h)⟩
theorem Sd.lst {k : Nat} {ds : List PyData} (h : ∀ e ∈ ds, Sd k e) : Sd (k + 1) (.list ds) := ⟨nbs_all fun x hx => (h x hx).nb, Nat.succ_le_succ (sd_all h)⟩
theorem Sd.sh {k : Nat} {d : PyData} (h : Sd k d) (hk : k ≤ 64) : SeqAt.shaped d = true := by
  show (d.canLay0 && decide (d.depth ≤ 64)) = true
  rw [nb_can d h.nb, decide_eq_true (Nat.le_trans h.dp hk)]
  rfl
theorem Sd.ints {ns : List Int} : Sd 1 (.list (ns.map .int)) := Sd.lst fun e he => by
  obtain ⟨i, _, rfl⟩ := List.mem_map.mp he
  exact Sd.int i
theorem Sd.intsT {ns : List Int} : Sd 1 (.tuple (ns.map .int)) := Sd.tup fun e he => by
  obtain ⟨i, _, rfl⟩ := List.mem_map.mp he
  exact Sd.int i
theorem ints_inj {ns ms : List Int} : ns.map PyData.int = ms.map PyData.int ↔ ns = ms :=
  ⟨fun h => List.map_inj_right (fun _ _ e => PyData.int.inj e) |>.mp h, fun h => by rw [h]⟩
theorem eqv_ints (ns ms : List Int) : PyData.eqv (.list (ns.map .int)) (.list (ms.map .int)) = decide (ns = ms) := by
  have h := nb_eqv (Sd.ints (ns := ns)).nb (Sd.ints (ns := ms)).nb
  by_cases e : ns = ms
  · rw [decide_eq_true e]
    exact h.mpr (by rw [e])
  · rw [decide_eq_false e]
    exact Bool.eq_false_iff.mpr fun z => e (ints_inj.mp (PyData.list.inj (h.mp z)))
/-- x != y of data: the readings -/
theorem ne_data {K : PySem.W.Frag} {H : Hp} {x y : V} {d e : PyData} {k : Nat} {Q : VK} (hx : Dp K H x d) (hy : Dp K H y e) (sd : Sd k d) (se : Sd k e) (hk : k ≤ 64) (q : ∀ b : Bool, (b = true ↔ d = e) → Q (.bl (!b)) H) : rNeD K x y H Q :=
  ⟨d, e, hx, hy, sd.sh hk, se.sh hk, q _ (nb_eqv sd.nb se.nb)⟩
theorem ne_same {K : PySem.W.Frag} {H : Hp} {x y : V} {d : PyData} {k : Nat} {Q : VK} (hx : Dp K H x d) (hy : Dp K H y d) (sd : Sd k d) (hk : k ≤ 64) (q : Q (.bl false) H) : rNeD K x y H Q :=
  ⟨d, d, hx, hy, sd.sh hk, sd.sh hk, by rw [(nb_eqv sd.nb sd.nb).mpr rfl]; exact q⟩
theorem eq_data {K : PySem.W.Frag} {H : Hp} {x y : V} {d e : PyData} {k : Nat} {Q : VK} (hx : Dp K H x d) (hy : Dp K H y e) (sd : Sd k d) (se : Sd k e) (hk : k ≤ 64) (q : ∀ b : Bool, (b = true ↔ d = e) → Q (.bl b) H) : rEqD K x y H Q :=
  ⟨d, e, hx, hy, sd.sh hk, se.sh hk, q _ (nb_eqv sd.nb se.nb)⟩
theorem ne_ints {K : PySem.W.Frag} {H : Hp} {x y : Addr} {ns ms : List Int} {Q : VK} (hx : SqL K H x (ns.map V.int)) (hy : SqL K H y (ms.map V.int)) (q : Q (.bl (!decide (ns = ms))) H) : rNeD K (.ref x) (.ref y) H Q :=
  ⟨_, _, .lst hx (ints_dp _), .lst hy (ints_dp _), Sd.ints.sh (by decide), Sd.ints.sh (by decide), by rw [eqv_ints]; exact q⟩
theorem ints_dpl {K : PySem.W.Frag} {H : Hp} {p : Addr} {ns : List Int} (h : SqL K H p (ns.map V.int)) : Dp K H (.ref p) (.list (ns.map .int)) := .lst h (ints_dp _)
theorem while_R {c : TT} {tb : TS} {D : Ends} {σ : L2.St} {H : Hp} (Pv : L2.St → Hp → Prop) (μ : L2.St → Hp → Nat) (h0 : Pv σ H)
    (hs : ∀ σ H, Pv σ H → ∀ R : Bool → Hp → Prop, (∀ H1, tb { D with nx := fun σ' H' => Pv σ' H' ∧ μ σ' H' < μ σ H, ct := fun σ' H' => Pv σ' H' ∧ μ σ' H' < μ σ H, bk := D.nx } σ H1 → R true H1) → (∀ H1, D.nx σ H1 → R false H1) → c σ H R) : tWhile c tb D σ H := by
  refine ⟨fun m σ H => m = μ σ H ∧ Pv σ H, ⟨_, rfl, h0⟩, ?_⟩
  rintro m σ H ⟨rfl, p⟩
  refine hs σ H p _ (fun H1 h => ?_) (fun H1 h => ?_)
  · show if true = true then _ else _
    rw [if_pos rfl]
    exact ⟨_, fun σ' H' ⟨p', l⟩ => ⟨_, l, rfl, p'⟩, h⟩
  · show if false = true then _ else _
    rw [if_neg (by decide)]
    exact h
/-! ### what comes again and again -/
section
variable {f : Nat → Int}
theorem per_mul {A m : Nat} (h : ∀ t, A ≤ t → f (t + m) = f t) : ∀ (k t : Nat), A ≤ t → f (t + m * k) = f t
  | 0, t, _ => by rw [Nat.mul_zero, Nat.add_zero]
  | k + 1, t, ht => by rw [Nat.mul_succ, ← Nat.add_assoc, h _ (by omega), per_mul h k t ht]
theorem per_mod {A m n : Nat} (h : ∀ t, A ≤ t → f (t + m) = f t) (h' : ∀ t, A ≤ t → f (t + n) = f t) : ∀ t, A ≤ t → f (t + n % m) = f t := fun t ht => by
  rw [← per_mul h (n / m) _ (show A ≤ t + n % m by omega), Nat.add_assoc, Nat.mod_add_div, h' t ht]
theorem per_ev {A c m B : Nat} (hc : 1 ≤ c) (hp : ∀ t, A ≤ t → f (t + c) = f t) (h : ∀ t, B ≤ t → f (t + m) = f t) : ∀ t, A ≤ t → f (t + m) = f t := fun t ht => by
  have hb : B ≤ c * B := Nat.le_mul_of_pos_left B hc
  rw [← per_mul hp B t ht, ← h (t + c * B) (by omega), ← per_mul hp B (t + m) (by omega)]
  congr 1
  omega
/-- the least round -/
structure Lst (f : Nat → Int) (a m : Nat) : Prop where
  m1 : 1 ≤ m
  per : ∀ t, a ≤ t → f (t + m) = f t
  dvd : ∀ n B, (∀ t, B ≤ t → f (t + n) = f t) → m ∣ n
  fst : ∀ b, b + 1 = a → f (b + m) ≠ f b
theorem ex_least {A c : Nat} (hc : 1 ≤ c) (hp : ∀ t, A ≤ t → f (t + c) = f t) : ∃ m, 1 ≤ m ∧ m ≤ c ∧ (∀ t, A ≤ t → f (t + m) = f t) ∧ ∀ k, 1 ≤ k → (∀ t, A ≤ t → f (t + k) = f t) → m ≤ k := by
  induction c using Nat.strongRecOn with
  | ind c ih =>
    by_cases h : ∃ k, 1 ≤ k ∧ k < c ∧ ∀ t, A ≤ t → f (t + k) = f t
    · obtain ⟨k, k1, kc, kp⟩ := h
      obtain ⟨m, m1, mk, r⟩ := ih k kc k1 kp
      exact ⟨m, m1, by omega, r⟩
    · refine ⟨c, hc, Nat.le_refl _, hp, fun k k1 kp => ?_⟩
      exact Nat.le_of_not_lt fun z => h ⟨k, k1, z, kp⟩
/-- the least many, then the least ahead -/
theorem lst_of {A c m a : Nat} (hc : 1 ≤ c) (hp : ∀ t, A ≤ t → f (t + c) = f t) (m1 : 1 ≤ m) (hm : ∀ t, A ≤ t → f (t + m) = f t) (least : ∀ k, 1 ≤ k → k < m → c % k = 0 → ¬ ∀ t, A ≤ t → f (t + k) = f t)
    (ha : a ≤ A) (hb : ∀ t, a ≤ t → t < A → f (t + m) = f t) (hf : ∀ b, b + 1 = a → f (b + m) ≠ f b) : Lst f a m := by
  obtain ⟨n, n1, nc, np, nl⟩ := ex_least hc hp
  have div : ∀ k, (∀ t, A ≤ t → f (t + k) = f t) → n ∣ k := fun k kp => by
    apply Nat.dvd_of_mod_eq_zero
    rcases Nat.eq_zero_or_pos (k % n) with z | z
    · exact z
    · have := nl (k % n) z (per_mod np kp)
      have := Nat.mod_lt k (show 0 < n by omega)
      omega
  have e : m = n := by
    have h1 := Nat.le_of_dvd (by omega) (div m hm)
    rcases Nat.lt_or_ge n m with z | z
    · exact absurd np (least n n1 z (Nat.mod_eq_zero_of_dvd (div c hp)))
    · omega
  subst e
  refine ⟨m1, fun t ht => ?_, fun k B h => div k (per_ev hc hp h), hf⟩
  rcases Nat.lt_or_ge t A with z | z
  · exact hb t ht z
  · exact hm t z
theorem Lst.uniq {a m a' m' : Nat} (h : Lst f a m) (h' : Lst f a' m') : a = a' ∧ m = m' := by
  have e : m = m' := Nat.dvd_antisymm (h.dvd m' a' h'.per) (h'.dvd m a h.per)
  subst e
  refine ⟨?_, rfl⟩
  rcases Nat.lt_trichotomy a a' with z | z | z
  · exact absurd (h.per (a' - 1) (by omega)) (h'.fst (a' - 1) (by omega))
  · exact z
  · exact absurd (h'.per (a - 1) (by omega)) (h.fst (a - 1) (by omega))
/-- rounds by the least one -/
theorem Lst.iff {a m : Nat} (h : Lst f a m) (b n : Nat) (n1 : 1 ≤ n) : (∀ t, b ≤ t → f (t + n) = f t) ↔ a ≤ b ∧ m ∣ n := by
  constructor
  · intro hp
    have d := h.dvd n b hp
    refine ⟨?_, d⟩
    rcases Nat.lt_or_ge b a with z | z
    · obtain ⟨k, rfl⟩ := d
      have k1 : 1 ≤ k := by
        rcases Nat.eq_zero_or_pos k with z | z
        · rw [z] at n1
          omega
        · exact z
      exfalso
      refine h.fst (a - 1) (by omega) ?_
      have e := hp (a - 1) (by omega)
      have e2 := per_mul h.per (k - 1) (a - 1 + m) (by have := h.m1; omega)
      rw [show a - 1 + m + m * (k - 1) = a - 1 + m * k by
        obtain ⟨j, rfl⟩ : ∃ j, k = j + 1 := ⟨k - 1, by omega⟩
        rw [Nat.add_sub_cancel, Nat.mul_succ]
        omega, e] at e2
      exact e2.symm
    · exact z
  · rintro ⟨z, k, rfl⟩ t ht
    exact per_mul h.per k t (by omega)
def seg (f : Nat → Int) (A c : Nat) : List Int := (List.range c).map fun j => f (A + j)
theorem seg_len (A c : Nat) : (seg f A c).length = c := by
  unfold seg
  rw [List.length_map, List.length_range]
theorem seg_at {A c i : Nat} (h : i < c) : (seg f A c)[i]? = some (f (A + i)) := by
  unfold seg
  rw [List.getElem?_map, List.getElem?_range h]
  rfl
theorem rot_at {A c m j : Nat} (hp : ∀ t, A ≤ t → f (t + c) = f t) (hm : m ≤ c) (hj : j < c) : ((seg f A c).drop m ++ (seg f A c).take m)[j]? = some (f (A + j + m)) := by
  by_cases h : j < c - m
  · rw [List.getElem?_append_left (by rw [List.length_drop, seg_len]; exact h), List.getElem?_drop, seg_at (by omega)]
    congr 2
    omega
  · rw [List.getElem?_append_right (by rw [List.length_drop, seg_len]; omega), List.length_drop, seg_len, List.getElem?_take_of_lt (by omega), seg_at (by omega), ← hp _ (by omega)]
    congr 2
    omega
theorem rot_iff {A c m : Nat} (hc : 1 ≤ c) (hp : ∀ t, A ≤ t → f (t + c) = f t) (hm : m ≤ c) : (seg f A c).drop m ++ (seg f A c).take m = seg f A c ↔ ∀ t, A ≤ t → f (t + m) = f t := by
  constructor
  · intro h t ht
    have l := Nat.mod_lt (t - A) (show 0 < c by omega)
    have e := rot_at hp hm l
    rw [h, seg_at l] at e
    have e1 := Option.some.inj e
    have q := Nat.mod_add_div (t - A) c
    have e2 := per_mul hp ((t - A) / c) (A + (t - A) % c) (by omega)
    have e3 := per_mul hp ((t - A) / c) (A + (t - A) % c + m) (by omega)
    rw [show A + (t - A) % c + c * ((t - A) / c) = t by omega] at e2
    rw [show A + (t - A) % c + m + c * ((t - A) / c) = t + m by omega] at e3
    rw [e2, e3]
    exact e1.symm
  · intro h
    apply List.ext_getElem?
    intro i
    by_cases hi : i < c
    · rw [rot_at hp hm hi, seg_at hi, h _ (by omega)]
    · rw [List.getElem?_eq_none (by rw [List.length_append, List.length_drop, List.length_take, seg_len]; omega), List.getElem?_eq_none (by rw [seg_len]; omega)]
end
/-- what a layer shows, by the moment -/
def shN (rs : List RW) (bk : Option Int) (t : Nat) : Int := shown rs bk (t : Nat)
theorem shN_per {rs : List RW} {bk : Option Int} (v : VRows rs) (vb : VBack rs bk) : ∀ t, (ahL rs bk).length ≤ t → shN rs bk (t + (arL rs bk).length) = shN rs bk t := fun t ht => by
  have e1 := shown_lay v vb t
  have e2 := shown_lay v vb (t + (arL rs bk).length)
  rw [if_neg (by omega)] at e1 e2
  rw [show t + (arL rs bk).length - (ahL rs bk).length = t - (ahL rs bk).length + (arL rs bk).length by omega, Nat.add_mod_right] at e2
  exact Option.some.inj (e2.trans e1.symm)
theorem arL_seg {rs : List RW} {bk : Option Int} (v : VRows rs) (vb : VBack rs bk) : arL rs bk = seg (shN rs bk) (ahL rs bk).length (arL rs bk).length := by
  apply List.ext_getElem?
  intro i
  by_cases hi : i < (arL rs bk).length
  · rw [seg_at hi]
    show _ = some (shown rs bk (((ahL rs bk).length + i : Nat) : Int))
    rw [shown_lay v vb, if_neg (by omega), Nat.add_sub_cancel_left, Nat.mod_eq_of_lt hi]
  · rw [List.getElem?_eq_none (by omega), List.getElem?_eq_none (by rw [seg_len]; omega)]
theorem aa_at {rs : List RW} {bk : Option Int} (v : VRows rs) (vb : VBack rs bk) {i : Nat} (h : i < (ahL rs bk).length + (arL rs bk).length) : (ahL rs bk ++ arL rs bk)[i]? = some (shN rs bk i) := by
  show _ = some (shown rs bk (i : Nat))
  rw [shown_lay v vb]
  by_cases c : i < (ahL rs bk).length
  · rw [if_pos c, List.getElem?_append_left c]
  · rw [if_neg c, List.getElem?_append_right (by omega), Nat.mod_eq_of_lt (by omega)]
/-! ### helpers of the laws over rounds -/
theorem Paired.appP {α β : Type} {F : α → β → Prop} : ∀ {l₁ m₁ : List α} {l₂ m₂ : List β}, Paired F l₁ l₂ → Paired F m₁ m₂ → Paired F (l₁ ++ m₁) (l₂ ++ m₂)
  | _, _, _, _, .nil, h => h
  | _, _, _, _, .cons r t, h => .cons r (Paired.appP t h)
theorem Paired.repP {α β : Type} {F : α → β → Prop} {l₁ : List α} {l₂ : List β} (h : Paired F l₁ l₂) : ∀ n, Paired F (List.replicate n l₁).flatten (List.replicate n l₂).flatten
  | 0 => .nil
  | n + 1 => by
    rw [List.replicate_succ, List.replicate_succ, List.flatten_cons, List.flatten_cons]
    exact Paired.appP h (Paired.repP h n)
theorem mem_rep {α : Type} {l : List α} {x : α} {n : Nat} (h : x ∈ (List.replicate n l).flatten) : x ∈ l := by
  obtain ⟨m, hm, hx⟩ := List.mem_flatten.mp h
  rw [(List.mem_replicate.mp hm).2] at hx
  exact hx
theorem len_rep {α : Type} {l : List α} {n : Nat} : (List.replicate n l).flatten.length = n * l.length := by
  rw [List.length_flatten, List.map_replicate, List.sum_replicate_nat]
theorem cut_mid {xs : List V} {a b : Nat} (h : a ≤ b) (h2 : b ≤ xs.length) : cutV xs (some (a : Int)) (some (b : Int)) = (xs.drop a).take (b - a) := by
  unfold cutV
  rw [HT.sIx_nat, HT.sIx_nat, Nat.min_eq_left h2, Nat.min_eq_left (show a ≤ xs.length by omega)]
theorem lays_cut {rs : List RW} {bk : Option Int} {n a b : Nat} (h : a ≤ b) (h2 : b ≤ n) : cutV (lays rs bk n) (some (a : Int)) (some (b : Int)) = (seg (shN rs bk) a (b - a)).map V.int := by
  rw [cut_mid h (by rw [lays_len]; exact h2)]
  apply List.ext_getElem?
  intro i
  by_cases hi : i < b - a
  · rw [List.getElem?_take_of_lt hi, List.getElem?_drop, lays_at (by omega), List.getElem?_map, seg_at hi]
    rfl
  · rw [List.getElem?_eq_none (by rw [List.length_take]; omega), List.getElem?_eq_none (by rw [List.length_map, seg_len]; omega)]
theorem cut_opt {rs : List RW} {bk : Option Int} (vb : VBack rs bk) (xs : List V) : cutV xs none bk = match bk with | none => xs | some b => xs.take b.toNat := by
  cases bk with
  | none => exact cut_all xs
  | some b =>
    have hb := vb b rfl
    obtain ⟨k, rfl⟩ : ∃ k : Nat, b = (k : Int) := ⟨b.toNat, by omega⟩
    exact cut_to xs k
def ahd (rs : List RW) : Option Int → List RW
  | none => rs
  | some b => rs.take b.toNat
def siz (rs : List RW) : Option Int → Int
  | none => 1
  | some b => tot (rs.drop b.toNat)
theorem siz_pos {rs : List RW} {bk : Option Int} (v : VRows rs) (vb : VBack rs bk) : 1 ≤ siz rs bk ∧ siz rs bk ≤ 192 := by
  obtain ⟨v8, vr⟩ := v
  cases bk with
  | none => exact ⟨by show (1 : Int) ≤ 1; omega, by show (1 : Int) ≤ 192; omega⟩
  | some b =>
    have hb := vb b rfl
    have := tot_nonneg (rs := rs.drop b.toNat) fun q hq => vr q (List.mem_of_mem_drop hq)
    rw [List.length_drop] at this
    obtain ⟨t1, t2⟩ := this
    constructor
    · show 1 ≤ tot (rs.drop b.toNat)
      omega
    · show tot (rs.drop b.toNat) ≤ 192
      omega
theorem siz_len {rs : List RW} {bk : Option Int} (v : VRows rs) : siz rs bk = ((arL rs bk).length : Int) := by
  cases bk with
  | none => rfl
  | some b => exact (dwg_len (v.dropV b.toNat).2).symm
theorem ahL_tot {rs : List RW} {bk : Option Int} (v : VRows rs) : ((ahL rs bk).length : Int) ≤ tot rs := by
  cases bk with
  | none => exact Int.le_of_eq (dwg_len v.2)
  | some b =>
    show ((dwg (rs.take b.toNat)).length : Int) ≤ tot rs
    have h := dwg_len (v.takeV b.toNat).2
    have s := tot_split rs b.toNat
    have t := (tot_nonneg (v.dropV b.toNat).2).1
    omega
/-- by the whole length and the round's size -/
theorem per_whole {rs : List RW} {bk : Option Int} (v : VRows rs) (vb : VBack rs bk) {W c : Nat} (hW : (W : Int) = tot rs) (hc : (c : Int) = siz rs bk) : ∀ t, W ≤ t → shN rs bk (t + c) = shN rs bk t := fun t ht => by
  have e := siz_len (bk := bk) v
  have a := ahL_tot (bk := bk) v
  rw [show c = (arL rs bk).length by omega]
  exact shN_per v vb t (by omega)
theorem Gr.keepRow {st : Addr} {K : PySem.W.Frag} {H H' : Hp} (g : Gr st H H') (s : IsSt H st) {vs : List V} {rs : List RW} (p : Paired (RowAt K H) vs rs) : Paired (RowAt K H') vs rs := Paired.mono p fun _ _ => RowAt.keep (g.tk s)
theorem gr_upd {st D : Addr} {H0 H : Hp} {o : HO} (g : Gr st H0 H) (n0 : H0 D = none) (nD : D ≠ st) : Gr st H0 (upd H D o) :=
  ⟨fun b x nb e => by rw [upd_ne (ne_of_none e n0)]; exact g.1 b x nb e, fun hz => by
    obtain ⟨x, y, hx, hxy⟩ := g.2 hz
    exact ⟨x, y, by rw [upd_ne (Ne.symm nD)]; exact hx, hxy⟩⟩
/-! ### rounds of sheets -/
def plN (x y : Int) (ms : List MV) (t : Nat) : RW × RW := plc x y ms (t : Int)
theorem rwD_inj {r s : RW} (h : rwD r = rwD s) : r = s := by
  have e := PyData.tuple.inj h
  injection e with e1 e2
  injection e2 with e2 _
  exact Prod.ext (PyData.int.inj e1) (PyData.int.inj e2)
theorem plD_inj {p q : RW × RW} (h : plD p = plD q) : p = q := by
  have e := PyData.tuple.inj h
  injection e with e1 e2
  injection e2 with e2 _
  exact Prod.ext (rwD_inj e1) (rwD_inj e2)
theorem picD_inj {c d : PIC} (h : picD c = picD d) : c = d := by
  have e := PyData.tuple.inj h
  injection e with e1 e2
  injection e2 with e2 _
  exact Prod.ext (ints_inj.mp (PyData.tuple.inj e1)) (plD_inj e2)
theorem sd_rw (r : RW) : Sd 1 (rwD r) := Sd.tup fun e he => by
  rcases mem2 he with rfl | rfl <;> exact Sd.int _
theorem sd_pl (p : RW × RW) : Sd 2 (plD p) := Sd.tup fun e he => by
  rcases mem2 he with rfl | rfl <;> exact sd_rw _
theorem sd_pic (c : PIC) : Sd 3 (picD c) := Sd.tup fun e he => by
  rcases mem2 he with rfl | rfl
  · exact Sd.intsT.more (by decide)
  · exact sd_pl _
structure WinR (x y : Int) (ms : List MV) (b : Nat) : Prop where
  per : ∀ t, b ≤ t → plN x y ms (t + 1) = plN x y ms t
  fst : ∀ c, c + 1 = b → plN x y ms (c + 1) ≠ plN x y ms c
structure ShR (ls : List LY) (x y : Int) (ms : List MV) (a m : Nat) : Prop where
  m1 : 1 ≤ m
  perL : ∀ l ∈ ls, ∀ t, a ≤ t → shN l.1 l.2 (t + m) = shN l.1 l.2 t
  perW : ∀ t, a ≤ t → plN x y ms (t + 1) = plN x y ms t
  dvd : ∀ n, (∀ l ∈ ls, ∀ a' m', Lst (shN l.1 l.2) a' m' → m' ∣ n) → m ∣ n
  fst : ∀ b, b + 1 = a → (∃ l ∈ ls, shN l.1 l.2 (b + m) ≠ shN l.1 l.2 b) ∨ plN x y ms (b + 1) ≠ plN x y ms b
theorem ShR.uniq {ls : List LY} {x y : Int} {ms : List MV} {a m a' m' : Nat} (h : ShR ls x y ms a m) (h' : ShR ls x y ms a' m') : a = a' ∧ m = m' := by
  have e : m = m' := Nat.dvd_antisymm (h.dvd m' fun l hl b n hb => hb.dvd m' a' (h'.perL l hl)) (h'.dvd m fun l hl b n hb => hb.dvd m a (h.perL l hl))
  subst e
  refine ⟨?_, rfl⟩
  rcases Nat.lt_trichotomy a a' with z | z | z
  · rcases h'.fst (a' - 1) (by omega) with ⟨l, hl, hn⟩ | hn
    · exact absurd (h.perL l hl (a' - 1) (by omega)) hn
    · exact absurd (h.perW (a' - 1) (by omega)) hn
  · exact z
  · rcases h.fst (a - 1) (by omega) with ⟨l, hl, hn⟩ | hn
    · exact absurd (h'.perL l hl (a - 1) (by omega)) hn
    · exact absurd (h'.perW (a - 1) (by omega)) hn
theorem Paired.mem2 {α β : Type} {F : α → β → Prop} {l₁ : List α} {l₂ : List β} (p : Paired F l₁ l₂) {y : β} (h : y ∈ l₂) : ∃ x ∈ l₁, F x y := by
  obtain ⟨i, hi⟩ := List.mem_iff_getElem?.mp h
  obtain ⟨x, hx, f⟩ := Paired.at2 p hi
  exact ⟨x, List.mem_of_getElem? hx, f⟩
theorem Paired.mem1 {α β : Type} {F : α → β → Prop} {l₁ : List α} {l₂ : List β} (p : Paired F l₁ l₂) {x : α} (h : x ∈ l₁) : ∃ y ∈ l₂, F x y := by
  obtain ⟨i, hi⟩ := List.mem_iff_getElem?.mp h
  obtain ⟨y, hy, f⟩ := Paired.at p hi
  exact ⟨y, List.mem_of_getElem? hy, f⟩
abbrev RdOf (r : Nat × Nat) (l : LY) : Prop := Lst (shN l.1 l.2) r.1 r.2 ∧ r.1 ≤ 192 ∧ r.2 ≤ 192
theorem shR_mk {ls : List LY} {rd : List (Nat × Nat)} {x y : Int} {ms : List MV} {a b m : Nat} (hp : Paired RdOf rd ls) (hw : WinR x y ms b) (ha : ∀ r ∈ rd, r.1 ≤ a) (hb : b ≤ a) (hm : a = b ∨ ∃ r ∈ rd, r.1 = a) (m1 : 1 ≤ m)
    (hd : ∀ r ∈ rd, r.2 ∣ m) (hl : ∀ n, (∀ r ∈ rd, r.2 ∣ n) → m ∣ n) : ShR ls x y ms a m := by
  refine ⟨m1, fun l hl t ht => ?_, fun t ht => hw.per t (by omega), fun n hn => hl n fun r hr => ?_, fun c hc => ?_⟩
  · obtain ⟨r, hr, f, _⟩ := Paired.mem2 hp hl
    obtain ⟨k, rfl⟩ := hd r hr
    exact per_mul f.per k t (by have := ha r hr; omega)
  · obtain ⟨l, hl', f, _⟩ := Paired.mem1 hp hr
    exact hn l hl' r.1 r.2 f
  · rcases hm with e | ⟨r, hr, e⟩
    · exact .inr (hw.fst c (by omega))
    · obtain ⟨l, hl', f, _⟩ := Paired.mem1 hp hr
      refine .inl ⟨l, hl', fun z => f.fst c (by omega) ?_⟩
      obtain ⟨k, hk⟩ := hd r hr
      obtain ⟨j, rfl⟩ : ∃ j, k = j + 1 := ⟨k - 1, by
        rcases Nat.eq_zero_or_pos k with z | z
        · rw [z] at hk
          omega
        · omega⟩
      have e2 := per_mul f.per j (c + r.2) (by have := f.m1; omega)
      rw [show c + r.2 + r.2 * j = c + m by rw [hk, Nat.mul_succ]; omega, z] at e2
      exact e2.symm
theorem ShR.pic_eq {ls : List LY} {x y : Int} {ms : List MV} {a m : Nat} (h : ShR ls x y ms a m) {t : Nat} (ht : a ≤ t) (k : Nat) : pic ls x y ms ((t + m * k : Nat) : Int) = pic ls x y ms (t : Int) := by
  refine Prod.ext ?_ ?_
  · exact List.map_congr_left fun l hl => per_mul (h.perL l hl) k t ht
  · have := per_mul (f := fun t => (0 : Int)) (A := 0) (m := 1) (fun _ _ => rfl)
    have e : ∀ n, plN x y ms (t + n) = plN x y ms t := fun n => by
      induction n with
      | zero => rfl
      | succ n ih => rw [← Nat.add_assoc, h.perW _ (by omega), ih]
    exact e (m * k)
theorem ShR.pic_ne {ls : List LY} {x y : Int} {ms : List MV} {a m : Nat} (h : ShR ls x y ms a m) {b : Nat} (hb : b + 1 = a) : pic ls x y ms (b : Int) ≠ pic ls x y ms ((b + m : Nat) : Int) := fun e => by
  rcases h.fst b hb with ⟨l, hl, hn⟩ | hn
  · exact hn (List.map_inj_left.mp (congrArg Prod.fst e) l hl).symm
  · refine hn ?_
    have e1 : plN x y ms b = plN x y ms (b + m) := congrArg Prod.snd e
    have e2 : ∀ n, plN x y ms (b + 1 + n) = plN x y ms (b + 1) := fun n => by
      induction n with
      | zero => rfl
      | succ n ih => rw [← Nat.add_assoc, h.perW _ (by omega), ih]
    have m1 := h.m1
    have e3 := e2 (m - 1)
    rw [show b + 1 + (m - 1) = b + m by omega] at e3
    rw [e1, e3]
theorem winR_of {x y : Int} {ms : List MV} {L b : Nat} (vm : ∀ m ∈ ms, VMove m) (hL : (L : Int) = mtot ms) (hb : b ≤ L) (hp : ∀ t, b ≤ t → t < L → plN x y ms (t + 1) = plN x y ms t) (hf : ∀ c, c + 1 = b → plN x y ms (c + 1) ≠ plN x y ms c) : WinR x y ms b := by
  refine ⟨fun t ht => ?_, hf⟩
  rcases Nat.lt_or_ge t L with z | z
  · exact hp t ht z
  · exact plc_far ms x y _ _ vm (by omega) (by omega)
/-- the step of the law's own reckoning of a common multiple -/
theorem lcm_step {s z k : Nat} (s1 : 1 ≤ s) (z1 : 1 ≤ z) (k1 : 1 ≤ k) (hd : z ∣ s * k) (hmin : ∀ j, 1 ≤ j → j < k → ¬ z ∣ s * j) : s * k = Nat.lcm s z := by
  obtain ⟨j, hj⟩ := Nat.dvd_lcm_left s z
  have lp : 0 < Nat.lcm s z := Nat.lcm_pos (by omega) (by omega)
  have j1 : 1 ≤ j := by
    rcases Nat.eq_zero_or_pos j with e | e
    · rw [e] at hj
      omega
    · exact e
  have h1 : Nat.lcm s z ∣ s * k := Nat.lcm_dvd (Nat.dvd_mul_right s k) hd
  have h2 : k ≤ j := Nat.le_of_not_lt fun lt => hmin j j1 lt (by rw [← hj]; exact Nat.dvd_lcm_right s z)
  have h3 := Nat.le_of_dvd (Nat.mul_pos (by omega) (by omega)) h1
  have h4 : s * k ≤ s * j := Nat.mul_le_mul_left s h2
  omega
theorem lcm_le {s z : Nat} (h : 0 < Nat.gcd s z) : Nat.lcm s z ≤ s * z := by
  unfold Nat.lcm
  exact Nat.div_le_self _ _

/-! ### defs called where an error is handled -/
/-- f, called while the error at a (class cls, dict d) is handled, keeps sp -/
structure FnE (P : Program) (w : World) (K : PySem.W.Frag) (mg : Str → Option Value) (base : Heap) (k : Nat) (f : Addr) (fd : FuncData) (ps : List Str) (sp : Addr → Value → Option Addr → Sp) : Prop where
  len : ∀ a cls d vs H Q E, sp a cls d vs H Q E → vs.length = ps.length
  run : ∀ (A : Around) (outer : List Env) (s : Shared) (H : Hp) (args : Args) (us : List Value) (vs : List V) (Q : VK) (E : XK) (a : Addr) (oe : Obj) (cls : Value) (d : Option Addr), L2H.RoomH k A → Zc cls d oe → (∃ z, oe.data = .fields z) → L2H.PinOk outer H s (a, oe) →
    Env0 P w K mg base A outer s H → BindsTo s fd args (ps.zip us) → Vals vs us → sp a cls d vs H Q E → codeAny (model P w) A (.call (.ref f) args) (CR CX0 outer P w H s Q E) s
section
variable {P : Program} {w : World} {K : PySem.W.Frag} {mg : Str → Option Value} {base : Heap}
theorem fun_okE {x qual : Str} {st : Stmt} {f : Addr} {fd : FuncData} {N ps : List Str} {k : Nat} {sp : Addr → Value → Option Addr → Sp} (F : Fun K x qual st f fd) (S : FnScope N ps (defScope st)) (ln : ∀ a cls d vs H Q E, sp a cls d vs H Q E → vs.length = ps.length)
    (hbody : ∀ (cdv : Value) (A : Around) (outer : List Env) (s : Shared) (H : Hp) (vs : List V) (Q : VK) (E : XK) (a : Addr) (oe : Obj) (cls : Value) (d : Option Addr), Zc cls d oe → (∃ z, oe.data = .fields z) → L2H.RoomH k (A.deeper (envOfC qual (defScope st) s.heap.objs.size f cdv)) → sp a cls d vs H Q E →
      ∃ t, PSs (L2H.cxH CX0 P w K mg base N qual (defScope st) f cdv A outer s H E (a, oe)) (defBody st) t ∧ t { nx := fun _ H' => Q .non H', rt := Q } (L2.start N vs) H) : FnE P w K mg base (k + 1) f fd ps sp := by
  obtain ⟨cdv, D⟩ := defAt_of F
  refine ⟨ln, fun A outer s H args us vs Q E a oe cls d hr hz hfs hpin e0 hb r hsp => D.call S hr.depth e0 hb fun s1 begun => ?_⟩
  obtain ⟨t, ht, hq⟩ := hbody cdv A outer s H vs Q E a oe cls d hz hfs (hr.deeper _) hsp
  exact thn (ht.run [] s1 _ H _ (L2H.inv_startH S hpin e0 (ln _ _ _ _ _ _ _ hsp) r begun) hq) fun _ _ h => given_by rfl h
end
section
variable {X : Cx}
/-- what is pinned in the context may be pinned in a body that it calls -/
theorem pinned {pins : List (Addr × Obj)} {σ : L2.St} {H : Hp} {s : Shared} {p : Addr × Obj} (I : Inv X pins σ H s) (hpn : p ∈ X.pn) : L2H.PinOk X.stack H s p := by
  obtain ⟨get, free, low, far, flat⟩ := I.pin p (List.mem_append_left pins hpn)
  refine ⟨get, free, fun on => ?_, flat⟩
  rcases List.mem_cons.mp (I.stkSub p.1 on) with z | z
  · exact low z
  · exact far z
/-- a call of a global name: T tells what is asked of its arguments -/
theorem pe_named {f : Addr} {x : Str} {q pos : Pos} {e : Expr} {es : List Expr} {t : TA} {T : List V → Hp → VK → Prop} (hg : Gl X x) (hm : X.mg x = some (.ref f)) (hk : PySem.W.keepIn X.K (.ref f) = true) (ha : PA X (e :: es) t)
    (run : ∀ (pins : List (Addr × Obj)) (s : Shared) (σ : L2.St) (H : Hp) (us : List Value) (vs : List V) (Q : VK), Inv X pins σ H s → Vals vs us → T vs H Q → wpAny (model X.prog X.w) X.A (call (.ref f) us) (EP X pins σ Q) X.xe s)
    (plain : (x == ("__debug__" : Str)) = false) (first : starEach (e :: es) X.env = (false, eval e X.env) :: starEach es X.env) (noStar : (backTo pos (starEach es X.env)).any (·.1) = false) :
    PE X (.Call (.Name x q) (e :: es) [] pos) (fun σ H Q => t σ H fun vs H1 => T vs H1 Q) :=
  ⟨fun pins s σ H Q I h => wpAny_Call_Name_kw (ld_glob I hg hm (PySem.W.callWith_K (h₀ := X.base) I.ok.mod.kin hk
    (thn (ha.run pos pins s σ H _ I h) fun us s1 ⟨vs, H1, I1, r, due⟩ => ⟨I1.kIn, run pins s1 σ H1 us vs Q I1 r due⟩) first noStar) plain)⟩
/-- f(e, ..), the error at a being handled -/
theorem pe_callE {k : Nat} {f a : Addr} {oe : Obj} {cls : Value} {d : Option Addr} {fd : FuncData} {ps : List Str} {sp : Addr → Value → Option Addr → Sp} {x : Str} {q pos : Pos} {e : Expr} {es : List Expr} {t : TA} (F : FnE X.prog X.w X.K X.mg X.base k f fd ps sp) (hr : L2H.RoomH k X.A) (hpn : (a, oe) ∈ X.pn)
    (hz : Zc cls d oe) (hfs : ∃ z, oe.data = .fields z) (hg : Gl X x) (hm : X.mg x = some (.ref f)) (hk : PySem.W.keepIn X.K (.ref f) = true) (hb : Binds X.K fd ps []) (ha : PA X (e :: es) t)
    (hdb : (x == ("__debug__" : Str)) = false := by decide) (he : starEach (e :: es) X.env = (false, eval e X.env) :: starEach es X.env := by rfl) (hpl : (backTo pos (starEach es X.env)).any (·.1) = false := by rfl) :
    PE X (.Call (.Name x q) (e :: es) [] pos) (fun σ H Q => t σ H fun vs H1 => sp a cls d vs H1 Q E0) := by
  refine pe_named (T := fun vs H Q => sp a cls d vs H Q E0) hg hm hk ha (fun pins s σ H us vs Q I r due => ?_) hdb he hpl
  have binds : BindsTo s fd ⟨us, []⟩ (ps.zip us) := by
    simpa only [List.append_nil] using hb s us I.kIn (by rw [List.append_nil, ← r.length]; exact F.len _ _ _ _ _ _ _ due)
  refine wpAny_call (codeAny_mono (F.run X.A X.stack s H ⟨us, []⟩ us vs Q E0 a oe cls d hr hz hfs (pinned I hpn) I.env0 binds r due) fun res s' left => ?_)
  match res, left with
  | .ok (.ret _), left => exact I.after left
  | .ok .next, left | .ok .brk, left | .ok .cont, left | .error _, left => exact False.elim left
/-- isinstance(e, c), e a handled error -/
def rIsP (K : PySem.W.Frag) (D a : Addr) (d : Option Addr) : List V → Hp → VK → Prop := fun xs H Q => ∃ (c : V) (cv : Value) (b : Bool), xs = [.ref a, c] ∧ (∀ u, RelV c u → u = cv) ∧ PySem.W.kitOne K (.ref D) cv = some b ∧
  (∀ dd, d = some dd → ∃ fs, H dd = some (.xd fs)) ∧ Q (.bl b) H
theorem call_isP {a D : Addr} {oe : Obj} {d : Option Addr} (hpn : (a, oe) ∈ X.pn) (C : ExcC X.K D) (hz : Zc (.ref D) d oe) (hfs : ∃ z, oe.data = .fields z) : CallR X (.builtin "isinstance") (rIsP X.K D a d) := by
  intro pins s σ H xs us Q I r h
  obtain ⟨c, cv, b, rfl, hcv, e, hd, q⟩ := h
  obtain ⟨u1, u2, rfl, r1, r2⟩ := vals2 r
  have ec := hcv _ r2
  subst ec
  cases (show u1 = Value.ref a from r1)
  obtain ⟨hget, _⟩ := I.pin (a, oe) (List.mem_append_left _ hpn)
  obtain ⟨z, hv⟩ := hfs
  have hno : PySem.W.notCls oe = true := by
    unfold PySem.W.notCls
    rw [hv]
  obtain ⟨od, J⟩ : ∃ od, PySem.W.InstAt s.heap a oe D od := by
    cases d with
    | none => exact ⟨none, hget, hz.1, hno, by rw [hz.2]; trivial⟩
    | some dd =>
      obtain ⟨fs, hfs⟩ := hd dd rfl
      obtain ⟨mA, hns, hr⟩ := (show ObjOk X.prog X.w H s.heap dd (.xd fs) from I.hok dd _ hfs)
      obtain ⟨od, ho, hl⟩ := lookIn_ns hns
      exact ⟨some od, hget, hz.1, hno, by rw [hz.2]; exact ho⟩
  have hcl : (PySem.W.clsIn X.K D).isSome = true := by
    obtain ⟨cd, hc, _⟩ := PySem.W.any_some C.hd
    rw [hc]
    rfl
  exact PySem.W.kia_one (PySem.W.kitx_exc hcl C.hg C.hk C.hs C.ha C.hn C.ht C.hm) I.kIn J e (fun z => nomatch z) fun tk => ⟨.bl b, H, I.tok tk, rfl, q⟩
end

/-! ### what the written part says of the refusals -/
def excCB (K : PySem.W.Frag) (D : Addr) : Bool :=
  decide (PySem.W.findIn K (.ref D) "__getattribute__" = some (some (.builtin "BaseException.__getattribute__"))) && (decide (PySem.W.findIn K (.ref D) "__getattr__" = some none) && (decide (PySem.W.subIn K (.ref D) (.type "BaseException") = some true) &&
    (PySem.W.hasDictIn K D && (decide (PySem.W.findIn K (.ref D) "__class__" = some (some (.builtin "object.__class__"))) && (decide (PySem.W.specialIn K (.builtin "object.__class__") "__get__" = some (some (.builtin "getset_descriptor.__get__"))) &&
      (decide (PySem.W.takesIn K (.builtin "object.__class__") = some true) && decide (PySem.W.mroIn K D (.type "object") = some true)))))))
theorem excC_of {K : PySem.W.Frag} {D : Addr} (h : excCB K D = true) : ExcC K D := by
  unfold excCB at h
  simp only [Bool.and_eq_true, decide_eq_true_eq] at h
  obtain ⟨h1, h2, h3, h4, h5, h6, h7, h8⟩ := h
  exact ⟨h1, h2, h3, h4, h5, h6, h7, h8⟩
def excTB (K : PySem.W.Frag) (c : Nat → Addr) (LE : Addr) : Bool :=
  (List.range 16).all fun i => excCB K (c i) && (decide (PySem.W.kitOne K (.ref (c i)) (.type "ValueError") = some true) && (decide (PySem.W.exmOne K (.ref (c i)) (.ref LE) = some true) &&
    ((decide (14 ≤ i) || PySem.W.excIn K (c i) PySem.HandSPX.veTail "ValueError.__new__") && (PySem.W.keepIn K (.ref (c i)) && (decide (PySem.W.typeIn K (.ref (c i)) = some (.type "type")) &&
      (List.range 16).all fun j => decide (PySem.W.kitOne K (.ref (c i)) (.ref (c j)) = some (decide (i = j))))))))
/-- the sixteen refusals stand at c 0 .. c 15, LanternError at LE -/
structure ExcT (K : PySem.W.Frag) (c : Nat → Addr) (LE : Addr) : Prop where
  e : ∀ i, i < 16 → ExcC K (c i)
  kv : ∀ i, i < 16 → PySem.W.kitOne K (.ref (c i)) (.type "ValueError") = some true
  ex : ∀ i, i < 16 → PySem.W.exmOne K (.ref (c i)) (.ref LE) = some true
  nw : ∀ i, i < 14 → PySem.W.excIn K (c i) PySem.HandSPX.veTail "ValueError.__new__" = true
  kp : ∀ i, i < 16 → PySem.W.keepIn K (.ref (c i)) = true
  ty : ∀ i, i < 16 → PySem.W.typeIn K (.ref (c i)) = some (.type "type")
  ko : ∀ i, i < 16 → ∀ j, j < 16 → PySem.W.kitOne K (.ref (c i)) (.ref (c j)) = some (decide (i = j))
theorem excT_of {K : PySem.W.Frag} {c : Nat → Addr} {LE : Addr} (h : excTB K c LE = true) : ExcT K c LE := by
  have key : ∀ i, i < 16 → excCB K (c i) = true ∧ PySem.W.kitOne K (.ref (c i)) (.type "ValueError") = some true ∧ PySem.W.exmOne K (.ref (c i)) (.ref LE) = some true ∧ (14 ≤ i ∨ PySem.W.excIn K (c i) PySem.HandSPX.veTail "ValueError.__new__" = true) ∧ PySem.W.keepIn K (.ref (c i)) = true ∧
      PySem.W.typeIn K (.ref (c i)) = some (.type "type") ∧ ∀ j, j < 16 → PySem.W.kitOne K (.ref (c i)) (.ref (c j)) = some (decide (i = j)) := fun i hi => by
    have z := List.all_eq_true.mp h i (List.mem_range.mpr hi)
    simp only [Bool.and_eq_true, Bool.or_eq_true, decide_eq_true_eq] at z
    obtain ⟨z1, z2, z3, z4, z5, z6, z7⟩ := z
    exact ⟨z1, z2, z3, z4, z5, z6, fun j hj => of_decide_eq_true (List.all_eq_true.mp z7 j (List.mem_range.mpr hj))⟩
  exact ⟨fun i hi => excC_of (key i hi).1, fun i hi => (key i hi).2.1, fun i hi => (key i hi).2.2.1, fun i hi => (key i (by omega)).2.2.2.1.elim (fun z => absurd z (by omega)) id, fun i hi => (key i hi).2.2.2.2.1, fun i hi => (key i hi).2.2.2.2.2.1, fun i hi => (key i hi).2.2.2.2.2.2⟩
theorem ExcT.rs {X : Cx} {c : Nat → Addr} {LE : Addr} (T : ExcT X.K c LE) {i : Nat} (hi : i < 16) : Raises X (.ref (c i)) := raises_own (T.e i hi).hs (T.ty i hi)
/-! ### xs.count(True) -/
def rCntB (K : PySem.W.Frag) : V → List V → Hp → VK → Prop := fun x xs H Q => ∃ (p : Addr) (bs : List Bool), x = .ref p ∧ xs = [.bl true] ∧ SqL K H p (bs.map V.bl) ∧ Q (.int (bs.count true : Nat)) H
theorem bl_flat : ∀ bs : List Bool, (bs.map V.bl).all flatV = true
  | [] => rfl
  | b :: r => by
    rw [List.map_cons, List.all_cons, bl_flat r]
    rfl
theorem cnt_bl : ∀ {bs : List Bool} {us : List Value}, Vals (bs.map V.bl) us → us.countP (eqU (.bl true)) = bs.count true
  | [], _, .nil => rfl
  | b :: r, _, .cons (b := u) (l₂ := us) ru rt => by
    have e : eqU (.bl true) u = eqV (.bl b) (.bl true) := eqU_of ru rfl
    rw [List.countP_cons, cnt_bl rt, List.count_cons, e]
    cases b <;> rfl
theorem mt_bcount {X : Cx} : MtR X "list.count" (rCntB X.K) := by
  intro pins s σ H x xs v us Q I rx rxs h
  obtain ⟨p, bs, rfl, rfl, hs, q⟩ := h
  cases rx
  obtain ⟨u, rfl, ru⟩ := rxs.one
  obtain ⟨its, rv, ⟨⟨cls, dd, data, sl⟩, n, ho, hc, hdn, hd⟩, hlen⟩ := I.list hs
  simp only at hc hd
  subst hc hd
  refine call_meets PySem.F.slot_list_count ⟨_, ho, rfl⟩ PySem.F.entry_list_count
    (PySem.F.args_list_count_2 _ _) (SeqAt.list_countAt p its.toArray n dd sl u (eqU (.bl true)))
    ⟨ho, fun y hy => mem_eqAt ru rfl rv (bl_flat bs) y (by simpa using hy), ?_⟩
  refine ⟨.int (bs.count true : Nat), H, I.tok _, ⟨s.toks, ?_⟩, q⟩
  show Value.int ((its.toArray.toList.countP (eqU (.bl true)) : Nat) : Int) s.toks = Value.int ((bs.count true : Nat) : Int) s.toks
  rw [List.toList_toArray, cnt_bl rv]
/-! ### what is told of a call -/
def bits (i : Nat) : List Bool := (List.range 16).map fun j => decide (i = j)
def HasXd (d : Option Addr) (H : Hp) : Prop := ∀ dd, d = some dd → ∃ fs, H dd = some (.xd fs)
def spCls (c : Nat → Addr) : Addr → Value → Option Addr → Sp := fun a cls d vs H Q _ => ∃ i, i < 16 ∧ vs = [.ref a] ∧ cls = .ref (c i) ∧ HasXd d H ∧ ∀ H' p, Same H H' → H p = none → H' p = some (.lst ((bits i).map V.bl)) → Q (.ref p) H'
/-- what is wished of a refusal that met catches: told are 'refused' and its number, 'many' and both fields, 'leaned' and the numbers -/
def EMet (c : Nat → Addr) (Q : VK) : XK := fun cls d H => ∃ i, i < 16 ∧ cls = .ref (c i) ∧ HasXd d H ∧
  (i < 14 → ∀ H' p, Same H H' → H p = none → H' p = some (.tup [.str "refused", .int (i : Nat)]) → Q (.ref p) H') ∧
  (i = 14 → ∃ dd fs m n, d = some dd ∧ H dd = some (.xd fs) ∧ fs.lookup ("many" : Str) = some m ∧ fs.lookup ("most" : Str) = some n ∧ ∀ H' p q, Same H H' → H p = none → H' q = some (.tup [m, n]) → H' p = some (.tup [.str "many", .ref q]) → Q (.ref p) H') ∧
  (i = 15 → ∃ dd fs m, d = some dd ∧ H dd = some (.xd fs) ∧ fs.lookup ("numbers" : Str) = some m ∧ ∀ H' p, Same H H' → H p = none → H' p = some (.tup [.str "leaned", m]) → Q (.ref p) H')
/-- what met makes of the lambda's reading -/
def TMet (c : Nat → Addr) : (XK → Hp → VK → Prop) → Hp → VK → Prop := fun tl H Q =>
  tl (EMet c Q) H fun v H1 => 2 ≤ sizeLine ∧ ∀ p, H1 p = none → Q (.ref p) (upd H1 p (.tup [.str "told", v]))

def clsN : List Str := ["NoLayer", "NoWindow", "NoSheet", "NoMoment", "NoRow", "NoNumber", "NoDrawings", "Unlike", "Endless", "Squeezed", "NoPaper", "NoDeed", "NoText", "NoWords", "TooMany", "Leaned"]
structure ExcN (K : PySem.W.Frag) (mg : Str → Option Value) (c : Nat → Addr) (LE : Addr) : Prop extends ExcT K c LE where
  g : ∀ i n, clsN[i]? = some n → mg n = some (.ref (c i))
  gL : mg "LanternError" = some (.ref LE)
  n1 : PySem.W.findIn K (.ref (c 14)) "many" = some none
  n2 : PySem.W.findIn K (.ref (c 14)) "most" = some none
  n3 : PySem.W.findIn K (.ref (c 15)) "numbers" = some none
theorem ExcN.xf {K : PySem.W.Frag} {mg : Str → Option Value} {c : Nat → Addr} {LE : Addr} (T : ExcN K mg c LE) {i : Nat} (hi : i < 16) : XfC K (c i) := ⟨(T.e i hi).hg, (T.e i hi).hk, (T.e i hi).hs, (T.e i hi).hd⟩
structure ClE (P : Program) (w : World) (K : PySem.W.Frag) (mg : Str → Option Value) (base : Heap) (k : Nat) (x : Str) (ps : List Str) (sp : Addr → Value → Option Addr → Sp) : Prop where
  ex : ∃ (f : Addr) (fd : FuncData), FnE P w K mg base k f fd ps sp ∧ PySem.W.keepIn K (.ref f) = true ∧ Binds K fd ps [] ∧ mg x = some (.ref f)
/-- a def that may refuse -/
structure ClX (P : Program) (w : World) (K : PySem.W.Frag) (mg : Str → Option Value) (base : Heap) (k : Nat) (x : Str) (ps : List Str) (sp : Sp) : Prop where
  ex : ∃ (f : Addr) (fd : FuncData), FnOk P w K mg base (L2.CX P w) k f fd ps sp ∧ PySem.W.keepIn K (.ref f) = true ∧ Binds K fd ps [] ∧ mg x = some (.ref f)
section
variable {X : Cx}
theorem pe_gref {x : Str} {pos : Pos} {C : Addr} (hg : Gl X x) (h : X.mg x = some (.ref C)) (hd : (x == ("__debug__" : Str)) = false := by decide) : PE X (.Name x pos) (tC (.ref C)) := pe_glob hg h rfl hd
/-- a built-in's method, the written part told by its letter -/
theorem pe_bmK {K : PySem.W.Frag} {T : String} {name : Str} {id : String} {r : V → List V → Hp → VK → Prop} {o e : Expr} {es : List Expr} {to : TE} {t : TA} {apos cpos : Pos} (pa : PlainAttrs T) (slot : Slot T name id) (hty : typeOf (.builtin id) = pure (.type "method_descriptor")) (hm : MtR X id r) (ho : PE X o to) (ha : PA X (e :: es) t) (hK : X.K = K := by rfl)
    (hbase : attributeBase o name X.env (eval o X.env) = eval o X.env := by rfl)
    (hfew : ((backTo cpos (starEach (e :: es) X.env)).all (fun x => !x.1) && (backToKw cpos (keywordEach [] X.env)).all (fun x => x.1.isSome) && decide ((e :: es).length + ([] : List Keyword).length + (if ([] : List Keyword).isEmpty then 0 else 1) < 30)) = true := by rfl)
    (hline : (apos.endLine == cpos.line) = true := by rfl) (hs : starEach (e :: es) X.env = (false, eval e X.env) :: starEach es X.env := by rfl)
    (hplain : (backTo cpos (starEach es X.env)).any (·.1) = false := by rfl) : PE X (.Call (.Attribute o name apos) (e :: es) [] cpos) (tBM K T r to t) := by
  subst hK
  exact pe_bm pa slot hty hm ho ha hbase hfew hline hs hplain
theorem pe_ownE {k : Nat} {x : Str} {ps : List Str} {sp : Addr → Value → Option Addr → Sp} {a : Addr} {oe : Obj} {cls : Value} {d : Option Addr} {e : Expr} {es : List Expr} {t : TA} {p pos : Pos} (C : ClE X.prog X.w X.K X.mg X.base k x ps sp) (hr : L2H.RoomH k X.A) (hpn : (a, oe) ∈ X.pn) (hz : Zc cls d oe)
    (hfs : ∃ z, oe.data = .fields z) (hg : Gl X x) (ha : PA X (e :: es) t)
    (hdb : (x == ("__debug__" : Str)) = false := by decide) (he : starEach (e :: es) X.env = (false, eval e X.env) :: starEach es X.env := by rfl) (hpl : (backTo pos (starEach es X.env)).any (·.1) = false := by rfl) :
    PE X (.Call (.Name x p) (e :: es) [] pos) (fun σ H Q => t σ H fun vs H1 => sp a cls d vs H1 Q E0) := by
  obtain ⟨f, fd, F, hk, hb, hm⟩ := C.ex
  exact pe_callE F hr hpn hz hfs hg hm hk hb ha hdb he hpl
/-- f(e, ..), f may refuse: E is wished of what it lets out -/
theorem pe_ownX {k : Nat} {x : Str} {ps : List Str} {sp : Sp} {W : WX} {e : Expr} {es : List Expr} {t : TA} {p pos : Pos} (C : ClX X.prog X.w X.K X.mg X.base k x ps sp) (hr : Room k X.A) (tk : Takes X W) (hg : Gl X x) (ha : PA X (e :: es) t)
    (hdb : (x == ("__debug__" : Str)) = false := by decide) (he : starEach (e :: es) X.env = (false, eval e X.env) :: starEach es X.env := by rfl) (hpl : (backTo pos (starEach es X.env)).any (·.1) = false := by rfl) :
    PE X (.Call (.Name x p) (e :: es) [] pos) (tCallS sp (WE W) t) := by
  obtain ⟨f, fd, F, hk, hb, hm⟩ := C.ex
  exact pe_callS F hr hg hm hk hb (fun σ => passAt tk σ) ha hdb he hpl
def rIsQ (K : PySem.W.Frag) (c : Nat → Addr) (a : Addr) (cls : Value) (d : Option Addr) : List V → Hp → VK → Prop := fun xs H Q => ∃ i, i < 16 ∧ cls = .ref (c i) ∧ rIsP K (c i) a d xs H Q
theorem call_isQ {K : PySem.W.Frag} {c : Nat → Addr} {LE a : Addr} {oe : Obj} {cls : Value} {d : Option Addr} (T : ExcT K c LE) (hpn : (a, oe) ∈ X.pn) (hz : Zc cls d oe) (hfs : ∃ z, oe.data = .fields z) (hK : X.K = K := by rfl) : CallR X (.builtin "isinstance") (rIsQ K c a cls d) := by
  subst hK
  intro pins s σ H xs us Q I r h
  obtain ⟨i, hi, rfl, h⟩ := h
  exact call_isP hpn (T.e i hi) hz hfs pins s σ H xs us Q I r h
/-- what a met def must have: its place, its text -/
structure MetF (X : Cx) (x a : Str) (TT : (XK → Hp → VK → Prop) → Hp → VK → Prop) : Prop where
  ex : ∃ (g : Addr) (pg : Arguments) (bg : List Stmt) (sg : Scope) (kV doc pm cdv ct oc : Value) (an od : Option Addr) (osl : Array (Option Value)) (Ng : List Str), X.mg x = some (.ref g) ∧ PySem.W.keepIn X.K (.ref g) = true ∧
    X.K.lookup g = some ⟨oc, od, .func (PySem.W.fnOf x x pg bg sg .none kV doc pm an cdv ct), osl⟩ ∧ PySem.W.codeIn X.K cdv x = true ∧ L2.Binds X.K (PySem.W.fnOf x x pg bg sg .none kV doc pm an cdv ct) [a] [] ∧ FnScope Ng [a] sg ∧ Ng[0]? = some a ∧ Vis sg a ∧
    LamX.GivesTo X Ng x sg g cdv bg a (X.env.qual ++ "<lambda>") TT
/-- x(lambda: body) -/
theorem pe_met {T : List (Addr × Str)} {TT : (XK → Hp → VK → Prop) → Hp → VK → Prop} {x a : Str} {c P : Addr} {k : Nat} {params : Arguments} {body : Expr} {scope : Scope} {t : XK → TE} {p lpos pos : Pos} (M : MetF X x a TT) (hg : Gl X x)
    (TB : LamX.TabB X.base X.mg c P) (hcode : X.env.code = .ref c) (hmT : (P, X.env.qual ++ "<lambda>") ∈ T) (hu : ∀ p ∈ T, p.1 = P → p.2 = X.env.qual ++ "<lambda>") (hr : Room (k + 2) X.A) (L : LamX.LamS X.env.scope scope)
    (hbody : ∀ (A : Around) (outer : List Env) (s : Shared) (H : Hp) (E : XK) (f c' : Addr), Room k (A.deeper (LamX.lamEnv X scope s.heap.objs.size f c')) → PE (LamX.lamCx X A outer s H E scope f c') body (t E))
    (hdef : defaultsOf params X.env = ([], []) := by rfl)
    (hbind : ∀ (q : Str) (cl : List (Str × Addr)) (pm cv ctv : Value), bindArgs (PySem.W.kla_fn "<lambda>" q params body scope cl pm cv ctv) ⟨[], []⟩ = pure [] := by intros; rfl)
    (hdb : (x == ("__debug__" : Str)) = false := by decide) (hd : (a == ("__debug__" : Str)) = false := by decide) (hcd : (a == ("__classdict__" : Str)) = false := by decide) :
    PE X (.Call (.Name x p) [.Lambda params body scope lpos] [] pos) (LamX.tLam T TT t) := by
  obtain ⟨g, pg, bg, sg, kV, doc, pm, cdv, ct, oc, an, od, osl, Ng, hm, hk, lk, hcg, hb, Sg, hNg, hva, hG⟩ := M.ex
  exact LamX.pe_lamcall hg hm hk lk hcg hb Sg hNg hva hG TB hcode hmT hu hr L hdef hbind hbody hdb hd hcd
end
/-! ### the end of a law that makes lambdas -/
def TabsIn (q : Program) (K : PySem.W.Frag) (h : Heap) : Prop := ∀ (x : Str) (c P : Addr), ((recsOf q).find? fun e => e.name == x).isSome = true → PySem.W.tabIn K x = some (c, P) → PySem.W.CodeHd h c P ∧ h.get? P = some { cls := .none, data := .fields #[] }
theorem walk_ofL {l : PySem.W.OpenLaw} {n k : Nat} {q : Program} {loose : List Str} {XP : (Str → Option Value) → Heap → Prop} {YP : World → Heap → Prop} {d : DefRec} {K : Params → PySem.W.Frag} {x : Str}
    (hn : l.most = some n) (hn2 : n ≤ sizeLine) (hdf : d.params.defaults = []) (hr : Room k callerA) (hY : ∀ (w : World) (h : Heap), YP w h → (K w.params).In h)
    (F : ∀ (w : World) (mg : Str → Option Value) (fa : Addr) (h : Heap), (K w.params).In h → h.Ns mainGlobals mg → mg d.name = some (.ref fa) → TabsIn q (K w.params) h → LamX.LawAtS l w (K w.params) CX0 k n x mg fa h) :
    PySem.W.WalkO q loose XP YP l.row.toRowW d [] (fun f vs => PySem.call f vs) := by
  refine Att.attach_callB hn hdf
    fun w s₀ s₁ mg mb fa o pm cd doc a vs ns G Y ho hd hcd hmg hobj hints hlen hbits hg => ?_
  have hK := hY w _ Y
  have tabs : TabsIn q (K w.params) s₁.heap := fun y c P hf ht => by
    obtain ⟨dL, hfd⟩ := Option.isSome_iff_exists.mp hf
    exact PySem.W.tab_of G.T hK hfd ht
  obtain ⟨fd, cs, sp, hT, nT, C, hb, hsp, hF⟩ := F w mg fa _ hK G.T.g hmg tabs
  exact LamX.law_callTs hK G.T.g G.T.b G.T.builtins G.T.nolimit hg hT nT C G.T.bmain hobj hints
    (Nat.le_trans hlen hn2) hr hF hb (fun H hH hS => hsp H a ns hlen hbits hH hS) fun H e s' z => z

def qLam (x : Str) : Str := x ++ ".<locals>." ++ "<lambda>"
/-- as Fun, its code object told -/
structure FunC (K : PySem.W.Frag) (x qual : Str) (st : Stmt) (f : Addr) (fd : FuncData) (cc : Addr) : Prop where
  ex : ∃ (oc : Value) (od : Option Addr) (kV doc pm : Value) (an : Option Addr) (ct : Value) (osl : Array (Option Value)),
    fd = PySem.W.fnOf x qual (defArgs st) (defBody st) (defScope st) .none kV doc pm an (.ref cc) ct ∧ K.lookup f = some ⟨oc, od, .func fd, osl⟩ ∧ PySem.W.codeIn K (.ref cc) qual = true
theorem funC_mk {K : PySem.W.Frag} {x qual : Str} {st : Stmt} {f cc : Addr} {oc : Value} {od an : Option Addr} {osl : Array (Option Value)} {kV doc pm ct : Value} (l : K.lookup f = some ⟨oc, od, .func (PySem.W.fnOf x qual (defArgs st) (defBody st) (defScope st) .none kV doc pm an (.ref cc) ct), osl⟩)
    (c : PySem.W.codeIn K (.ref cc) qual = true) : FunC K x qual st f (PySem.W.fnOf x qual (defArgs st) (defBody st) (defScope st) .none kV doc pm an (.ref cc) ct) cc := ⟨⟨oc, od, kV, doc, pm, an, ct, osl, rfl, l, c⟩⟩
/-- what a maker of lambdas has: its table at PP among the tables TS -/
structure Mkr (base : Heap) (mg : Str → Option Value) (cc PP : Addr) (x : Str) (TS : List (Addr × Str)) : Prop where
  tb : LamX.TabB base mg cc PP
  hm : (PP, qLam x) ∈ TS
  hu : ∀ p ∈ TS, p.1 = PP → p.2 = qLam x
section
variable {P : Program} {w : World} {K : PySem.W.Frag} {mg : Str → Option Value} {base : Heap}
theorem fun_okL {x qual : Str} {st : Stmt} {f cc : Addr} {fd : FuncData} {N ps : List Str} {k : Nat} {sp : Sp} (F : FunC K x qual st f fd cc) (S : FnScope N ps (defScope st)) (ln : ∀ vs H Q E, sp vs H Q E → vs.length = ps.length)
    (hbody : ∀ (A : Around) (outer : List Env) (s : Shared) (H : Hp) (vs : List V) (Q : VK) (E : XK), Room k (A.deeper (envOfC qual (defScope st) s.heap.objs.size f (.ref cc))) → sp vs H Q E →
      ∃ t, PSs (cxOf CX0 P w K mg base N qual (defScope st) f (.ref cc) A outer s H E).nox (defBody st) t ∧ t { nx := fun _ H' => Q .non H', rt := Q } (L2.start N vs) H) : FnOk P w K mg base CX0 (k + 1) f fd ps sp := by
  obtain ⟨oc, od, kV, doc, pm, an, ct, osl, rfl, lk, hcd⟩ := F.ex
  refine fn_of lk hcd S ln fun A outer s H vs Q E hr hsp => ?_
  obtain ⟨t, ht, hq⟩ := hbody A outer s H vs Q E hr hsp
  exact ⟨t, ht.nox, hq⟩
end
/-! ### the state of the later laws; what stands but the state and the tables -/
def IsSx (H : Hp) (st : Addr) : Prop := ∃ (a : Int) (b : Bool), H st = some (.lst [.int a, .bl b]) ∧ 0 ≤ a ∧ (b = false → a < 2147483647)
def Gx (st : Addr) (H H' : Hp) : Prop := (∀ b o, b ≠ st → (∀ ps, o ≠ .tbl ps) → H b = some o → H' b = some o) ∧ (IsSx H st → IsSx H' st) ∧ ∀ T, LamX.Tabs T H → LamX.Tabs T H'
theorem Gx.refl {st : Addr} {H : Hp} : Gx st H H := ⟨fun _ _ _ _ h => h, id, fun _ h => h⟩
theorem Gx.trans {st : Addr} {H H1 H2 : Hp} (a : Gx st H H1) (b : Gx st H1 H2) : Gx st H H2 := ⟨fun c o n z h => b.1 c o n z (a.1 c o n z h), fun h => b.2.1 (a.2.1 h), fun T h => b.2.2 T (a.2.2 T h)⟩
theorem gx_same {st : Addr} {H H' : Hp} (s : Same H H') : Gx st H H' := ⟨fun b o _ _ h => s b o h, fun ⟨a, b, h, r⟩ => ⟨a, b, s _ _ h, r⟩, fun T h => h.ext s⟩
theorem lst_tbl {xs : List V} : ∀ ps, HO.lst xs ≠ .tbl ps := fun ps z => by cases z
theorem tup_tbl {xs : List V} : ∀ ps, HO.tup xs ≠ .tbl ps := fun ps z => by cases z
theorem tabs_lst {T : List (Addr × Str)} {H : Hp} {D : Addr} {xs ys : List V} (e : H D = some (.lst xs)) (h : LamX.Tabs T H) : LamX.Tabs T (upd H D (.lst ys)) := fun p hp => by
  obtain ⟨ps, h1, h2, h3⟩ := h p hp
  refine ⟨ps, ?_, h2, fun pos cv hc => ?_⟩
  · rw [upd_ne (ne_of h1 e (by intro z; cases z))]
    exact h1
  · obtain ⟨c0, e1, e2⟩ := h3 pos cv hc
    refine ⟨c0, e1, ?_⟩
    rw [upd_ne (ne_of e2 e (by intro z; unfold LamX.CodeO at z; cases z))]
    exact e2
theorem gx_ext {st : Addr} {H H' : Hp} (e : LamX.ExtN H H') (t : ∀ T, LamX.Tabs T H → LamX.Tabs T H') : Gx st H H' := ⟨fun b o _ z h => e b o h z, fun ⟨a, b, h, r⟩ => ⟨a, b, e _ _ h lst_tbl, r⟩, t⟩
theorem Gx.sqT {st : Addr} {K : PySem.W.Frag} {H H' : Hp} {a : Addr} {xs : List V} (g : Gx st H H') (s : IsSx H st) (h : SqT K H a xs) : SqT K H' a xs := by
  obtain ⟨u, v, hs, _⟩ := s
  rcases h with (h | ⟨o, h⟩) | h
  · exact .inl (.inl (g.1 _ _ (ne_of h hs (by intro z; cases z)) tup_tbl h))
  · exact .inl (.inr ⟨o, g.1 _ _ (ne_of h hs (by intro z; cases z)) (fun ps z => by cases z) h⟩)
  · exact .inr h
theorem Gx.tk {st : Addr} {K : PySem.W.Frag} {H H' : Hp} (g : Gx st H H') (s : IsSx H st) : TKeep K H H' := fun _ _ h => g.sqT s h
/-- what stood before the law's state was made -/
theorem Gx.sqL {st : Addr} {K : PySem.W.Frag} {H H' : Hp} {a : Addr} {xs : List V} (g : Gx st H H') (n : a ≠ st) (h : SqL K H a xs) : SqL K H' a xs := by
  rcases h with (h | ⟨o, h⟩) | h
  · exact .inl (.inl (g.1 _ _ n lst_tbl h))
  · exact .inl (.inr ⟨o, g.1 _ _ n (fun ps z => by cases z) h⟩)
  · exact .inr h
theorem sx_ne {H : Hp} {st p : Addr} (s : IsSx H st) (h : H p = none) : p ≠ st := by
  obtain ⟨a, b, e, _⟩ := s
  exact fun z => by rw [z, e] at h; cases h
theorem gx_set {st : Addr} {H : Hp} {a : Int} {b : Bool} {xs : List V} (e : H st = some (.lst xs)) (h0 : 0 ≤ a) (h1 : b = false → a < 2147483647) : Gx st H (upd H st (.lst [.int a, .bl b])) :=
  ⟨fun c o n _ h => by rw [upd_ne n]; exact h, fun _ => ⟨a, b, upd_same, h0, h1⟩, fun T h => tabs_lst e h⟩
theorem gx_upd {st D : Addr} {H0 H : Hp} {xs : List V} (g : Gx st H0 H) (n0 : H0 D = none) (nD : D ≠ st) (eD : H D = some (.lst xs)) (ys : List V) : Gx st H0 (upd H D (.lst ys)) :=
  ⟨fun b o n z h => by rw [upd_ne (ne_of_none h n0)]; exact g.1 b o n z h, fun s => by
    obtain ⟨a, b, e, r⟩ := g.2.1 s
    exact ⟨a, b, by rw [upd_ne (Ne.symm nD)]; exact e, r⟩, fun T h => tabs_lst eD (g.2.2 T h)⟩
/-- the same with the law's own tables alone -/
def Gw (TS : List (Addr × Str)) (st : Addr) (H H' : Hp) : Prop := (∀ b o, b ≠ st → (∀ ps, o ≠ .tbl ps) → H b = some o → H' b = some o) ∧ (IsSx H st → IsSx H' st) ∧ (LamX.Tabs TS H → LamX.Tabs TS H')
theorem Gw.refl {TS : List (Addr × Str)} {st : Addr} {H : Hp} : Gw TS st H H := ⟨fun _ _ _ _ h => h, id, id⟩
theorem Gw.trans {TS : List (Addr × Str)} {st : Addr} {H H1 H2 : Hp} (a : Gw TS st H H1) (b : Gw TS st H1 H2) : Gw TS st H H2 := ⟨fun c o n z h => b.1 c o n z (a.1 c o n z h), fun h => b.2.1 (a.2.1 h), fun h => b.2.2 (a.2.2 h)⟩
theorem Gx.l {TS : List (Addr × Str)} {st : Addr} {H H' : Hp} (g : Gx st H H') : Gw TS st H H' := ⟨g.1, g.2.1, g.2.2 TS⟩
theorem gw_same {TS : List (Addr × Str)} {st : Addr} {H H' : Hp} (s : Same H H') : Gw TS st H H' := (gx_same s).l
theorem gw_ext {TS : List (Addr × Str)} {st : Addr} {H H' : Hp} (e : LamX.ExtN H H') (t : LamX.Tabs TS H') : Gw TS st H H' := ⟨fun b o _ z h => e b o h z, fun ⟨a, b, h, r⟩ => ⟨a, b, e _ _ h lst_tbl, r⟩, fun _ => t⟩
theorem Gw.tk {TS : List (Addr × Str)} {st : Addr} {K : PySem.W.Frag} {H H' : Hp} (g : Gw TS st H H') (s : IsSx H st) : TKeep K H H' := fun a xs h => by
  obtain ⟨u, v, hs, _⟩ := s
  rcases h with (h | ⟨o, h⟩) | h
  · exact .inl (.inl (g.1 _ _ (ne_of h hs (by intro z; cases z)) tup_tbl h))
  · exact .inl (.inr ⟨o, g.1 _ _ (ne_of h hs (by intro z; cases z)) (fun ps z => by cases z) h⟩)
  · exact .inr h
theorem ExtN.tk {K : PySem.W.Frag} {H H' : Hp} (e : LamX.ExtN H H') : TKeep K H H' := fun a xs h => by
  rcases h with (h | ⟨o, h⟩) | h
  · exact .inl (.inl (e _ _ h tup_tbl))
  · exact .inl (.inr ⟨o, e _ _ h (fun ps z => by cases z)⟩)
  · exact .inr h
/-- what stands in a law between two of its states -/
structure Go (TS : List (Addr × Str)) (H H' : Hp) : Prop where
  e : LamX.ExtN H H'
  t : LamX.Tabs TS H'
theorem Go.sqL {TS : List (Addr × Str)} {K : PySem.W.Frag} {H H' : Hp} {a : Addr} {xs : List V} (g : Go TS H H') (h : SqL K H a xs) : SqL K H' a xs := by
  rcases h with (h | ⟨o, h⟩) | h
  · exact .inl (.inl (g.e _ _ h lst_tbl))
  · exact .inl (.inr ⟨o, g.e _ _ h (fun ps z => by cases z)⟩)
  · exact .inr h
theorem Gw.go {TS : List (Addr × Str)} {st : Addr} {H0 H H1 H2 : Hp} (g : Gw TS st H1 H2) (o : Go TS H0 H) (s : Same H H1) (n : H st = none) : Go TS H0 H2 :=
  ⟨fun b u h z => g.1 b u (ne_of_none (o.e b u h z) n) z (s _ _ (o.e b u h z)), g.2.2 (o.t.ext s)⟩

/-! ### refusals with fields -/
def clsB (s : Stmt) (i : Nat) : Stmt := match s with
  | .ClassDef _ _ _ b _ _ _ _ _ _ _ => b.getD i (.Pass ⟨0, 0, 0, 0⟩)
  | _ => .Pass ⟨0, 0, 0, 0⟩
/-- the class at C is made by its own __init__, which keeps sp -/
structure IniT (P : Program) (w : World) (K : PySem.W.Frag) (mg : Str → Option Value) (base : Heap) (C : Addr) (n : Nat) (sp : Sp) : Prop where
  ex : ∃ (fI : Addr) (fd : FuncData) (ps : List Str), OexC K C ∧ PySem.W.findIn K (.ref C) "__init__" = some (some (.ref fI)) ∧ PySem.W.typeIn K (.ref fI) = some (.type "function") ∧ FnOk P w K mg base CX0 1 fI fd ps sp ∧ Binds K fd ps []
theorem pmk_init {X : Cx} {C : Addr} {n : Nat} {sp : Sp} {x : Str} {e : Expr} {es : List Expr} {ta : TA} {p pos : Pos} (I : IniT X.prog X.w X.K X.mg X.base C n sp) (hr : Room 2 X.A) (hg : Gl X x) (hm : X.mg x = some (.ref C)) (ha : PA X (e :: es) ta)
    (hdb : (x == ("__debug__" : Str)) = false := by decide) (he : starEach (e :: es) X.env = (false, eval e X.env) :: starEach es X.env := by rfl) (hpl : (backTo pos (starEach es X.env)).any (·.1) = false := by rfl) :
    PMk X (.Call (.Name x p) (e :: es) [] pos) (tMkO C sp [] ta) := by
  obtain ⟨fI, fd, ps, o, i, t, F, b⟩ := I.ex
  exact pmk_oex o i t F hr b .nil pass0 hg hm ha hdb he hpl
/-- a wish may lean on how many slots there are -/
theorem takes_len {X : Cx} {W : WX} (tk : Takes X W) : Takes X (fun cls d σ H => σ.length = X.N.length → W cls d σ H) := fun u s' ⟨a, B, sI, pins, σ, H, cls, d, e, I, nb, up, sky, na, os, ag, hw⟩ =>
  tk u s' ⟨a, B, sI, pins, σ, H, cls, d, e, I, nb, up, sky, na, os, ag, hw I.len⟩
theorem HasXd.sm {d : Option Addr} {H H' : Hp} (h : HasXd d H) (s : Same H H') : HasXd d H' := fun dd e => by
  obtain ⟨fs, hf⟩ := h dd e
  exact ⟨fs, s _ _ hf⟩
theorem bits_count (i : Nat) (h : i < 16) : (bits i).count true = 1 := by
  have : ∀ i, i < 16 → (bits i).count true = 1 := by decide
  exact this i h
theorem bits_at (i j : Nat) (h : j < 16) : ((bits i).map V.bl)[j]? = some (.bl (decide (i = j))) := by
  unfold bits
  rw [List.map_map, List.getElem?_map, List.getElem?_range h]
  rfl
theorem run_ex {X : Cx} {st : List Stmt} {pins : List (Addr × Obj)} {s : Shared} {σ : L2.St} {H : Hp} {D : Ends} (h : ∃ t, PSs X st t ∧ t D σ H) (I : Inv X pins σ H s) :
    wpAny (model X.prog X.w) X.A (execs st X.env) (SP X pins D) X.xe s := by
  obtain ⟨t, h1, h2⟩ := h
  exact h1.run pins s σ H D I h2

theorem sl_any {K : PySem.W.Frag} {H : Hp} {a : Addr} {xs : List V} {lo hi : Option Int} {R : VK} (hS : SqT K H a xs) (h : ∀ H' p, Same H H' → SqT K H' p (cutV xs lo hi) → R (.ref p) H') : rSlA K (.ref a) lo hi H R :=
  ⟨a, xs, rfl, hS, fun w => h H a (Same.refl _) (by rw [cut_whole w]; exact hS), fun _ p np => h _ p (same_upd np) (.inl (.inl upd_same))⟩
theorem cat_any {K : PySem.W.Frag} {H : Hp} {a b : Addr} {xs ys : List V} {R : VK} (ha : SqT K H a xs) (hb : SqT K H b ys) (hz : xs.length + ys.length ≤ 1000) (h : ∀ H' p, Same H H' → SqT K H' p (xs ++ ys) → R (.ref p) H') : rCatA K (.ref a) (.ref b) H R :=
  ⟨a, b, xs, ys, rfl, rfl, ha, hb, Nat.le_of_lt (small1000 hz), fun e => h H b (Same.refl _) (by rw [e]; exact hb), fun _ e => h H a (Same.refl _) (by rw [e, List.append_nil]; exact ha), fun _ _ p np => h _ p (same_upd np) (.inl (.inl upd_same))⟩
theorem Sd.st {k : Nat} {x : Str} (h : PyData.strOk x = true) : Sd k (.str x) := ⟨h, Nat.zero_le _⟩
theorem sd_mv (m : MV) : Sd 1 (mvD m) := Sd.tup fun e he => by
  rcases mem3 he with rfl | rfl | rfl <;> exact Sd.int _
theorem sd_bk (o : Option Int) : Sd 0 (bkD o) := by
  cases o with
  | none => exact Sd.none
  | some i => exact Sd.int i
theorem sd_ly (l : LY) : Sd 3 (lyD l) := Sd.tup fun e he => by
  rcases mem2 he with rfl | rfl
  · exact Sd.tup fun z hz => by
      obtain ⟨r, _, rfl⟩ := List.mem_map.mp hz
      exact sd_rw r
  · exact (sd_bk _).more (by omega)
theorem sd_win (x y : Int) (ms : List MV) : Sd 3 (winD x y ms) := Sd.tup fun e he => by
  rcases mem3 he with rfl | rfl | rfl
  · exact Sd.int _
  · exact Sd.int _
  · exact Sd.tup fun z hz => by
      obtain ⟨m, _, rfl⟩ := List.mem_map.mp hz
      exact sd_mv m
theorem sd_sh (ls : List LY) (x y : Int) (ms : List MV) : Sd 5 (shD ls x y ms) := Sd.tup fun e he => by
  rcases mem2 he with rfl | rfl
  · exact Sd.tup fun z hz => by
      obtain ⟨l, _, rfl⟩ := List.mem_map.mp hz
      exact sd_ly l
  · exact (sd_win x y ms).more (by omega)
/-- what met tells, as data -/
def toldD (d : PyData) : PyData := .tuple [.str "told", d]
def refD (i : Int) : PyData := .tuple [.str "refused", .int i]
def manyD (m n : Int) : PyData := .tuple [.str "many", .tuple [.int m, .int n]]
theorem sd_told {k : Nat} {d : PyData} (h : Sd k d) : Sd (k + 1) (toldD d) := Sd.tup fun e he => by
  rcases mem2 he with rfl | rfl
  · exact Sd.st (by decide +kernel)
  · exact h
theorem sd_ref (i : Int) : Sd 1 (refD i) := Sd.tup fun e he => by
  rcases mem2 he with rfl | rfl
  · exact Sd.st (by decide +kernel)
  · exact Sd.int i
theorem sd_many (m n : Int) : Sd 2 (manyD m n) := Sd.tup fun e he => by
  rcases mem2 he with rfl | rfl
  · exact Sd.st (by decide +kernel)
  · exact Sd.tup fun z hz => by rcases mem2 hz with rfl | rfl <;> exact Sd.int _
theorem told_dp {K : PySem.W.Frag} {H : Hp} {p : Addr} {v : V} {d : PyData} (h : SqT K H p [.str "told", v]) (hv : Dp K H v d) : Dp K H (.ref p) (toldD d) := .tup h (.cons (.str _) (.cons hv .nil))
theorem ref_dp {K : PySem.W.Frag} {H : Hp} {p : Addr} {i : Int} (h : SqT K H p [.str "refused", .int i]) : Dp K H (.ref p) (refD i) := .tup h (.cons (.str _) (.cons (.int i) .nil))
theorem many_dp {K : PySem.W.Frag} {H : Hp} {p q : Addr} {m n : Int} (h : SqT K H p [.str "many", .ref q]) (hq : SqT K H q [.int m, .int n]) : Dp K H (.ref p) (manyD m n) := .tup h (.cons (.str _) (.cons (.tup hq (.cons (.int m) (.cons (.int n) .nil))) .nil))
/-- != of two things of the same data -/
theorem ne_eqd {K : PySem.W.Frag} {H : Hp} {x y : V} {d : PyData} {Q : VK} (hx : Dp K H x d) (hy : Dp K H y d) (sd : ∃ k, Sd k d ∧ k ≤ 64) (q : Q (.bl false) H) : rNeD K x y H Q := by
  obtain ⟨k, s, hk⟩ := sd
  exact ne_same hx hy s hk q
/-- data that stands as long as the tuples do -/
def Dk (K : PySem.W.Frag) (H : Hp) (v : V) (d : PyData) : Prop := ∀ H', TKeep K H H' → Dp K H' v d
theorem Dk.keep {K : PySem.W.Frag} {H H' : Hp} {v : V} {d : PyData} (h : Dk K H v d) (k : TKeep K H H') : Dk K H' v d := fun H2 k2 => h H2 fun a xs z => k2 _ _ (k _ _ z)
theorem Dk.dp {K : PySem.W.Frag} {H : Hp} {v : V} {d : PyData} (h : Dk K H v d) : Dp K H v d := h H fun _ _ z => z
theorem ShAt.dk {K : PySem.W.Frag} {H : Hp} {v : V} {ls : List LY} {x y : Int} {ms : List MV} (h : ShAt K H v ls x y ms) : Dk K H v (shD ls x y ms) := fun H' k => (h.keep k).dp
theorem LyAt.dk {K : PySem.W.Frag} {H : Hp} {v : V} {l : LY} (h : LyAt K H v l) : Dk K H v (lyD l) := fun H' k => (LyAt.keep k h).dp
theorem told_dk {K : PySem.W.Frag} {H : Hp} {p : Addr} {v : V} {d : PyData} (h : SqT K H p [.str "told", v]) (hv : Dk K H v d) : Dk K H (.ref p) (toldD d) := fun H' k => told_dp (k _ _ h) (hv H' k)
theorem ref_dk {K : PySem.W.Frag} {H : Hp} {p : Addr} {i : Int} (h : SqT K H p [.str "refused", .int i]) : Dk K H (.ref p) (refD i) := fun H' k => ref_dp (k _ _ h)
theorem many_dk {K : PySem.W.Frag} {H : Hp} {p q : Addr} {m n : Int} (h : SqT K H p [.str "many", .ref q]) (hq : SqT K H q [.int m, .int n]) : Dk K H (.ref p) (manyD m n) := fun H' k => many_dp (k _ _ h) (k _ _ hq)
theorem pi_listK {X : Cx} {K : PySem.W.Frag} {tg l : Expr} {tl : TE} (hl : PE X l tl) (hK : X.K = K := by rfl) : PI X tg l (iList K tl) := by
  subst hK
  exact pi_list hl
theorem pi_tupK {X : Cx} {K : PySem.W.Frag} {tg l : Expr} {tl : TE} (hl : PE X l tl) (hK : X.K = K := by rfl) : PI X tg l (iTup K tl) := by
  subst hK
  exact pi_tup hl
/-- is not, of two truths -/
theorem op_notB {X : Cx} : OpR X (compareOp .IsNot) (fun x y H Q => ∃ a b, x = .bl a ∧ y = .bl b ∧ Q (.bl (!decide (a = b))) H) := by
  intro pins s σ H x y v u Q I rx ry h
  obtain ⟨a, b, rfl, rfl, q⟩ := h
  cases rx
  cases ry
  show wpAny _ _ ((isSame (Value.bool a) (Value.bool b)) >>= fun z => pure (Value.bool (!z))) _ _ s
  exact wpAny_bind (wpAny_isSame_plain rfl (wpAny_pure (fin_bl I q (by cases a <;> cases b <;> rfl))))

/-! ### lengths -/
def lenL (l : LY) : Option Int := match l.2 with
  | none => some (tot l.1)
  | some _ => none
/-- r is the length of a sheet -/
def ShLen (ls : List LY) (last : Int) (r : Option Int) : Prop :=
  ((∃ l ∈ ls, lenL l = none) ∧ r = none) ∨ ((∀ l ∈ ls, lenL l = some (tot l.1)) ∧ ∃ m, r = some m ∧ m ∈ ls.map (fun l => tot l.1) ++ [last] ∧ ∀ y ∈ ls.map (fun l => tot l.1) ++ [last], y ≤ m)
theorem ShLen.uniq {ls : List LY} {last : Int} {r q : Option Int} (a : ShLen ls last r) (b : ShLen ls last q) : r = q := by
  rcases a with ⟨⟨l, hl, e⟩, rfl⟩ | ⟨h, m, rfl, hm, hx⟩
  · rcases b with ⟨_, rfl⟩ | ⟨h, _⟩
    · rfl
    · rw [h l hl] at e
      cases e
  · rcases b with ⟨⟨l, hl, e⟩, rfl⟩ | ⟨_, m', rfl, hm', hx'⟩
    · rw [h l hl] at e
      cases e
    · have := hx m' hm'
      have := hx' m hm
      congr 1
      omega
theorem bk_flat (o : Option Int) : flatV (bkV o) = true := by
  cases o <;> rfl
theorem in_ends (ls : List LY) : inV .non (ls.map fun l => bkV (lenL l)) = true ↔ ∃ l ∈ ls, lenL l = none := by
  unfold inV
  rw [List.any_eq_true]
  constructor
  · rintro ⟨y, hy, e⟩
    obtain ⟨l, hl, rfl⟩ := List.mem_map.mp hy
    refine ⟨l, hl, ?_⟩
    cases z : lenL l with
    | none => rfl
    | some i =>
      rw [z] at e
      cases e
  · rintro ⟨l, hl, e⟩
    exact ⟨_, List.mem_map.mpr ⟨l, hl, rfl⟩, by rw [e]; rfl⟩
theorem all_ints {ls : List LY} (h : ¬ ∃ l ∈ ls, lenL l = none) : (∀ l ∈ ls, lenL l = some (tot l.1)) ∧ (ls.map fun l => bkV (lenL l)) = (ls.map fun l => tot l.1).map V.int := by
  have h1 : ∀ l ∈ ls, lenL l = some (tot l.1) := fun l hl => by
    cases z : l.2 with
    | none =>
      unfold lenL
      rw [z]
    | some i =>
      exact absurd ⟨l, hl, by unfold lenL; rw [z]⟩ h
  refine ⟨h1, ?_⟩
  rw [List.map_map]
  exact List.map_congr_left fun l hl => by rw [h1 l hl]; rfl

/-! ### runs of like drawings -/
def rstep (rs : List RW) (d : Int) : List RW := match rs.getLast? with
  | some r => if r.1 = d then rs.dropLast ++ [(d, r.2 + 1)] else rs ++ [(d, 1)]
  | none => [(d, 1)]
def runs (xs : List Int) : List RW := xs.foldl rstep []
theorem runs_snoc (xs : List Int) (d : Int) : runs (xs ++ [d]) = rstep (runs xs) d := by
  unfold runs
  rw [List.foldl_append]
  rfl
theorem rstep_nil (d : Int) : rstep [] d = [(d, 1)] := rfl
theorem rstep_snoc (rs : List RW) (r : RW) (d : Int) : rstep (rs ++ [r]) d = if r.1 = d then rs ++ [(d, r.2 + 1)] else (rs ++ [r]) ++ [(d, 1)] := by
  unfold rstep
  rw [List.getLast?_append]
  show (if r.1 = d then (rs ++ [r]).dropLast ++ [(d, r.2 + 1)] else rs ++ [r] ++ [(d, 1)]) = _
  rw [List.dropLast_concat]
theorem snoc_cases {α : Type} (xs : List α) : xs = [] ∨ ∃ ys y, xs = ys ++ [y] := by
  rcases List.eq_nil_or_concat xs with h | ⟨ys, y, h⟩
  · exact .inl h
  · exact .inr ⟨ys, y, by rw [h, List.concat_eq_append]⟩
theorem snoc_ind {α : Type} {P : List α → Prop} (h0 : P []) (h1 : ∀ xs x, P xs → P (xs ++ [x])) : ∀ xs, P xs := fun xs => by
  have : ∀ n (xs : List α), xs.length = n → P xs := fun n => by
    induction n with
    | zero => intro xs h; rw [List.length_eq_zero_iff.mp h]; exact h0
    | succ n ih =>
      intro xs h
      rcases snoc_cases xs with rfl | ⟨ys, y, rfl⟩
      · simp at h
      · refine h1 _ _ (ih _ ?_)
        rw [List.length_append] at h
        simpa using h
  exact this _ xs rfl
theorem dwg_one (d : Int) (n : Int) : dwg [(d, n)] = List.replicate n.toNat d := by
  show List.replicate n.toNat d ++ [] = _
  rw [List.append_nil]
/-- what runs are -/
structure RunsOk (xs : List Int) (rs : List RW) : Prop where
  all : dwg rs = xs
  pos : ∀ r ∈ rs, 1 ≤ r.2 ∧ r.1 ∈ xs
  lst : ∀ ys y, xs = ys ++ [y] → ∃ qs r, rs = qs ++ [r] ∧ r.1 = y
theorem runs_ok : ∀ xs : List Int, RunsOk xs (runs xs) := by
  refine snoc_ind ⟨rfl, (fun r hr => by cases hr), (fun ys y h => by simp at h)⟩ fun xs d ih => ?_
  rw [runs_snoc]
  rcases snoc_cases (runs xs) with h | ⟨qs, r, h⟩
  · have hx : xs = [] := by
      have := ih.all
      rw [h] at this
      exact this.symm
    subst hx
    rw [h, rstep_nil]
    refine ⟨by rw [dwg_one]; rfl, fun r hr => ?_, fun ys y e => ⟨[], _, rfl, ?_⟩⟩
    · rw [List.mem_singleton.mp hr]
      exact ⟨by show (1 : Int) ≤ 1; omega, by simp⟩
    · have := (List.append_inj' e rfl).2
      simpa using this
  · rw [h] at ih ⊢
    have hr1 := (ih.pos r (by simp)).1
    rw [rstep_snoc]
    by_cases e : r.1 = d
    · rw [if_pos e]
      refine ⟨?_, fun q hq => ?_, fun ys y e2 => ⟨qs, _, rfl, ?_⟩⟩
      · rw [← ih.all, dwg_append, dwg_append, dwg_one, List.append_assoc]
        congr 1
        show _ = List.replicate r.2.toNat r.1 ++ [] ++ [d]
        rw [List.append_nil, e, show (r.2 + 1).toNat = r.2.toNat + 1 by omega, List.replicate_succ']
      · rcases List.mem_append.mp hq with z | z
        · exact ⟨(ih.pos q (List.mem_append_left _ z)).1, List.mem_append_left _ (ih.pos q (List.mem_append_left _ z)).2⟩
        · rw [List.mem_singleton.mp z]
          exact ⟨by show 1 ≤ r.2 + 1; omega, by simp⟩
      · have := (List.append_inj' e2 rfl).2
        simpa using this
    · rw [if_neg e]
      refine ⟨?_, fun q hq => ?_, fun ys y e2 => ⟨_, _, rfl, ?_⟩⟩
      · rw [dwg_append, ih.all, dwg_one]
        rfl
      · rcases List.mem_append.mp hq with z | z
        · exact ⟨(ih.pos q z).1, List.mem_append_left _ (ih.pos q z).2⟩
        · rw [List.mem_singleton.mp z]
          exact ⟨by show (1 : Int) ≤ 1; omega, by simp⟩
      · have := (List.append_inj' e2 rfl).2
        simpa using this
/-- how often the drawing changes -/
def chg : List Int → Nat
  | [] => 0
  | [_] => 0
  | a :: b :: r => (if b = a then 0 else 1) + chg (b :: r)
theorem chg_snoc : ∀ (xs : List Int) (y d : Int), chg (xs ++ [y] ++ [d]) = chg (xs ++ [y]) + if d = y then 0 else 1
  | [], y, d => by
    show (if d = y then 0 else 1) + 0 = 0 + _
    omega
  | [a], y, d => by
    show (if y = a then 0 else 1) + ((if d = y then 0 else 1) + 0) = (if y = a then 0 else 1) + 0 + _
    omega
  | a :: b :: r, y, d => by
    have ih := chg_snoc (b :: r) y d
    show (if b = a then 0 else 1) + chg (b :: r ++ [y] ++ [d]) = (if b = a then 0 else 1) + chg (b :: r ++ [y]) + _
    rw [ih]
    omega
theorem runs_len : ∀ xs : List Int, (runs xs).length ≤ chg xs + 1 := by
  refine snoc_ind (by show 0 ≤ _; omega) fun xs d ih => ?_
  rw [runs_snoc]
  rcases snoc_cases xs with rfl | ⟨ys, y, rfl⟩
  · show (rstep [] d).length ≤ _
    rw [rstep_nil]
    show 1 ≤ _
    omega
  · obtain ⟨qs, r, h, hy⟩ := (runs_ok (ys ++ [y])).lst ys y rfl
    rw [h] at ih ⊢
    rw [rstep_snoc, chg_snoc, hy]
    rw [List.length_append] at ih
    by_cases e : y = d
    · rw [if_pos e, if_pos e.symm, List.length_append]
      exact ih
    · rw [if_neg e, if_neg (fun z => e z.symm), List.length_append, List.length_append]
      show qs.length + 1 + 1 ≤ _
      have : qs.length + 1 ≤ chg (ys ++ [y]) + 1 := ih
      omega
/-! ### rows of a run -/
def rrun (d n : Int) : List RW := [(d, (n - 1) % 24 + 1)] ++ List.replicate ((n - 1) / 24).toNat (d, 24)
theorem dwg_rep (d : Int) : ∀ k : Nat, dwg (List.replicate k (d, 24)) = List.replicate (k * 24) d
  | 0 => rfl
  | k + 1 => by
    rw [List.replicate_succ]
    show List.replicate (24 : Int).toNat d ++ dwg (List.replicate k (d, 24)) = _
    rw [dwg_rep d k, show (24 : Int).toNat = 24 from rfl, List.replicate_append_replicate]
    congr 1
    omega
theorem rrun_dwg {d n : Int} (h : 1 ≤ n) : dwg (rrun d n) = List.replicate n.toNat d := by
  unfold rrun
  rw [dwg_append, dwg_one, dwg_rep, List.replicate_append_replicate]
  congr 1
  omega
theorem rrun_len {d n : Int} : (rrun d n).length = ((n - 1) / 24).toNat + 1 := by
  unfold rrun
  rw [List.length_append, List.length_replicate]
  show 1 + _ = _
  omega
theorem rrun_row {d n : Int} (h0 : 0 ≤ d) (h1 : d ≤ 9) : ∀ r ∈ rrun d n, VRow r := fun r hr => by
  unfold rrun at hr
  rcases List.mem_append.mp hr with z | z
  · rw [List.mem_singleton.mp z]
    exact ⟨h0, h1, by show 1 ≤ (n - 1) % 24 + 1; omega, by show (n - 1) % 24 + 1 ≤ 24; omega⟩
  · rw [List.eq_of_mem_replicate z]
    exact ⟨h0, h1, by show (1 : Int) ≤ 24; omega, by show (24 : Int) ≤ 24; omega⟩
def foldR (xs : List Int) : List RW := (runs xs).flatMap fun r => rrun r.1 r.2
theorem dwg_flat : ∀ rs : List RW, (∀ r ∈ rs, 1 ≤ r.2) → dwg (rs.flatMap fun r => rrun r.1 r.2) = dwg rs
  | [], _ => rfl
  | r :: t, h => by
    rw [List.flatMap_cons, dwg_append, dwg_flat t fun q hq => h q (List.mem_cons_of_mem _ hq), rrun_dwg (h r (List.mem_cons_self ..))]
    rfl
theorem foldR_dwg (xs : List Int) : dwg (foldR xs) = xs := by
  unfold foldR
  rw [dwg_flat _ fun r hr => ((runs_ok xs).pos r hr).1, (runs_ok xs).all]
theorem foldR_row {xs : List Int} (h : ∀ x ∈ xs, 0 ≤ x ∧ x ≤ 9) : ∀ r ∈ foldR xs, VRow r := fun r hr => by
  obtain ⟨q, hq, hr⟩ := List.mem_flatMap.mp hr
  have := h q.1 ((runs_ok xs).pos q hq).2
  exact rrun_row this.1 this.2 r hr
theorem flat_len : ∀ rs : List RW, (∀ r ∈ rs, 1 ≤ r.2) → 24 * (rs.flatMap fun r => rrun r.1 r.2).length ≤ 23 * rs.length + (dwg rs).length
  | [], _ => by show 0 ≤ _; omega
  | r :: t, h => by
    have ih := flat_len t fun q hq => h q (List.mem_cons_of_mem _ hq)
    have h1 := h r (List.mem_cons_self ..)
    rw [List.flatMap_cons, List.length_append, rrun_len, List.length_cons]
    show _ ≤ _ + (List.replicate r.2.toNat r.1 ++ dwg t).length
    rw [List.length_append, List.length_replicate]
    omega
theorem foldR_len (xs : List Int) : 24 * (foldR xs).length ≤ 23 * (runs xs).length + xs.length := by
  have := flat_len (runs xs) fun r hr => ((runs_ok xs).pos r hr).1
  rw [(runs_ok xs).all] at this
  exact this
theorem lays_dwg {rs : List RW} (v : ∀ r ∈ rs, VRow r) : laysI rs none (dwg rs).length = dwg rs := by
  refine List.ext_getElem? fun i => ?_
  unfold laysI
  rcases Nat.lt_or_ge i (dwg rs).length with h | h
  · rw [List.getElem?_map, List.getElem?_range h]
    have e := dwg_len v
    rw [dwg_at v (by omega)]
    rfl
  · rw [List.getElem?_eq_none (by rw [List.length_map, List.length_range]; exact h), List.getElem?_eq_none h]

/-! ### sheets behind one another -/
def fill (n : Int) : List Int := List.replicate (n / 24).toNat 24 ++ (if n % 24 = 0 then [] else [n % 24])
theorem fill_len {n : Int} (h0 : 0 ≤ n) (h1 : n ≤ 192) : (fill n).length ≤ 9 := by
  unfold fill
  rw [List.length_append, List.length_replicate]
  split
  · show _ + 0 ≤ 9
    omega
  · show _ + 1 ≤ 9
    omega
def padR (rs : List RW) (L : Int) : List RW := rs ++ (fill (L - tot rs)).map fun h => (0, h)
def lbh (L : Int) (a b : LY) : LY := (padR a.1 L ++ b.1, b.2.map fun k => ((padR a.1 L).length : Int) + k)
def lastXY (x y : Int) (ms : List MV) : Int × Int := match ms.getLast? with
  | some m => (m.1, m.2.1)
  | none => (x, y)
def padM (x y : Int) (ms : List MV) (L : Int) : List MV := ms ++ (fill (L - mtot ms)).map fun h => ((lastXY x y ms).1, (lastXY x y ms).2, h)
def mbh (x1 y1 : Int) (ms1 : List MV) (L x2 y2 : Int) (ms2 : List MV) : List MV := padM x1 y1 ms1 L ++ [(x2, y2, 0)] ++ ms2
inductive BO where
  | un : BO
  | en : BO
  | mn : Nat → BO
  | ok : List LY → List MV → BO
def bo2 (bl : List LY) (ms : List MV) : BO := match bl.find? fun l => decide (8 < l.1.length) with
  | some l => .mn l.1.length
  | none => if 8 < ms.length then .mn ms.length else .ok bl ms
def boL (ls1 : List LY) (x1 y1 : Int) (ms1 : List MV) (ls2 : List LY) (x2 y2 : Int) (ms2 : List MV) : Option Int → BO
  | none => .en
  | some L => bo2 (List.zipWith (lbh L) ls1 ls2) (mbh x1 y1 ms1 L x2 y2 ms2)
def IsBo (ls1 : List LY) (x1 y1 : Int) (ms1 : List MV) (ls2 : List LY) (x2 y2 : Int) (ms2 : List MV) (o : BO) : Prop :=
  (ls1.length ≠ ls2.length ∧ o = .un) ∨ (ls1.length = ls2.length ∧ ∃ r, ShLen ls1 (mtot ms1) r ∧ o = boL ls1 x1 y1 ms1 ls2 x2 y2 ms2 r)
theorem IsBo.uniq {ls1 : List LY} {x1 y1 : Int} {ms1 : List MV} {ls2 : List LY} {x2 y2 : Int} {ms2 : List MV} {o o' : BO} (h : IsBo ls1 x1 y1 ms1 ls2 x2 y2 ms2 o) (h' : IsBo ls1 x1 y1 ms1 ls2 x2 y2 ms2 o') : o = o' := by
  rcases h with ⟨n, rfl⟩ | ⟨e, r, hr, rfl⟩
  · rcases h' with ⟨_, rfl⟩ | ⟨e, _⟩
    · rfl
    · exact absurd e n
  · rcases h' with ⟨n, _⟩ | ⟨_, r', hr', rfl⟩
    · exact absurd e n
    · rw [hr.uniq hr']
def boD (x1 y1 : Int) : BO → PyData
  | .un => refD 7
  | .en => refD 8
  | .mn n => manyD (n : Int) 8
  | .ok ls ms => toldD (shD ls x1 y1 ms)
theorem sd_bo (x1 y1 : Int) (o : BO) : Sd 6 (boD x1 y1 o) := by
  cases o with
  | un => exact (sd_ref 7).more (by decide)
  | en => exact (sd_ref 8).more (by decide)
  | mn n => exact (sd_many _ _).more (by decide)
  | ok ls ms => exact sd_told (sd_sh _ _ _ _)
theorem bo2_at {bl : List LY} {ms : List MV} {i : Nat} {l : LY} (h : ∀ k ∈ bl.take i, k.1.length ≤ 8) (hi : bl[i]? = some l) (hl : 8 < l.1.length) : bo2 bl ms = .mn l.1.length := by
  unfold bo2
  have : bl.find? (fun l => decide (8 < l.1.length)) = some l := by
    have hb : bl = bl.take i ++ l :: bl.drop (i + 1) := by
      obtain ⟨hlt, e⟩ := List.getElem?_eq_some_iff.mp hi
      rw [← e, ← List.drop_eq_getElem_cons hlt, List.take_append_drop]
    rw [hb, List.find?_append, List.find?_eq_none.mpr fun k hk => by have := h k hk; simp; omega]
    rw [Option.none_or, List.find?_cons_of_pos (by simpa using hl)]
  rw [this]
theorem bo2_all {bl : List LY} {ms : List MV} (h : ∀ k ∈ bl, k.1.length ≤ 8) : bo2 bl ms = if 8 < ms.length then .mn ms.length else .ok bl ms := by
  unfold bo2
  rw [List.find?_eq_none.mpr fun k hk => by have := h k hk; simp; omega]
/-- how long a sheet can be -/
theorem shLen_bd {ls : List LY} {x y : Int} {ms : List MV} {L : Int} (vL : VLays ls) (vw : VWin x y ms) (h : ShLen ls (mtot ms) (some L)) : 0 ≤ L ∧ L ≤ 192 ∧ (∀ l ∈ ls, tot l.1 ≤ L ∧ l.2 = none) ∧ mtot ms ≤ L := by
  rcases h with ⟨_, e⟩ | ⟨h1, m, e, hm, hx⟩
  · cases e
  · cases e
    have a1 := mtot_nonneg vw.2.2.2
    have a2 := vw.2.2.1
    have hmt := hx (mtot ms) (List.mem_append_right _ (List.mem_singleton.mpr rfl))
    refine ⟨by omega, ?_, fun l hl => ⟨hx _ (List.mem_append_left _ (List.mem_map.mpr ⟨l, hl, rfl⟩)), ?_⟩, hmt⟩
    · rcases List.mem_append.mp hm with z | z
      · obtain ⟨l, hl, rfl⟩ := List.mem_map.mp z
        have b1 := tot_nonneg (vL.2.2 l hl).1.2
        have b2 := (vL.2.2 l hl).1.1
        omega
      · rw [List.mem_singleton.mp z]
        omega
    · have e1 := h1 l hl
      cases z : l.2 with
      | none => rfl
      | some i =>
        unfold lenL at e1
        rw [z] at e1
        cases e1

/-! ### what a sheet behind another shows -/
theorem fill_sum {n : Int} (h : 0 ≤ n) : (fill n).sum = n := by
  unfold fill
  rw [List.sum_append]
  have hr : ∀ k : Nat, (List.replicate k (24 : Int)).sum = 24 * k := by
    intro k
    induction k with
    | zero => rfl
    | succ k ih =>
      rw [List.replicate_succ, List.sum_cons, ih]
      omega
  rw [hr]
  split
  · show _ + 0 = n
    omega
  · show _ + (n % 24 + 0) = n
    omega
theorem fill_mem {n h : Int} (hn : 0 ≤ n) (hh : h ∈ fill n) : 1 ≤ h ∧ h ≤ 24 := by
  unfold fill at hh
  rcases List.mem_append.mp hh with z | z
  · have := (List.mem_replicate.mp z).2
    omega
  · split at z
    · simp at z
    · have : h = n % 24 := by simpa using z
      omega
theorem tot_padR {rs : List RW} {L : Int} (h : tot rs ≤ L) : tot (padR rs L) = L := by
  unfold padR
  rw [tot_append]
  have : tot ((fill (L - tot rs)).map fun h => ((0 : Int), h)) = L - tot rs := by
    unfold tot
    rw [List.map_map]
    have e : ((fun r : RW => r.2) ∘ fun h : Int => ((0 : Int), h)) = id := rfl
    show (List.map ((fun r : RW => r.2) ∘ fun h : Int => ((0 : Int), h)) (fill (L - tot rs))).sum = _
    rw [e, List.map_id]
    exact fill_sum (by omega)
  omega
theorem padR_rows {rs : List RW} {L : Int} (v : ∀ r ∈ rs, VRow r) (h : tot rs ≤ L) : ∀ r ∈ padR rs L, VRow r := by
  intro r hr
  unfold padR at hr
  rcases List.mem_append.mp hr with z | z
  · exact v r z
  · obtain ⟨k, hk, rfl⟩ := List.mem_map.mp z
    have := fill_mem (by omega) hk
    exact ⟨by show (0 : Int) ≤ 0; decide, by show (0 : Int) ≤ 9; decide, this.1, this.2⟩
theorem walk_zeros : ∀ (hs : List Int) (m : Int), walk (hs.map fun h => ((0 : Int), h)) m = 0
  | [], _ => rfl
  | h :: t, m => by
    rw [List.map_cons, walk_cons]
    split
    · rfl
    · exact walk_zeros t _
theorem walk_padR {rs : List RW} {L m : Int} (v : ∀ r ∈ rs, VRow r) (m0 : 0 ≤ m) : walk (padR rs L) m = walk rs m := by
  unfold padR
  rw [walk_append v m0]
  split
  · rfl
  · rename_i h
    rw [walk_zeros, walk_out rs m (by omega) v]
theorem shown_lbh {a b : LY} {L m : Int} (va : VLy a) (vb : VLy b) (ha : a.2 = none) (hL : tot a.1 ≤ L) (m0 : 0 ≤ m) :
    shown (lbh L a b).1 (lbh L a b).2 m = if m < L then shown a.1 a.2 m else shown b.1 b.2 (m - L) := by
  obtain ⟨ra, ba⟩ := a
  obtain ⟨rb, bb⟩ := b
  cases ha
  have vp := padR_rows va.1.2 hL
  have tp := tot_padR hL
  have ta0 := (tot_nonneg va.1.2).1
  dsimp only at vp tp hL ta0 ⊢
  have key : ∀ n : Int, 0 ≤ n → walk (padR ra L ++ rb) n = if n < L then walk ra n else walk rb (n - L) := by
    intro n n0
    rw [walk_append vp n0, tp, walk_padR va.1.2 n0]
  show walk (padR ra L ++ rb) (near (padR ra L ++ rb) (bb.map fun k => ((padR ra L).length : Int) + k) m) = _
  cases bb with
  | none => exact key m m0
  | some k =>
    have hk := vb.2 k rfl
    obtain ⟨j, rfl⟩ : ∃ j : Nat, k = (j : Int) := ⟨k.toNat, by omega⟩
    have e1 : (((padR ra L).length : Int) + (j : Int)).toNat = (padR ra L).length + j := by omega
    have et : (padR ra L ++ rb).take ((padR ra L).length + j) = padR ra L ++ rb.take j := List.take_length_add_append j
    have ed : (padR ra L ++ rb).drop ((padR ra L).length + j) = rb.drop j := List.drop_length_add_append j
    have A0 := (tot_nonneg (rs := rb.take j) fun q hq => vb.1.2 q (List.mem_of_mem_take hq)).1
    have A0' : 0 ≤ tot (rb.take j) := by
      have := Int.natCast_nonneg (rb.take j).length
      omega
    have R0 : 0 < tot (rb.drop j) := by
      have := (tot_nonneg (rs := rb.drop j) fun q hq => vb.1.2 q (List.mem_of_mem_drop hq)).1
      rw [List.length_drop] at this
      have h2 := hk.2
      dsimp only at h2
      omega
    show walk (padR ra L ++ rb) (if m < tot ((padR ra L ++ rb).take (((padR ra L).length : Int) + (j : Int)).toNat) then m else tot ((padR ra L ++ rb).take (((padR ra L).length : Int) + (j : Int)).toNat) + (m - tot ((padR ra L ++ rb).take (((padR ra L).length : Int) + (j : Int)).toNat)) % tot ((padR ra L ++ rb).drop (((padR ra L).length : Int) + (j : Int)).toNat)) = if m < L then walk ra m else walk rb (if m - L < tot (rb.take (j : Int).toNat) then m - L else tot (rb.take (j : Int).toNat) + (m - L - tot (rb.take (j : Int).toNat)) % tot (rb.drop (j : Int).toNat))
    rw [e1, et, ed, tot_append, tp, Int.toNat_natCast]
    by_cases c : m < L + tot (rb.take j)
    · rw [if_pos c, key m m0]
      by_cases c2 : m < L
      · rw [if_pos c2, if_pos c2]
      · rw [if_neg c2, if_neg c2, if_pos (by omega)]
    · rw [if_neg c]
      have e0 := Int.emod_nonneg (m - (L + tot (rb.take j))) (show tot (rb.drop j) ≠ 0 by omega)
      rw [key _ (by omega), if_neg (by omega), if_neg (by omega), if_neg (by omega)]
      congr 1
      rw [show m - L - tot (rb.take j) = m - (L + tot (rb.take j)) by omega]
      omega
theorem lo_still {x n : Int} (hn : 0 < n) (k : Int) : lo (x * n + (x - x) * k) n = (x, 1) := by
  rw [Int.sub_self, Int.zero_mul, Int.add_zero]
  unfold lo
  have e : ((Nat.gcd (x * n).natAbs n.natAbs : Nat) : Int) = n := by
    rw [Int.natAbs_mul, Nat.gcd_mul_left_left]
    omega
  rw [e, Int.mul_ediv_cancel _ (by omega), Int.ediv_self (by omega)]
theorem lastXY_cons (x y : Int) (m : MV) (r : List MV) : lastXY x y (m :: r) = lastXY m.1 m.2.1 r := by
  unfold lastXY
  cases r with
  | nil => rfl
  | cons a t =>
    rw [List.getLast?_cons_cons]
    cases h : (a :: t).getLast? with
    | none => simp at h
    | some z => rfl
theorem plc_app : ∀ (ms rest : List MV) (x y t : Int), (∀ m ∈ ms, VMove m) → 0 ≤ t → plc x y (ms ++ rest) t = if t < mtot ms then plc x y ms t else plc (lastXY x y ms).1 (lastXY x y ms).2 rest (t - mtot ms)
  | [], rest, x, y, t, _, t0 => by
    show plc x y rest t = if t < 0 then _ else plc x y rest (t - 0)
    rw [if_neg (by omega), Int.sub_zero]
  | m :: r, rest, x, y, t, h, t0 => by
    have hr := (mtot_nonneg (ms := r) fun q hq => h q (List.mem_cons_of_mem _ hq)).1
    rw [List.cons_append, plc_cons, plc_cons, mtot_cons, lastXY_cons]
    by_cases c : t < m.2.2
    · rw [if_pos c, if_pos c, if_pos (by omega)]
    · rw [if_neg c, if_neg c, plc_app r rest m.1 m.2.1 (t - m.2.2) (fun q hq => h q (List.mem_cons_of_mem _ hq)) (by omega)]
      by_cases c2 : t - m.2.2 < mtot r
      · rw [if_pos c2, if_pos (by omega)]
      · rw [if_neg c2, if_neg (by omega), show t - (m.2.2 + mtot r) = t - m.2.2 - mtot r by omega]
theorem plc_stay (x y : Int) : ∀ (hs : List Int) (t : Int), (∀ h ∈ hs, 0 < h) → plc x y (hs.map fun h => (x, y, h)) t = ((x, 1), (y, 1))
  | [], _, _ => rfl
  | h :: r, t, v => by
    rw [List.map_cons, plc_cons]
    split
    · rw [lo_still (v h (List.mem_cons_self ..)), lo_still (v h (List.mem_cons_self ..))]
    · exact plc_stay x y r _ fun q hq => v q (List.mem_cons_of_mem _ hq)
theorem plc_end : ∀ (ms : List MV) (x y t : Int), (∀ m ∈ ms, VMove m) → mtot ms ≤ t → plc x y ms t = (((lastXY x y ms).1, 1), ((lastXY x y ms).2, 1))
  | [], _, _, _, _, _ => rfl
  | m :: r, x, y, t, h, ht => by
    have hr : ∀ q ∈ r, VMove q := fun q hq => h q (List.mem_cons_of_mem _ hq)
    have := (mtot_nonneg hr).1
    rw [mtot_cons] at ht
    rw [plc_cons, if_neg (by omega), lastXY_cons]
    exact plc_end r _ _ _ hr (by omega)
theorem lastXY_v {x y : Int} {ms : List MV} (v : VWin x y ms) : (-20 ≤ (lastXY x y ms).1 ∧ (lastXY x y ms).1 ≤ 20) ∧ (-20 ≤ (lastXY x y ms).2 ∧ (lastXY x y ms).2 ≤ 20) := by
  unfold lastXY
  cases h : ms.getLast? with
  | none => exact ⟨v.1, v.2.1⟩
  | some m =>
    have := v.2.2.2 m (List.mem_of_getLast? h)
    exact ⟨this.1, this.2.1⟩
theorem padM_moves {x y : Int} {ms : List MV} {L : Int} (v : VWin x y ms) (h : mtot ms ≤ L) : ∀ m ∈ padM x y ms L, VMove m := by
  intro m hm
  unfold padM at hm
  rcases List.mem_append.mp hm with z | z
  · exact v.2.2.2 m z
  · obtain ⟨k, hk, rfl⟩ := List.mem_map.mp z
    have := fill_mem (by omega) hk
    have l := lastXY_v v
    exact ⟨l.1, l.2, by show 0 ≤ k; omega, this.2⟩
theorem mtot_append (a b : List MV) : mtot (a ++ b) = mtot a + mtot b := by
  unfold mtot
  rw [List.map_append, List.sum_append]
theorem mtot_padM {x y : Int} {ms : List MV} {L : Int} (h : mtot ms ≤ L) : mtot (padM x y ms L) = L := by
  unfold padM
  rw [mtot_append]
  have : mtot ((fill (L - mtot ms)).map fun h => ((lastXY x y ms).1, (lastXY x y ms).2, h)) = L - mtot ms := by
    unfold mtot
    rw [List.map_map]
    show (List.map id (fill (L - (ms.map (·.2.2)).sum))).sum = _
    rw [List.map_id]
    exact fill_sum (by show 0 ≤ L - mtot ms; omega)
  omega
theorem plc_padM {x y : Int} {ms : List MV} {L t : Int} (v : VWin x y ms) (h : mtot ms ≤ L) (t0 : 0 ≤ t) : plc x y (padM x y ms L) t = plc x y ms t := by
  unfold padM
  rw [plc_app ms _ x y t v.2.2.2 t0]
  split
  · rfl
  · rename_i c
    rw [plc_stay _ _ _ _ fun k hk => by have := fill_mem (by omega) hk; omega, plc_end ms x y t v.2.2.2 (by omega)]
theorem plc_mbh {x1 y1 x2 y2 : Int} {ms1 ms2 : List MV} {L t : Int} (v : VWin x1 y1 ms1) (h : mtot ms1 ≤ L) (t0 : 0 ≤ t) :
    plc x1 y1 (mbh x1 y1 ms1 L x2 y2 ms2) t = if t < L then plc x1 y1 ms1 t else plc x2 y2 ms2 (t - L) := by
  unfold mbh
  rw [List.append_assoc, plc_app _ _ _ _ _ (padM_moves v h) t0, mtot_padM h, plc_padM v h t0]
  split
  · rfl
  · rename_i c
    rw [List.singleton_append, plc_cons]
    show (if t - L < 0 then _ else plc x2 y2 ms2 (t - L - 0)) = _
    rw [if_neg (by omega), Int.sub_zero]
/-- a sheet behind another: what it shows -/
theorem pic_bo {ls1 ls2 : List LY} {x1 y1 x2 y2 : Int} {ms1 ms2 : List MV} {L t : Int} (vL1 : VLays ls1) (vw1 : VWin x1 y1 ms1) (vL2 : VLays ls2) (el : ls1.length = ls2.length) (hls : ∀ l ∈ ls1, tot l.1 ≤ L ∧ l.2 = none) (hms : mtot ms1 ≤ L) (t0 : 0 ≤ t) :
    pic (List.zipWith (lbh L) ls1 ls2) x1 y1 (mbh x1 y1 ms1 L x2 y2 ms2) t = if t < L then pic ls1 x1 y1 ms1 t else pic ls2 x2 y2 ms2 (t - L) := by
  have e1 : (List.zipWith (lbh L) ls1 ls2).map (fun l => shown l.1 l.2 t) = if t < L then ls1.map (fun l => shown l.1 l.2 t) else ls2.map (fun l => shown l.1 l.2 (t - L)) := by
    have key : ∀ (as bs : List LY), as.length = bs.length → (∀ l ∈ as, VLy l) → (∀ l ∈ bs, VLy l) → (∀ l ∈ as, tot l.1 ≤ L ∧ l.2 = none) →
        (List.zipWith (lbh L) as bs).map (fun l => shown l.1 l.2 t) = if t < L then as.map (fun l => shown l.1 l.2 t) else bs.map (fun l => shown l.1 l.2 (t - L)) := by
      intro as
      induction as with
      | nil =>
        intro bs e _ _ _
        cases bs with
        | nil => simp
        | cons b bs => simp at e
      | cons a as ih =>
        intro bs e va vb ha
        cases bs with
        | nil => simp at e
        | cons b bs =>
          have h1 := ha a (List.mem_cons_self ..)
          rw [List.zipWith_cons_cons, List.map_cons, ih bs (by simpa using e) (fun l hl => va l (List.mem_cons_of_mem _ hl)) (fun l hl => vb l (List.mem_cons_of_mem _ hl)) (fun l hl => ha l (List.mem_cons_of_mem _ hl)),
            shown_lbh (va a (List.mem_cons_self ..)) (vb b (List.mem_cons_self ..)) h1.2 h1.1 t0]
          split
          · rw [List.map_cons]
          · rw [List.map_cons]
    exact key ls1 ls2 el vL1.2.2 vL2.2.2 hls
  unfold pic
  rw [e1, plc_mbh vw1 hms t0]
  split <;> rfl
/-- a sheet behind another is a sheet where it is not too great -/
theorem bo_valid {ls1 ls2 : List LY} {x1 y1 x2 y2 : Int} {ms1 ms2 : List MV} {L : Int} (vL1 : VLays ls1) (vw1 : VWin x1 y1 ms1) (vL2 : VLays ls2) (vw2 : VWin x2 y2 ms2) (el : ls1.length = ls2.length) (hls : ∀ l ∈ ls1, tot l.1 ≤ L ∧ l.2 = none) (hms : mtot ms1 ≤ L)
    (h8 : ∀ k ∈ List.zipWith (lbh L) ls1 ls2, k.1.length ≤ 8) (m8 : (mbh x1 y1 ms1 L x2 y2 ms2).length ≤ 8) : VLays (List.zipWith (lbh L) ls1 ls2) ∧ VWin x1 y1 (mbh x1 y1 ms1 L x2 y2 ms2) := by
  refine ⟨⟨?_, ?_, fun l hl => ?_⟩, vw1.1, vw1.2.1, m8, fun m hm => ?_⟩
  · rw [List.length_zipWith]
    have := vL1.1
    omega
  · rw [List.length_zipWith]
    have := vL1.2.1
    omega
  · have h := h8 l hl
    obtain ⟨i, hi, e⟩ := List.getElem_of_mem hl
    rw [List.getElem_zipWith] at e
    rw [List.length_zipWith] at hi
    have ma := List.getElem_mem (l := ls1) (n := i) (by omega)
    have mb := List.getElem_mem (l := ls2) (n := i) (by omega)
    have va := vL1.2.2 _ ma
    have vb := vL2.2.2 _ mb
    have ha := hls _ ma
    subst e
    generalize ls1[i] = a at va ha h ⊢
    generalize ls2[i] = b at vb h ⊢
    refine ⟨⟨h, fun r hr => ?_⟩, fun k hk => ?_⟩
    · rcases List.mem_append.mp hr with z | z
      · exact padR_rows va.1.2 ha.1 r z
      · exact vb.1.2 r z
    · obtain ⟨k', hk', rfl⟩ := Option.map_eq_some_iff.mp hk
      have := vb.2 k' hk'
      show _ ∧ _ < (((padR a.1 L ++ b.1).length : Nat) : Int)
      rw [List.length_append]
      omega
  · unfold mbh at hm
    rcases List.mem_append.mp hm with z | z
    · rcases List.mem_append.mp z with z | z
      · exact padM_moves vw1 hms m z
      · rw [List.mem_singleton.mp z]
        exact ⟨vw2.1, vw2.2.1, by show (0 : Int) ≤ 0; decide, by show (0 : Int) ≤ 24; decide⟩
    · exact vw2.2.2.2 m z
/-- what is told where it is told -/
theorem bo_ok {ls1 ls2 : List LY} {x1 y1 x2 y2 : Int} {ms1 ms2 : List MV} {bl : List LY} {ms : List MV} (vL1 : VLays ls1) (vw1 : VWin x1 y1 ms1) (vL2 : VLays ls2) (vw2 : VWin x2 y2 ms2) (h : IsBo ls1 x1 y1 ms1 ls2 x2 y2 ms2 (.ok bl ms)) :
    ∃ L, ShLen ls1 (mtot ms1) (some L) ∧ VLays bl ∧ VWin x1 y1 ms ∧ ∀ t, 0 ≤ t → pic bl x1 y1 ms t = if t < L then pic ls1 x1 y1 ms1 t else pic ls2 x2 y2 ms2 (t - L) := by
  rcases h with ⟨_, e⟩ | ⟨el, r, hr, e⟩
  · cases e
  · cases r with
    | none => cases e
    | some L =>
      obtain ⟨L0, L1, hls, hms⟩ := shLen_bd vL1 vw1 hr
      have e' : BO.ok bl ms = bo2 (List.zipWith (lbh L) ls1 ls2) (mbh x1 y1 ms1 L x2 y2 ms2) := e
      unfold bo2 at e'
      split at e'
      · cases e'
      · rename_i hf
        split at e'
        · cases e'
        · rename_i hm
          cases e'
          have h8 : ∀ k ∈ List.zipWith (lbh L) ls1 ls2, k.1.length ≤ 8 := fun k hk => by
            have := List.find?_eq_none.mp hf k hk
            simp at this
            omega
          have vv := bo_valid vL1 vw1 vL2 vw2 el hls hms h8 (by omega)
          exact ⟨L, hr, vv.1, vv.2, fun t t0 => pic_bo vL1 vw1 vL2 el hls hms t0⟩

/-- as many layers, and all of them end: the sheets can be laid behind one another, but for their number -/
theorem bo_no {ls1 ls2 : List LY} {x1 y1 x2 y2 : Int} {ms1 ms2 : List MV} {o : BO} (el : ls1.length = ls2.length) (hn : ∀ l ∈ ls1, l.2 = none) (h : IsBo ls1 x1 y1 ms1 ls2 x2 y2 ms2 o) : o ≠ .un ∧ o ≠ .en := by
  rcases h with ⟨ne, _⟩ | ⟨_, r, hr, e⟩
  · exact absurd el ne
  · cases r with
    | none =>
      rcases hr with ⟨⟨l, hl, e2⟩, _⟩ | ⟨_, m, e2, _⟩
      · unfold lenL at e2
        rw [hn l hl] at e2
        cases e2
      · cases e2
    | some L =>
      have e' : o = bo2 (List.zipWith (lbh L) ls1 ls2) (mbh x1 y1 ms1 L x2 y2 ms2) := e
      rw [e']
      unfold bo2
      split
      · exact ⟨fun z => (nomatch z), fun z => (nomatch z)⟩
      · split
        · exact ⟨fun z => (nomatch z), fun z => (nomatch z)⟩
        · exact ⟨fun z => (nomatch z), fun z => (nomatch z)⟩
theorem rgV_mem {a b : Int} {v : V} (h : v ∈ rgV a b) : ∃ i, v = .int i ∧ a ≤ i ∧ i < b := by
  unfold rgV at h
  obtain ⟨k, hk, rfl⟩ := List.mem_map.mp h
  refine ⟨_, rfl, ?_, ?_⟩ <;> (have := List.mem_range.mp hk; omega)

theorem paired_rep {α β : Type} {R : α → β → Prop} {a : α} {b : β} (h : R a b) : ∀ n : Nat, Paired R (List.replicate n [a]).flatten (List.replicate n b)
  | 0 => .nil
  | n + 1 => by
    rw [List.replicate_succ, List.replicate_succ, List.flatten_cons]
    exact .cons h (paired_rep h n)

/-! ### zip of a tuple and a list -/
def ItzM (K : PySem.W.Frag) (a b : Addr) : It :=
  ⟨fun i H => ∃ (xs ys : List V) (x y : V), SqT K H a xs ∧ SqL K H b ys ∧ xs[i]? = some x ∧ ys[i]? = some y,
    fun i H v H' => ∃ T x y, v = .ref T ∧ H T = none ∧ H' = upd H T (.tup [x, y]) ∧ (∀ xs, SqT K H a xs → xs[i]? = some x) ∧ ∀ ys, SqL K H b ys → ys[i]? = some y,
    fun i H => ∃ xs ys : List V, SqT K H a xs ∧ SqL K H b ys ∧ i = min xs.length ys.length⟩
theorem turn_zipM {P : Program} {w : World} {K : PySem.W.Frag} {elts : List Expr} {kk : Nat} {tpos : Pos} {a b z TI TO i1 i2 : Addr} (S : ZipSep2 z TI TO i1 i2 [i1, a] [i2, b]) (na : a ≠ i1) (nb : b ≠ i2) :
    Turn P w K (.Tuple elts kk tpos) (ItzM K a b) [z, TI, TO, i1, i2] z (fun i h => IsZip h z TI TO .none ∧ IsTupOf2 h TI (.ref i1) (.ref i2) ∧ (∃ x y, IsTupOf2 h TO x y) ∧ h.IsTupleIter i1 a i ∧ h.IsListIter i2 b i) where
  mem := List.mem_cons_self ..
  obj := fun i h ⟨hz, hTI, ⟨x, y, hTO⟩, ⟨o1, e1, _, d1⟩, ⟨o2, e2, _, d2⟩⟩ c hc => by
    simp only [List.mem_cons, List.not_mem_nil, or_false] at hc
    rcases hc with rfl | rfl | rfl | rfl | rfl
    · exact ⟨_, hz, fun v z => nomatch z⟩
    · exact ⟨_, hTI, fun v z => nomatch z⟩
    · exact ⟨_, hTO, fun v z => nomatch z⟩
    · exact ⟨o1, e1, fun v z => by rw [d1] at z; cases z⟩
    · exact ⟨o2, e2, fun v z => by rw [d2] at z; cases z⟩
  keep := fun i h h' ⟨hz, hTI, ⟨x, y, hTO⟩, h1, h2⟩ k =>
    ⟨k z (by simp) _ hz, k TI (by simp) _ hTI, ⟨x, y, k TO (by simp) _ hTO⟩,
      h1.at (fun o e => k i1 (by simp) o e), h2.at (fun o e => k i2 (by simp) o e)⟩
  item := by
    intro X eP ew eK hc i pins s σ H E I hf st hg
    subst eP ew eK
    obtain ⟨hz, hTI, hTO, h1, h2⟩ := st
    obtain ⟨xs, ys, x, y, sx, sy, hx, hy⟩ := hg
    obtain ⟨its, rv, p1, _⟩ := I.tuple sx
    obtain ⟨its2, rv2, p2, _⟩ := I.list sy
    obtain ⟨u, hu, ru⟩ := rv.get hx
    obtain ⟨u2, hu2, ru2⟩ := rv2.get hy
    have hd : X.A.in1.handled = none := by simp [I.ok.hd hc]
    have lu := (List.getElem?_eq_some_iff.mp hu).1
    have lu2 := (List.getElem?_eq_some_iff.mp hu2).1
    refine (GoesN.zip2 S (Draws.tuple hd i1 a na its.toArray) (Draws.list hd i2 b nb its2.toArray)).goes i s _ E
      (by simp only [List.size_toArray]; omega) ⟨hz, hTI, hTO, ⟨h1, p1⟩, ⟨h2, p2.isList⟩⟩
      fun v h' tk hY st' hk _ => ?_
    obtain ⟨T, v1, v2, rfl, hT, e1, e2, hpair⟩ := hY
    obtain ⟨hz', hTI', hTO', ⟨h1', _⟩, ⟨h2', _⟩⟩ := st'
    have ev1 : v1 = u := by
      have : its[i]? = some v1 := by simpa using e1
      exact Option.some.inj (this.symm.trans hu)
    have ev2 : v2 = u2 := by
      have : its2[i]? = some v2 := by simpa using e2
      exact Option.some.inj (this.symm.trans hu2)
    subst ev1 ev2
    have new : ObjOk X.prog X.w (upd H T (.tup [x, y])) h' T (.tup [x, y]) :=
      ⟨by show 2 ≤ sizeLine; decide, [v1, v2], .cons ru (.cons ru2 .nil), hpair⟩
    have J : Inv X pins σ (upd H T (.tup [x, y])) { s with heap := h', toks := tk } :=
      I.turnedNew (ch := [z, TI, TO, i1, i2]) (fun c o hb e => hk c o (fun m => hb (by
        simp only [List.mem_cons, List.not_mem_nil, or_false] at m ⊢
        rcases m with m | m | m | m <;> simp [m])) e) hf hT new
    refine ⟨.ref T, _, J, rfl, ⟨T, x, y, rfl, I.hok.fresh hT, rfl, fun l hl => ?_, fun l hl => ?_⟩, ⟨hz', hTI', hTO', h1', h2'⟩, fun c hcm => ?_⟩
    · rw [I.tuple_inj hl sx]
      exact hx
    · rw [I.list_inj hl sy]
      exact hy
    · have hlt : c < s.heap.objs.size := by
        obtain ⟨x0, y0, hTO⟩ := hTO
        obtain ⟨o1, g1, _⟩ := h1
        obtain ⟨o2, g2, _⟩ := h2
        simp only [List.mem_cons, List.not_mem_nil, or_false] at hcm
        rcases hcm with rfl | rfl | rfl | rfl | rfl
        · exact Heap.lt_size hz
        · exact Heap.lt_size hTI
        · exact Heap.lt_size hTO
        · exact Heap.lt_size g1
        · exact Heap.lt_size g2
      rw [upd_ne (Nat.ne_of_lt (Nat.lt_of_lt_of_le hlt hT))]
      exact (hf c hcm).1
  done := by
    intro X eP ew eK hc i pins s σ H E I hf st hg
    subst eP ew eK
    obtain ⟨hz, hTI, hTO, h1, h2⟩ := st
    obtain ⟨xs, ys, sx, sy, hi⟩ := hg
    obtain ⟨its, rv, p1, _⟩ := I.tuple sx
    obtain ⟨its2, rv2, p2, _⟩ := I.list sy
    have hd : X.A.in1.handled = none := by simp [I.ok.hd hc]
    have l1 := rv.length
    have l2 := rv2.length
    have hin : i = min its.toArray.size its2.toArray.size := by
      simp only [List.size_toArray]
      omega
    refine (GoesN.zip2 (elts := elts) (x1 := kk) (pos := tpos) S (Draws.tuple hd i1 a na its.toArray) (Draws.list hd i2 b nb its2.toArray)).stops s _ E
      (by rw [← hin]; exact ⟨hz, hTI, hTO, ⟨h1, p1⟩, ⟨h2, p2.isList⟩⟩) fun h' tk hk _ => ?_
    exact I.turnedL (ch := [z, TI, TO, i1, i2]) (fun c o hb e => hk c o (fun m => hb (by
        simp only [List.mem_cons, List.not_mem_nil, or_false] at m ⊢
        rcases m with m | m | m | m <;> simp [m])) e) hf
  self := fun A i s Q E st h => wpAny_pyIter_zip st.1 h
def iZipM (K : PySem.W.Frag) (ta : TA) : TI := fun σ H R => ta σ H fun vs H1 => ∃ a b xs ys, vs = [.ref a, .ref b] ∧ SqT K H1 a xs ∧ SqL K H1 b ys ∧ R (ItzM K a b) H1
theorem pi_zipM {X : Cx} {e e2 : Expr} {ta : TA} {p pos tpos : Pos} {elts : List Expr} {kk : Nat} (hg : Gl X "zip") (hm : X.mg "zip" = none) (ha : PA X [e, e2] ta)
    (hs : starEach [e, e2] X.env = (false, eval e X.env) :: starEach [e2] X.env := by rfl) (hpl : (backTo pos (starEach [e2] X.env)).any (·.1) = false := by rfl) : PI X (.Tuple elts kk tpos) (.Call (.Name "zip" p) [e, e2] [] pos) (iZipM X.K ta) := by
  refine ⟨fun pins s σ H R I h => Call_ (ld_blt I hg hm PyProof.Rows.boot_zip
    (PyProof.Rows.callWith_type1 (thn (ha.run pos pins s σ H _ I h) fun us s1 hh => ?_) hs hpl))⟩
  obtain ⟨vs, H1, I1, r1, a, b, xs, ys, rfl, sx, sy, q⟩ := hh
  obtain ⟨u1, u2, rfl, r2, r3⟩ := vals2 r1
  cases (show u1 = Value.ref a from r2)
  cases (show u2 = Value.ref b from r3)
  obtain ⟨its, rv, p1, _⟩ := I1.tuple sx
  obtain ⟨its2, rv2, p2, _⟩ := I1.list sy
  obtain ⟨o1, ho1, _⟩ := id p1
  have la : a < s1.heap.objs.size := Heap.lt_size ho1
  have lb : b < s1.heap.objs.size := p2.lt
  refine zip_begins2 (begins_tuple a its.toArray) (begins_list b its2.toArray) p1 p2.isList
    fun h' hz hTI hTO g1 g2 hsz hk => wpAny_pyIter_zip hz ?_
  have I2 : Inv X pins σ H1 { s1 with heap := h' } := I1.kept (t' := s1.toks) hk
  refine ⟨s1.heap.objs.size + 4, [s1.heap.objs.size + 4, s1.heap.objs.size + 2, s1.heap.objs.size + 3, s1.heap.objs.size, s1.heap.objs.size + 1], _, _, H1, rfl, I2,
    turn_zipM (zip_sep2 (fp1 := [a]) (fp2 := [b]) (fun c hc => by rw [List.mem_singleton.mp hc]; exact la) (fun c hc => by rw [List.mem_singleton.mp hc]; exact lb)) (Nat.ne_of_lt la) (Nat.ne_of_lt (Nat.lt_succ_of_lt lb)),
    ⟨hz, hTI, ⟨_, _, hTO⟩, ⟨_, g1, rfl, rfl⟩, ⟨_, g2, rfl, rfl⟩⟩, fun c hcm => ?_, q⟩
  have hle : s1.heap.objs.size ≤ c := by
    simp only [List.mem_cons, List.not_mem_nil, or_false] at hcm
    rcases hcm with rfl | rfl | rfl | rfl | rfl
    · exact Nat.le_add_right _ _
    · exact Nat.le_add_right _ _
    · exact Nat.le_add_right _ _
    · exact Nat.le_refl _
    · exact Nat.le_add_right _ _
  exact (I1.fpOk hle (I1.hok.fresh hle))
theorem zipM_go {K : PySem.W.Frag} {a b : Addr} {xs ys : List V} {i : Nat} {H : Hp} (hl : xs.length = ys.length) (hx : SqT K H a xs) (hy : SqL K H b ys) (hi : i < xs.length) : (ItzM K a b).go i H :=
  ⟨xs, ys, _, _, hx, hy, List.getElem?_eq_getElem hi, List.getElem?_eq_getElem (by omega)⟩
theorem zipM_stop {K : PySem.W.Frag} {a b : Addr} {xs ys : List V} {H : Hp} (hl : xs.length = ys.length) (hx : SqT K H a xs) (hy : SqL K H b ys) : (ItzM K a b).stop xs.length H :=
  ⟨xs, ys, hx, hy, by omega⟩
theorem zipM_yld {K : PySem.W.Frag} {a b : Addr} {xs ys : List V} {i : Nat} {H : Hp} {v : V} {H' : Hp} (hx : SqT K H a xs) (hy : SqL K H b ys) (h : (ItzM K a b).yld i H v H') : ∃ T x y, v = .ref T ∧ H T = none ∧ H' = upd H T (.tup [x, y]) ∧ xs[i]? = some x ∧ ys[i]? = some y := by
  obtain ⟨T, x, y, e1, e2, e3, e4, e5⟩ := h
  exact ⟨T, x, y, e1, e2, e3, e4 _ hx, e5 _ hy⟩
/-- a loop over pairs, whatever gives them -/
theorem for_pairs {J : It} {xs ys : List V} {g : TG} {tb : TS} {D : Ends} {σ : L2.St} {H : Hp} (Pv : Nat → L2.St → Hp → Prop) (h0 : Pv 0 σ H) (go : ∀ i σ H, Pv i σ H → i < xs.length → J.go i H) (st : ∀ σ H, Pv xs.length σ H → J.stop xs.length H)
    (yl : ∀ i σ H v H', Pv i σ H → J.yld i H v H' → ∃ T x y, v = .ref T ∧ H T = none ∧ H' = upd H T (.tup [x, y]) ∧ xs[i]? = some x ∧ ys[i]? = some y)
    (hs : ∀ (i : Nat) (x y : V) (T : Addr) (σ : L2.St) (H : Hp), xs[i]? = some x → ys[i]? = some y → Pv i σ H → H T = none → g (.ref T) σ (upd H T (.tup [x, y])) fun σ2 H2 => tb { D with nx := Pv (i + 1), ct := Pv (i + 1), bk := D.nx } σ2 H2) (hd : ∀ σ H, Pv xs.length σ H → D.nx σ H) :
    ∃ W : Nat → Nat → L2.St → Hp → Prop, (∃ m, W 0 m σ H) ∧ ∀ i m σ H, W i m σ H →
      (J.stop i H ∧ D.nx σ H) ∨ (J.go i H ∧ ∃ N : L2.St → Hp → Prop, (∀ σ' H', N σ' H' → ∃ m', m' < m ∧ W (i + 1) m' σ' H') ∧ ∀ v H', J.yld i H v H' → g v σ H' fun σ2 H2 => tb { D with nx := N, ct := N, bk := D.nx } σ2 H2) := by
  refine ⟨fun i m σ H => m = xs.length - i ∧ i ≤ xs.length ∧ Pv i σ H,
    ⟨xs.length, by omega, Nat.zero_le _, h0⟩, fun i m σ H hW => ?_⟩
  obtain ⟨rfl, hi, hp⟩ := hW
  rcases Nat.lt_or_ge i xs.length with lt | ge
  · refine .inr ⟨go i σ H hp lt, Pv (i + 1), fun σ' H' z => ⟨xs.length - (i + 1), by omega, rfl, by omega, z⟩, fun v H' hv => ?_⟩
    obtain ⟨T, x, y, rfl, nT, rfl, hx, hy⟩ := yl i σ H v H' hp hv
    exact hs i x y T σ H hx hy hp nT
  · have e : i = xs.length := by omega
    subst e
    exact .inl ⟨st σ H hp, hd σ H hp⟩
/-- a comprehension over pairs, whatever gives them -/
theorem lc_pairs {J : It} {xs ys : List V} {g : TG} {tt : TT} {te : TE} {vs : List Nat} {σ : L2.St} {H1 : Hp} {D : Addr} {Qd : Hp → Prop} (Pv : Nat → Hp → Prop) (h0 : Pv 0 (upd H1 D (.lst []))) (go : ∀ i H, Pv i H → i < xs.length → J.go i H) (st : ∀ H, Pv xs.length H → J.stop xs.length H)
    (yl : ∀ i H v H', Pv i H → J.yld i H v H' → ∃ T x y, v = .ref T ∧ H T = none ∧ H' = upd H T (.tup [x, y]) ∧ xs[i]? = some x ∧ ys[i]? = some y)
    (hs : ∀ (i : Nat) (x y : V) (T : Addr) (H : Hp), xs[i]? = some x → ys[i]? = some y → Pv i H → H T = none → g (.ref T) (wipe σ vs) (upd H T (.tup [x, y])) fun σ2 H2 => wipe σ2 vs = wipe σ vs ∧ tt σ2 H2 fun b H3 =>
      if b = true then te σ2 H3 fun z H4 => ∃ acc, H4 D = some (.lst acc) ∧ acc.length < sizeLine ∧ Pv (i + 1) (upd H4 D (.lst (acc ++ [z]))) else Pv (i + 1) H3) (hd : ∀ H, Pv xs.length H → Qd H) :
    ∃ W : Nat → Nat → Hp → Prop, (∃ m, W 0 m (upd H1 D (.lst []))) ∧ ∀ i m H, W i m H →
      (J.stop i H ∧ Qd H) ∨ (J.go i H ∧ ∃ Nx : Hp → Prop, (∀ H', Nx H' → ∃ m', m' < m ∧ W (i + 1) m' H') ∧ ∀ x H', J.yld i H x H' → g x (wipe σ vs) H' fun σ2 H2 => wipe σ2 vs = wipe σ vs ∧ tt σ2 H2 fun b H3 =>
        if b = true then te σ2 H3 fun y H4 => ∃ acc, H4 D = some (.lst acc) ∧ acc.length < sizeLine ∧ Nx (upd H4 D (.lst (acc ++ [y]))) else Nx H3) := by
  refine ⟨fun i m H => m = xs.length - i ∧ i ≤ xs.length ∧ Pv i H,
    ⟨xs.length, by omega, Nat.zero_le _, h0⟩, fun i m H hW => ?_⟩
  obtain ⟨rfl, hi, hp⟩ := hW
  rcases Nat.lt_or_ge i xs.length with lt | ge
  · refine .inr ⟨go i H hp lt, Pv (i + 1), fun H' z => ⟨xs.length - (i + 1), by omega, rfl, by omega, z⟩, fun v H' hv => ?_⟩
    obtain ⟨T, x, y, rfl, nT, rfl, hx, hy⟩ := yl i H v H' hp hv
    exact hs i x y T H hx hy hp nT
  · have e : i = xs.length := by omega
    subst e
    exact .inl ⟨st H hp, hd H hp⟩

/-! ### a tuple times nought, times one -/
theorem mul_one_meets (l : Addr) (items : Array Value) (n : Nat) (dd : Option Addr) (sl : Array (Option Value)) (u : Tok) :
    Meets (Builtin.«tuple.__mul__» ⟨[.ref l, .int 1 u], []⟩)
      (fun _ R s => s.heap.get? l = some { cls := .type "tuple", dict := dd, data := .seq items n, slots := sl } ∧ R (.ok (.ret (Value.ref l))) s) :=
  .of_wp fun prog w A R s h => by
    obtain ⟨hp, g, d, tk, os⟩ := s
    obtain ⟨hl, h⟩ := h
    have f1 := AutoSeq1.idx_int
    have c1 : (items.isEmpty || (1 : Int) == 1) = true := by simp
    wp_walk using wpAny_loadPart' hl
    repeat (first
      | (refine wpAny_ite_false (decide_eq_false (by decide)) ?_; wp_walk using wpAny_loadPart' hl)
      | (refine wpAny_ite_true (decide_eq_true c1) ?_; wp_walk using wpAny_loadPart' hl))
    exact ⟨_, rfl, h⟩
theorem mul_none_meets (l : Addr) (items : Array Value) (n : Nat) (dd : Option Addr) (sl : Array (Option Value)) (u : Tok) (hi : items.isEmpty = false) :
    Meets (Builtin.«tuple.__mul__» ⟨[.ref l, .int 0 u], []⟩)
      (fun _ R s => s.heap.get? l = some { cls := .type "tuple", dict := dd, data := .seq items n, slots := sl } ∧
        R (.ok (.ret (Value.ref s.heap.objs.size))) { s with heap := s.heap.push { cls := Value.type "tuple", data := Data.seq #[] }, toks := s.toks }) :=
  .of_wp fun prog w A R s h => by
    obtain ⟨hp, g, d, tk, os⟩ := s
    obtain ⟨hl, h⟩ := h
    have f1 := AutoSeq1.idx_int
    have c1 : ¬ (items.isEmpty || (0 : Int) == 1) = true := by rw [hi]; decide
    have c2 : (decide ((0 : Int) ≤ 0) || items.isEmpty) = true := by simp
    wp_walk using wpAny_loadPart' hl
    repeat (first
      | (refine wpAny_ite_false (decide_eq_false (by decide)) ?_; wp_walk using wpAny_loadPart' hl)
      | (refine wpAny_ite_false (decide_eq_false c1) ?_; wp_walk using wpAny_loadPart' hl)
      | (refine wpAny_ite_true (decide_eq_true c2) ?_; wp_walk using wpAny_loadPart' hl))
    exact ⟨_, rfl, h⟩
def rRepA (K : PySem.W.Frag) : R2 := fun x y H Q => ∃ l k xs, x = .ref l ∧ y = .int k ∧ SqT K H l xs ∧ xs ≠ [] ∧ xs.length ≤ 1000 ∧ 0 ≤ k ∧ k ≤ 1000 ∧ ∀ H' p, Same H H' → SqT K H' p (List.replicate k.toNat xs).flatten → Q (.ref p) H'
theorem op_repA {X : Cx} : OpR X (binaryOp .Mult) (rRepA X.K) := by
  intro pins s σ H x y v u Q I rx ry h
  obtain ⟨l, k, xs, rfl, rfl, hT, hne, hz, h0, h1, q⟩ := h
  by_cases h2 : 2 ≤ k
  · exact op_repT pins s σ H _ _ v u Q I rx ry ⟨l, k, xs, rfl, rfl, hT, hne, h2, h1, hz, fun p np => q _ p (same_upd np) (.inl (.inl upd_same))⟩
  · cases rx
    obtain ⟨t, rfl⟩ := ry
    obtain ⟨its, r, ⟨⟨cls, dd, data, sl⟩, ho, hc, n, hd⟩, hs⟩ := I.tuple hT
    simp only at hc hd
    subst hc hd
    rcases (by omega : k = 0 ∨ k = 1) with rfl | rfl
    · have hi : its.toArray.isEmpty = false := by
        cases its with
        | nil =>
          cases r
          exact absurd rfl hne
        | cons a b => rfl
      refine wpAny_binaryOp_repeat_ref (T := "tuple") (U := "int") (by decide) ⟨_, ho, rfl⟩ (fun s' => typeIs_int s' 0 t) noFill_tuple_mul
        F.fills_int_mul F.slot_int_rmul repeat_tuple F.slot_int_index.lookup (call_meets F.slot_int_rmul (typeIs_int s 0 t) F.entry_int_rmul (F.args_int_rmul_2 _ _)
          (int_rmul_tuple 0 t l its.toArray n dd sl) ⟨ho, rfl, ⟨_, ho, rfl⟩, call_meets F.slot_tuple_mul ⟨_, ho, rfl⟩ F.entry_tuple_mul (F.args_tuple_mul_2 _ _) (mul_none_meets l its.toArray n dd sl t hi) ⟨ho, ?_⟩⟩)
      have np := I.hok.fresh (Nat.le_refl s.heap.objs.size)
      refine ⟨.ref s.heap.objs.size, _, I.laid (t' := s.toks) (o := .tup []) (fun b ob e => Heap.get?_push_of_some _ e) (Nat.le_refl _) ?_, rfl, q _ _ (same_upd np) (.inl (.inl upd_same))⟩
      exact ⟨Nat.zero_le _, [], .nil, IsTup.new _ _⟩
    · refine wpAny_binaryOp_repeat_ref (T := "tuple") (U := "int") (by decide) ⟨_, ho, rfl⟩ (fun s' => typeIs_int s' 1 t) noFill_tuple_mul
        F.fills_int_mul F.slot_int_rmul repeat_tuple F.slot_int_index.lookup (call_meets F.slot_int_rmul (typeIs_int s 1 t) F.entry_int_rmul (F.args_int_rmul_2 _ _)
          (int_rmul_tuple 1 t l its.toArray n dd sl) ⟨ho, rfl, ⟨_, ho, rfl⟩, call_meets F.slot_tuple_mul ⟨_, ho, rfl⟩ F.entry_tuple_mul (F.args_tuple_mul_2 _ _) (mul_one_meets l its.toArray n dd sl t) ⟨ho, ?_⟩⟩)
      refine ⟨.ref l, H, I, rfl, q _ _ (Same.refl _) ?_⟩
      show SqT X.K H l (List.replicate 1 xs).flatten
      rw [show (List.replicate 1 xs).flatten = xs by simp]
      exact hT

theorem shares_some {n m : Int} {k : Nat} (e : m = n - 24 * k) (m0 : 0 < m) (m1 : m ≤ 24) : List.replicate k (24 : Int) ++ [m] = fill n := by
  unfold fill
  rcases (by omega : m = 24 ∨ m < 24) with z | z
  · subst z
    rw [show (n / 24).toNat = k + 1 by omega, if_pos (by omega), List.append_nil, List.replicate_succ']
  · rw [show (n / 24).toNat = k by omega, if_neg (by omega), show n % 24 = m by omega]
theorem shares_none {n m : Int} {k : Nat} (e : m = n - 24 * k) (m0 : m = 0) (hk : k = 0) : List.replicate k (24 : Int) = fill n := by
  subst hk
  have : n = 0 := by omega
  subst this
  rfl

/-! ### the text -/
def topS (i : Nat) : Stmt := PySem.Challenge.pw_lanternrows_k42_whole_shown_behind_one_a.main.body.getD i (.Pass ⟨0, 0, 0, 0⟩)
abbrev s_is_whole_from : Stmt := topS 20
theorem sc_is_whole_from : FnScope ["thing", "least"] ["thing", "least"] (defScope s_is_whole_from) := ⟨rfl, rfl, rfl, by decide +kernel, rfl, by decide +kernel, by decide +kernel⟩
abbrev s_is_whole : Stmt := topS 21
theorem sc_is_whole : FnScope ["thing", "least", "most"] ["thing", "least", "most"] (defScope s_is_whole) := ⟨rfl, rfl, rfl, by decide +kernel, rfl, by decide +kernel, by decide +kernel⟩
abbrev s_need_moment : Stmt := topS 22
theorem sc_need_moment : FnScope ["thing"] ["thing"] (defScope s_need_moment) := ⟨rfl, rfl, rfl, by decide +kernel, rfl, by decide +kernel, by decide +kernel⟩
abbrev s_need_at_most : Stmt := topS 23
theorem sc_need_at_most : FnScope ["many", "most"] ["many", "most"] (defScope s_need_at_most) := ⟨rfl, rfl, rfl, by decide +kernel, rfl, by decide +kernel, by decide +kernel⟩
abbrev s_is_tuple : Stmt := topS 32
theorem sc_is_tuple : FnScope ["thing", "least", "most"] ["thing", "least", "most"] (defScope s_is_tuple) := ⟨rfl, rfl, rfl, by decide +kernel, rfl, by decide +kernel, by decide +kernel⟩
abbrev s_is_drawing : Stmt := topS 33
theorem sc_is_drawing : FnScope ["thing"] ["thing"] (defScope s_is_drawing) := ⟨rfl, rfl, rfl, by decide +kernel, rfl, by decide +kernel, by decide +kernel⟩
abbrev s_is_hold : Stmt := topS 34
theorem sc_is_hold : FnScope ["thing"] ["thing"] (defScope s_is_hold) := ⟨rfl, rfl, rfl, by decide +kernel, rfl, by decide +kernel, by decide +kernel⟩
abbrev s_is_row : Stmt := topS 35
theorem sc_is_row : FnScope ["thing", "drawing", "hold"] ["thing"] (defScope s_is_row) := ⟨rfl, rfl, rfl, by decide +kernel, rfl, by decide +kernel, by decide +kernel⟩
abbrev s_is_layer : Stmt := topS 36
theorem sc_is_layer : FnScope ["thing", "rows", "back", "row"] ["thing"] (defScope s_is_layer) := ⟨rfl, rfl, rfl, by decide +kernel, rfl, by decide +kernel, by decide +kernel⟩
abbrev s_is_way : Stmt := topS 37
theorem sc_is_way : FnScope ["thing"] ["thing"] (defScope s_is_way) := ⟨rfl, rfl, rfl, by decide +kernel, rfl, by decide +kernel, by decide +kernel⟩
abbrev s_is_many : Stmt := topS 38
theorem sc_is_many : FnScope ["thing"] ["thing"] (defScope s_is_many) := ⟨rfl, rfl, rfl, by decide +kernel, rfl, by decide +kernel, by decide +kernel⟩
abbrev s_is_move : Stmt := topS 39
theorem sc_is_move : FnScope ["thing", "x", "y", "many"] ["thing"] (defScope s_is_move) := ⟨rfl, rfl, rfl, by decide +kernel, rfl, by decide +kernel, by decide +kernel⟩
abbrev s_is_window : Stmt := topS 40
theorem sc_is_window : FnScope ["thing", "x", "y", "moves", "move"] ["thing"] (defScope s_is_window) := ⟨rfl, rfl, rfl, by decide +kernel, rfl, by decide +kernel, by decide +kernel⟩
abbrev s_is_sheet : Stmt := topS 41
theorem sc_is_sheet : FnScope ["thing", "layers", "window", "layer"] ["thing"] (defScope s_is_sheet) := ⟨rfl, rfl, rfl, by decide +kernel, rfl, by decide +kernel, by decide +kernel⟩
abbrev s_need_sheet : Stmt := topS 42
theorem sc_need_sheet : FnScope ["thing"] ["thing"] (defScope s_need_sheet) := ⟨rfl, rfl, rfl, by decide +kernel, rfl, by decide +kernel, by decide +kernel⟩
abbrev s_need_as_many_layers : Stmt := topS 43
theorem sc_need_as_many_layers : FnScope ["one", "other"] ["one", "other"] (defScope s_need_as_many_layers) := ⟨rfl, rfl, rfl, by decide +kernel, rfl, by decide +kernel, by decide +kernel⟩
abbrev s_need_length : Stmt := topS 44
theorem sc_need_length : FnScope ["length"] ["length"] (defScope s_need_length) := ⟨rfl, rfl, rfl, by decide +kernel, rfl, by decide +kernel, by decide +kernel⟩
abbrev s_held : Stmt := topS 45
theorem sc_held : FnScope ["rows", "drawing", "hold"] ["rows"] (defScope s_held) := ⟨rfl, rfl, rfl, by decide +kernel, rfl, by decide +kernel, by decide +kernel⟩
abbrev s_length_of : Stmt := topS 46
theorem sc_length_of : FnScope ["layer", "rows", "back"] ["layer"] (defScope s_length_of) := ⟨rfl, rfl, rfl, by decide +kernel, rfl, by decide +kernel, by decide +kernel⟩
abbrev s_moved : Stmt := topS 47
theorem sc_moved : FnScope ["window", "x", "y", "moves", "goal_x", "goal_y", "many"] ["window"] (defScope s_moved) := ⟨rfl, rfl, rfl, by decide +kernel, rfl, by decide +kernel, by decide +kernel⟩
abbrev s_full_length : Stmt := topS 48
theorem sc_full_length : FnScope ["sheet", "layers", "window", "lengths", "layer"] ["sheet"] (defScope s_full_length) := ⟨rfl, rfl, rfl, by decide +kernel, rfl, by decide +kernel, by decide +kernel⟩
abbrev s_filling : Stmt := topS 50
theorem sc_filling : FnScope ["many", "most", "full", "rest"] ["many", "most"] (defScope s_filling) := ⟨rfl, rfl, rfl, by decide +kernel, rfl, by decide +kernel, by decide +kernel⟩
abbrev s_rows_for : Stmt := topS 51
theorem sc_rows_for : FnScope ["rows", "length", "hold"] ["rows", "length"] (defScope s_rows_for) := ⟨rfl, rfl, rfl, by decide +kernel, rfl, by decide +kernel, by decide +kernel⟩
abbrev s_layer_behind : Stmt := topS 52
theorem sc_layer_behind : FnScope ["one", "other", "length", "rows", "back", "ahead"] ["one", "other", "length"] (defScope s_layer_behind) := ⟨rfl, rfl, rfl, by decide +kernel, rfl, by decide +kernel, by decide +kernel⟩
abbrev s_moves_for : Stmt := topS 53
theorem sc_moves_for : FnScope ["window", "length", "x", "y", "moves", "many"] ["window", "length"] (defScope s_moves_for) := ⟨rfl, rfl, rfl, by decide +kernel, rfl, by decide +kernel, by decide +kernel⟩
abbrev s_window_behind : Stmt := topS 54
theorem sc_window_behind : FnScope ["one", "other", "length", "x", "y", "moves"] ["one", "other", "length"] (defScope s_window_behind) := ⟨rfl, rfl, rfl, by decide +kernel, rfl, by decide +kernel, by decide +kernel⟩
abbrev s_behind : Stmt := topS 55
theorem sc_behind : FnScope ["one", "other", "length", "layers", "window", "rows", "back", "first", "second"] ["one", "other"] (defScope s_behind) := ⟨rfl, rfl, rfl, by decide +kernel, rfl, by decide +kernel, by decide +kernel⟩
abbrev s_first_time : Stmt := topS 57
theorem sc_first_time : FnScope ["rows", "back", "moment", "ahead", "around"] ["rows", "back", "moment"] (defScope s_first_time) := ⟨rfl, rfl, rfl, by decide +kernel, rfl, by decide +kernel, by decide +kernel⟩
abbrev s_drawing_of : Stmt := topS 58
theorem sc_drawing_of : FnScope ["layer", "moment", "rows", "back", "left", "drawing", "hold"] ["layer", "moment"] (defScope s_drawing_of) := ⟨rfl, rfl, rfl, by decide +kernel, rfl, by decide +kernel, by decide +kernel⟩
abbrev s_common_divisor : Stmt := topS 59
theorem sc_common_divisor : FnScope ["one", "other"] ["one", "other"] (defScope s_common_divisor) := ⟨rfl, rfl, rfl, by decide +kernel, rfl, by decide +kernel, by decide +kernel⟩
abbrev s_lowest : Stmt := topS 60
theorem sc_lowest : FnScope ["top", "bottom", "divisor"] ["top", "bottom"] (defScope s_lowest) := ⟨rfl, rfl, rfl, by decide +kernel, rfl, by decide +kernel, by decide +kernel⟩
abbrev s_on_the_way : Stmt := topS 61
theorem sc_on_the_way : FnScope ["start", "goal", "step", "many"] ["start", "goal", "step", "many"] (defScope s_on_the_way) := ⟨rfl, rfl, rfl, by decide +kernel, rfl, by decide +kernel, by decide +kernel⟩
abbrev s_place_of : Stmt := topS 62
theorem sc_place_of : FnScope ["window", "moment", "x", "y", "moves", "left", "goal_x", "goal_y", "many", "step"] ["window", "moment"] (defScope s_place_of) := ⟨rfl, rfl, rfl, by decide +kernel, rfl, by decide +kernel, by decide +kernel⟩
abbrev s_picture_of : Stmt := topS 63
theorem sc_picture_of : FnScope ["sheet", "moment", "layers", "window", "drawings", "layer"] ["sheet", "moment"] (defScope s_picture_of) := ⟨rfl, rfl, rfl, by decide +kernel, rfl, by decide +kernel, by decide +kernel⟩
abbrev s_picture_at : Stmt := topS 64
theorem sc_picture_at : FnScope ["sheet", "moment"] ["sheet", "moment"] (defScope s_picture_at) := ⟨rfl, rfl, rfl, by decide +kernel, rfl, by decide +kernel, by decide +kernel⟩
abbrev s__law_cell_at : Stmt := topS 66
theorem sc__law_cell_at : FnScope ["_law_script", "_law_k"] ["_law_script", "_law_k"] (defScope s__law_cell_at) := ⟨rfl, rfl, rfl, by decide +kernel, rfl, by decide +kernel, by decide +kernel⟩
abbrev s__law_state : Stmt := topS 67
theorem sc__law_state : FnScope ["_law_script", "_law_k", "_law_cell"] ["_law_script", "_law_k"] (defScope s__law_state) := ⟨rfl, rfl, rfl, by decide +kernel, rfl, by decide +kernel, by decide +kernel⟩
abbrev s__law_take : Stmt := topS 68
theorem sc__law_take : FnScope ["_law_state_here", "_law_many", "_law_found", "_law_mixed"] ["_law_state_here", "_law_many"] (defScope s__law_take) := ⟨rfl, rfl, rfl, by decide +kernel, rfl, by decide +kernel, by decide +kernel⟩
abbrev s__law_row : Stmt := topS 69
theorem sc__law_row : FnScope ["_law_state_here", "_law_drawing_here"] ["_law_state_here"] (defScope s__law_row) := ⟨rfl, rfl, rfl, by decide +kernel, rfl, by decide +kernel, by decide +kernel⟩
abbrev s__law_layer : Stmt := topS 70
theorem sc__law_layer : FnScope ["_law_state_here", "_law_most", "_law_ended", "_law_rows", "_law_way", "_law_back", "_law_turn"] ["_law_state_here", "_law_most", "_law_ended"] (defScope s__law_layer) := ⟨rfl, rfl, rfl, by decide +kernel, rfl, by decide +kernel, by decide +kernel⟩
abbrev s__law_window : Stmt := topS 71
theorem sc__law_window : FnScope ["_law_state_here", "_law_most", "_law_moves", "_law_turn", "_law_many"] ["_law_state_here", "_law_most"] (defScope s__law_window) := ⟨rfl, rfl, rfl, by decide +kernel, rfl, by decide +kernel, by decide +kernel⟩
abbrev s__law_sheet : Stmt := topS 72
theorem sc__law_sheet : FnScope ["_law_state_here", "_law_layers", "_law_most", "_law_ended", "_law_turn"] ["_law_state_here", "_law_layers", "_law_most", "_law_ended"] (defScope s__law_sheet) := ⟨rfl, rfl, rfl, by decide +kernel, rfl, by decide +kernel, by decide +kernel⟩
abbrev s__law_length : Stmt := topS 73
theorem sc__law_length : FnScope ["_law_rows", "_law_drawing_here", "_law_hold"] ["_law_rows"] (defScope s__law_length) := ⟨rfl, rfl, rfl, by decide +kernel, rfl, by decide +kernel, by decide +kernel⟩
abbrev s__law_layer_end : Stmt := topS 74
theorem sc__law_layer_end : FnScope ["_law_layer_here"] ["_law_layer_here"] (defScope s__law_layer_end) := ⟨rfl, rfl, rfl, by decide +kernel, rfl, by decide +kernel, by decide +kernel⟩
abbrev s__law_window_end : Stmt := topS 75
theorem sc__law_window_end : FnScope ["_law_window_here", "_law_move"] ["_law_window_here"] (defScope s__law_window_end) := ⟨rfl, rfl, rfl, by decide +kernel, rfl, by decide +kernel, by decide +kernel⟩
abbrev s__law_end : Stmt := topS 76
theorem sc__law_end : FnScope ["_law_sheet_here", "_law_found", "_law_layer_here"] ["_law_sheet_here"] (defScope s__law_end) := ⟨rfl, rfl, rfl, by decide +kernel, rfl, by decide +kernel, by decide +kernel⟩
abbrev s__law_drawing : Stmt := topS 77
theorem sc__law_drawing : FnScope ["_law_layer_here", "_law_moment", "_law_rows", "_law_back", "_law_row_here", "_law_drawing_here", "_law_hold", "_law_ahead"] ["_law_layer_here", "_law_moment"] (defScope s__law_drawing) := ⟨rfl, rfl, rfl, by decide +kernel, rfl, by decide +kernel, by decide +kernel⟩
abbrev s__law_fraction : Stmt := topS 78
theorem sc__law_fraction : FnScope ["_law_top", "_law_bottom", "_law_one", "_law_other"] ["_law_top", "_law_bottom"] (defScope s__law_fraction) := ⟨rfl, rfl, rfl, by decide +kernel, rfl, by decide +kernel, by decide +kernel⟩
abbrev s__law_stands : Stmt := topS 79
theorem sc__law_stands : FnScope ["_law_window_here", "_law_moment", "_law_x", "_law_y", "_law_left", "_law_goal", "_law_level", "_law_many", "_law_step", "_law_across"] ["_law_window_here", "_law_moment"] (defScope s__law_stands) := ⟨rfl, rfl, rfl, by decide +kernel, rfl, by decide +kernel, by decide +kernel⟩
abbrev s__law_picture : Stmt := topS 80
theorem sc__law_picture : FnScope ["_law_sheet_here", "_law_moment", "_law_drawn", "_law_layer_here"] ["_law_sheet_here", "_law_moment"] (defScope s__law_picture) := ⟨rfl, rfl, rfl, by decide +kernel, rfl, by decide +kernel, by decide +kernel⟩
abbrev s__law_classes : Stmt := topS 81
theorem sc__law_classes : FnScope ["_law_e", "_law_found"] ["_law_e"] (defScope s__law_classes) := ⟨rfl, rfl, rfl, by decide +kernel, rfl, by decide +kernel, by decide +kernel⟩
abbrev s__law_met : Stmt := topS 82
theorem sc__law_met : FnScope ["_law_call", "_law_e", "_law_some"] ["_law_call"] (defScope s__law_met) := ⟨rfl, rfl, rfl, by decide +kernel, rfl, by decide +kernel, by decide +kernel⟩
abbrev s_law : Stmt := topS 83
theorem sc_law : FnScope ["_law_script", "_law_k", "_law_state_here", "_law_turn", "_law_many", "_law_one", "_law_other", "_law_told", "_law_sheet_here", "_law_end_here", "_law_far", "_law_moment", "_law_due"] ["_law_script"] (defScope s_law) := ⟨rfl, rfl, rfl, by decide +kernel, rfl, by decide +kernel, by decide +kernel⟩
abbrev s_TooMany_init : Stmt := clsB (topS 16) 0
theorem sc_TooMany_init : FnScope ["self", "many", "most"] ["self", "many", "most"] (defScope s_TooMany_init) := ⟨rfl, rfl, rfl, by decide +kernel, rfl, by decide +kernel, by decide +kernel⟩
abbrev s_Leaned_init : Stmt := clsB (topS 17) 0
theorem sc_Leaned_init : FnScope ["self", "numbers"] ["self", "numbers"] (defScope s_Leaned_init) := ⟨rfl, rfl, rfl, by decide +kernel, rfl, by decide +kernel, by decide +kernel⟩
structure Txt (K : PySem.W.Frag) (mg : Str → Option Value) : Prop where
  b_ValueError : mg "ValueError" = none
  b_len : mg "len" = none
  b_isinstance : mg "isinstance" = none
  b_max : mg "max" = none
  b_min : mg "min" = none
  b_sum : mg "sum" = none
  b_all : mg "all" = none
  b_tuple : mg "tuple" = none
  b_list : mg "list" = none
  b_abs : mg "abs" = none
  b_range : mg "range" = none
  b_zip : mg "zip" = none
  b_bool : mg "bool" = none
  b_int : mg "int" = none
  b_divmod : mg "divmod" = none
  c_LAST_MOMENT : ∃ t, mg "LAST_MOMENT" = some (Value.int 1000000000 t)
  c_MOST_DRAWING : ∃ t, mg "MOST_DRAWING" = some (Value.int 9 t)
  c_MOST_HOLD : ∃ t, mg "MOST_HOLD" = some (Value.int 24 t)
  c_MOST_ROWS : ∃ t, mg "MOST_ROWS" = some (Value.int 8 t)
  c_MOST_WAY : ∃ t, mg "MOST_WAY" = some (Value.int 20 t)
  c_MOST_MANY : ∃ t, mg "MOST_MANY" = some (Value.int 24 t)
  c_MOST_MOVES : ∃ t, mg "MOST_MOVES" = some (Value.int 8 t)
  c_MOST_LAYERS : ∃ t, mg "MOST_LAYERS" = some (Value.int 4 t)

section
variable {P : Program} {w : World} {K : PySem.W.Frag} {mg : Str → Option Value} {base : Heap}
theorem ok__law_classes {f : Addr} {fd : FuncData} {c : Nat → Addr} {LE : Addr} (F : Fun K "_law_classes" "_law_classes" s__law_classes f fd) (T : Txt K mg) (TX : ExcN K mg c LE) : FnE P w K mg base 1 f fd ["_law_e"] (spCls c) := by
  refine fun_okE F sc__law_classes (fun a cls d vs H Q E h => ?_) (fun cdv A outer s H vs Q E a oe cls d hz hfs hr h => ?_)
  · obtain ⟨i, _, rfl, _⟩ := h
    rfl
  · obtain ⟨i, hi, rfl, rfl, hx, q⟩ := h
    refine ⟨_, (pss_cons (ps_set (i := 1) sc__law_classes.nd rfl (Or.inl rfl) (pe_lst (pa_cons (pe_callB (call_isQ TX.toExcT List.mem_cons_self hz hfs) (by rfl) T.b_isinstance (by decide +kernel) (pa_cons (pv 0) (pa_cons (pe_gref (by rfl) (TX.g 0 "NoLayer" rfl)) pa_nil))) (pa_cons (pe_callB (call_isQ TX.toExcT List.mem_cons_self hz hfs) (by rfl) T.b_isinstance (by decide +kernel) (pa_cons (pv 0) (pa_cons (pe_gref (by rfl) (TX.g 1 "NoWindow" rfl)) pa_nil))) (pa_cons (pe_callB (call_isQ TX.toExcT List.mem_cons_self hz hfs) (by rfl) T.b_isinstance (by decide +kernel) (pa_cons (pv 0) (pa_cons (pe_gref (by rfl) (TX.g 2 "NoSheet" rfl)) pa_nil))) (pa_cons (pe_callB (call_isQ TX.toExcT List.mem_cons_self hz hfs) (by rfl) T.b_isinstance (by decide +kernel) (pa_cons (pv 0) (pa_cons (pe_gref (by rfl) (TX.g 3 "NoMoment" rfl)) pa_nil))) pa_nil))))))
      (pss_cons (ps_set (i := 1) sc__law_classes.nd rfl (Or.inl rfl) (pe_op op_cat (pv 1) (pe_lst (pa_cons (pe_callB (call_isQ TX.toExcT List.mem_cons_self hz hfs) (by rfl) T.b_isinstance (by decide +kernel) (pa_cons (pv 0) (pa_cons (pe_gref (by rfl) (TX.g 4 "NoRow" rfl)) pa_nil))) (pa_cons (pe_callB (call_isQ TX.toExcT List.mem_cons_self hz hfs) (by rfl) T.b_isinstance (by decide +kernel) (pa_cons (pv 0) (pa_cons (pe_gref (by rfl) (TX.g 5 "NoNumber" rfl)) pa_nil))) (pa_cons (pe_callB (call_isQ TX.toExcT List.mem_cons_self hz hfs) (by rfl) T.b_isinstance (by decide +kernel) (pa_cons (pv 0) (pa_cons (pe_gref (by rfl) (TX.g 6 "NoDrawings" rfl)) pa_nil))) (pa_cons (pe_callB (call_isQ TX.toExcT List.mem_cons_self hz hfs) (by rfl) T.b_isinstance (by decide +kernel) (pa_cons (pv 0) (pa_cons (pe_gref (by rfl) (TX.g 7 "Unlike" rfl)) pa_nil))) pa_nil)))))))
      (pss_cons (ps_set (i := 1) sc__law_classes.nd rfl (Or.inl rfl) (pe_op op_cat (pv 1) (pe_lst (pa_cons (pe_callB (call_isQ TX.toExcT List.mem_cons_self hz hfs) (by rfl) T.b_isinstance (by decide +kernel) (pa_cons (pv 0) (pa_cons (pe_gref (by rfl) (TX.g 8 "Endless" rfl)) pa_nil))) (pa_cons (pe_callB (call_isQ TX.toExcT List.mem_cons_self hz hfs) (by rfl) T.b_isinstance (by decide +kernel) (pa_cons (pv 0) (pa_cons (pe_gref (by rfl) (TX.g 9 "Squeezed" rfl)) pa_nil))) (pa_cons (pe_callB (call_isQ TX.toExcT List.mem_cons_self hz hfs) (by rfl) T.b_isinstance (by decide +kernel) (pa_cons (pv 0) (pa_cons (pe_gref (by rfl) (TX.g 10 "NoPaper" rfl)) pa_nil))) (pa_cons (pe_callB (call_isQ TX.toExcT List.mem_cons_self hz hfs) (by rfl) T.b_isinstance (by decide +kernel) (pa_cons (pv 0) (pa_cons (pe_gref (by rfl) (TX.g 11 "NoDeed" rfl)) pa_nil))) pa_nil)))))))
      (pss_one (ps_ret (pe_op op_cat (pv 1) (pe_lst (pa_cons (pe_callB (call_isQ TX.toExcT List.mem_cons_self hz hfs) (by rfl) T.b_isinstance (by decide +kernel) (pa_cons (pv 0) (pa_cons (pe_gref (by rfl) (TX.g 12 "NoText" rfl)) pa_nil))) (pa_cons (pe_callB (call_isQ TX.toExcT List.mem_cons_self hz hfs) (by rfl) T.b_isinstance (by decide +kernel) (pa_cons (pv 0) (pa_cons (pe_gref (by rfl) (TX.g 13 "NoWords" rfl)) pa_nil))) (pa_cons (pe_callB (call_isQ TX.toExcT List.mem_cons_self hz hfs) (by rfl) T.b_isinstance (by decide +kernel) (pa_cons (pv 0) (pa_cons (pe_gref (by rfl) (TX.g 14 "TooMany" rfl)) pa_nil))) (pa_cons (pe_callB (call_isQ TX.toExcT List.mem_cons_self hz hfs) (by rfl) T.b_isinstance (by decide +kernel) (pa_cons (pv 0) (pa_cons (pe_gref (by rfl) (TX.g 15 "Leaned" rfl)) pa_nil))) pa_nil))))))))))), ?_⟩
    have k := TX.ko i hi
    refine ⟨_, rfl, i, hi, rfl, _, _, _, rfl, fun u z => z, k 0 (by decide), hx, _, rfl, i, hi, rfl, _, _, _, rfl, fun u z => z, k 1 (by decide), hx, _, rfl, i, hi, rfl, _, _, _, rfl, fun u z => z, k 2 (by decide), hx, _, rfl, i, hi, rfl, _, _, _, rfl, fun u z => z, k 3 (by decide), hx, (by show 4 ≤ sizeLine; decide), fun p1 n1 => ?_⟩
    obtain ⟨s1, e1⟩ := new_at (.lst [.bl (decide (i = 0)), .bl (decide (i = 1)), .bl (decide (i = 2)), .bl (decide (i = 3))]) n1
    generalize upd H p1 (.lst [.bl (decide (i = 0)), .bl (decide (i = 1)), .bl (decide (i = 2)), .bl (decide (i = 3))]) = H1 at s1 e1 ⊢
    have hx1 := hx.sm s1
    refine ⟨_, rfl, _, rfl, i, hi, rfl, _, _, _, rfl, fun u z => z, k 4 (by decide), hx1, _, rfl, i, hi, rfl, _, _, _, rfl, fun u z => z, k 5 (by decide), hx1, _, rfl, i, hi, rfl, _, _, _, rfl, fun u z => z, k 6 (by decide), hx1, _, rfl, i, hi, rfl, _, _, _, rfl, fun u z => z, k 7 (by decide), hx1, (by show 4 ≤ sizeLine; decide), fun p2 n2 => ?_⟩
    obtain ⟨s2, e2⟩ := new_at (.lst [.bl (decide (i = 4)), .bl (decide (i = 5)), .bl (decide (i = 6)), .bl (decide (i = 7))]) n2
    generalize upd H1 p2 (.lst [.bl (decide (i = 4)), .bl (decide (i = 5)), .bl (decide (i = 6)), .bl (decide (i = 7))]) = H2 at s2 e2 ⊢
    refine ⟨p1, p2, _, _, rfl, rfl, s2 _ _ e1, e2, (by show 8 ≤ sizeLine; decide), fun p3 n3 => ?_⟩
    obtain ⟨s3, e3⟩ := new_at (.lst ([.bl (decide (i = 0)), .bl (decide (i = 1)), .bl (decide (i = 2)), .bl (decide (i = 3))] ++ [.bl (decide (i = 4)), .bl (decide (i = 5)), .bl (decide (i = 6)), .bl (decide (i = 7))])) n3
    generalize upd H2 p3 (.lst ([.bl (decide (i = 0)), .bl (decide (i = 1)), .bl (decide (i = 2)), .bl (decide (i = 3))] ++ [.bl (decide (i = 4)), .bl (decide (i = 5)), .bl (decide (i = 6)), .bl (decide (i = 7))])) = H3 at s3 e3 ⊢
    have s13 := (s1.trans s2).trans s3
    have hx3 := hx.sm s13
    refine ⟨_, rfl, _, rfl, i, hi, rfl, _, _, _, rfl, fun u z => z, k 8 (by decide), hx3, _, rfl, i, hi, rfl, _, _, _, rfl, fun u z => z, k 9 (by decide), hx3, _, rfl, i, hi, rfl, _, _, _, rfl, fun u z => z, k 10 (by decide), hx3, _, rfl, i, hi, rfl, _, _, _, rfl, fun u z => z, k 11 (by decide), hx3, (by show 4 ≤ sizeLine; decide), fun p4 n4 => ?_⟩
    obtain ⟨s4, e4⟩ := new_at (.lst [.bl (decide (i = 8)), .bl (decide (i = 9)), .bl (decide (i = 10)), .bl (decide (i = 11))]) n4
    generalize upd H3 p4 (.lst [.bl (decide (i = 8)), .bl (decide (i = 9)), .bl (decide (i = 10)), .bl (decide (i = 11))]) = H4 at s4 e4 ⊢
    refine ⟨p3, p4, _, _, rfl, rfl, s4 _ _ e3, e4, (by show 12 ≤ sizeLine; decide), fun p5 n5 => ?_⟩
    obtain ⟨s5, e5⟩ := new_at (.lst (([.bl (decide (i = 0)), .bl (decide (i = 1)), .bl (decide (i = 2)), .bl (decide (i = 3))] ++ [.bl (decide (i = 4)), .bl (decide (i = 5)), .bl (decide (i = 6)), .bl (decide (i = 7))]) ++ [.bl (decide (i = 8)), .bl (decide (i = 9)), .bl (decide (i = 10)), .bl (decide (i = 11))])) n5
    generalize upd H4 p5 (.lst (([.bl (decide (i = 0)), .bl (decide (i = 1)), .bl (decide (i = 2)), .bl (decide (i = 3))] ++ [.bl (decide (i = 4)), .bl (decide (i = 5)), .bl (decide (i = 6)), .bl (decide (i = 7))]) ++ [.bl (decide (i = 8)), .bl (decide (i = 9)), .bl (decide (i = 10)), .bl (decide (i = 11))])) = H5 at s5 e5 ⊢
    have s15 := (s13.trans s4).trans s5
    have hx5 := hx.sm s15
    refine ⟨_, rfl, _, rfl, i, hi, rfl, _, _, _, rfl, fun u z => z, k 12 (by decide), hx5, _, rfl, i, hi, rfl, _, _, _, rfl, fun u z => z, k 13 (by decide), hx5, _, rfl, i, hi, rfl, _, _, _, rfl, fun u z => z, k 14 (by decide), hx5, _, rfl, i, hi, rfl, _, _, _, rfl, fun u z => z, k 15 (by decide), hx5, (by show 4 ≤ sizeLine; decide), fun p6 n6 => ?_⟩
    obtain ⟨s6, e6⟩ := new_at (.lst [.bl (decide (i = 12)), .bl (decide (i = 13)), .bl (decide (i = 14)), .bl (decide (i = 15))]) n6
    generalize upd H5 p6 (.lst [.bl (decide (i = 12)), .bl (decide (i = 13)), .bl (decide (i = 14)), .bl (decide (i = 15))]) = H6 at s6 e6 ⊢
    refine ⟨p5, p6, _, _, rfl, rfl, s6 _ _ e5, e6, (by show 16 ≤ sizeLine; decide), fun p7 n7 => ?_⟩
    exact q _ p7 ((s15.trans s6).trans (same_upd n7)) ((s15.trans s6).free n7) upd_same
end
section
variable {X : Cx}
theorem met_mk {c : Nat → Addr} {LE g : Addr} {fd : FuncData} (Fm : Fun X.K "_law_met" "_law_met" s__law_met g fd) (mm : X.mg "_law_met" = some (.ref g)) (bm : Binds X.K fd ["_law_call"] []) (T : Txt X.K X.mg) (TX : ExcN X.K X.mg c LE)
    (DE : ClE X.prog X.w X.K X.mg X.base 1 "_law_classes" ["_law_e"] (spCls c)) (hr : Room 3 X.A) : MetF X "_law_met" "_law_call" (TMet c) := by
  obtain ⟨oc, od, kV, doc, pm, an, cdv, ct, osl, rfl, lk, hcd⟩ := Fm.ex
  refine ⟨g, _, _, _, kV, doc, pm, cdv, ct, oc, an, od, osl, _, mm, Fm.kp, lk, hcd, bm, sc__law_met, rfl, .inl rfl, ?_⟩
  intro f c' s H Q tl act hc h
  have hrE : L2H.RoomH 1 ((X.A.deeper (envOfC "_law_met" (defScope s__law_met) s.heap.objs.size g cdv))) := L2H.roomH_of ((hr.mono (show 2 ≤ 3 by omega)).deeper _)
  refine ⟨_, pss_one (ps_try_as (X := (cxOf C8.CX0 X.prog X.w X.K X.mg X.base _ "_law_met" (defScope s__law_met) g cdv X.A X.stack s H C8.E0).nox) (c := .ref LE) (i := 1) (Wout := fun _ _ _ _ => False)
      (tb := fun W D σ H => ∃ Ech : XK, (∀ cls d (σ' : L2.St) H', σ'.length = 3 → Ech cls d H' → W cls d σ' H') ∧ σ[0]? = some (some (.ref f)) ∧ H c' = some (LamX.CodeO c' (X.env.qual ++ "<lambda>")) ∧ tl Ech H fun v H1 => 2 ≤ sizeLine ∧ ∀ p, H1 p = none → D.rt (.ref p) (upd H1 p (.tup [.str "told", v])))
      rfl rfl sc__law_met.nd rfl rfl ⟨rfl, by decide, .inl TX.gL⟩ takes0 (fun W pn xe tk _ => ?_) (fun a oe cls d pn hz hfs =>
        (pss_cons (ps_set (i := 2) sc__law_met.nd rfl (Or.inl rfl) (pe_ownE DE ⟨hrE.dp, hrE.un⟩ List.mem_cons_self hz hfs (by rfl) (pa_cons (pv 1) pa_nil)))
      (pss_cons (ps_if (PW.pt (pw_or (pt_not (pt_val (pe_callB (call_isQ TX.toExcT List.mem_cons_self hz hfs) (by rfl) T.b_isinstance (by decide +kernel) (pa_cons (pv 1) (pa_cons (pe_bltn (v := .ty "ValueError") (by rfl) T.b_ValueError (by decide +kernel) rfl) pa_nil))))) (pw_or1 (pt_cmpR op_ne (pe_bmK (K := X.K) (r := rCntB X.K) PySem.F.plainAttrs_list PySem.F.slot_list_count PySem.F.type_list_count mt_bcount (pv 2) (pa_cons pe_bl pa_nil)) pe_int (nomark _))))) (pss_one (ps_ret (pe_tup (pa_cons pe_str (pa_cons pe_non pa_nil))))) pss_nil)
      (pss_cons (ps_if (pt_val (pe_ix (r := rIxL X.K) ix_list (pv 2) pe_int (fun _ _ => rfl))) (pss_one (ps_ret (pe_tup (pa_cons pe_str (pa_cons (pe_tup (pa_cons (pe_xf (TX.xf (i := 14) (by decide)) TX.n1 hz hfs (pv 1)) (pa_cons (pe_xf (TX.xf (i := 14) (by decide)) TX.n2 hz hfs (pv 1)) pa_nil))) pa_nil))))) pss_nil)
      (pss_cons (ps_if (pt_val (pe_ix (r := rIxL X.K) ix_list (pv 2) pe_int (fun _ _ => rfl))) (pss_one (ps_ret (pe_tup (pa_cons pe_str (pa_cons (pe_xf (TX.xf (i := 15) (by decide)) TX.n3 hz hfs (pv 1)) pa_nil))))) pss_nil)
      (pss_one (ps_ret (pe_tup (pa_cons pe_str (pa_cons (pe_bmK (K := X.K) (r := rIndex X.K) PySem.F.plainAttrs_list PySem.F.slot_list_index PySem.F.type_list_index mt_index (pv 2) (pa_cons pe_bl pa_nil)) pa_nil))))))))))), ?_⟩
  · refine ⟨fun pins s' σ H' D I h' => ?_⟩
    obtain ⟨Ech, hW, h1, h2, h3⟩ := h'
    refine run_ex (X := (cxOf C8.CX0 X.prog X.w X.K X.mg X.base ["_law_call", "_law_e", "_law_some"] "_law_met" (defScope s__law_met) g cdv X.A X.stack s H C8.E0).tr pn xe) ⟨_, pss_one (ps_ret (pe_tup (pa_cons pe_str (pa_cons (act _ pn xe Ech _ _ (takes_len tk) (fun cls d σ' H' he hl => hW cls d σ' H' hl he)) pa_nil)))), ?_⟩ I
    exact ⟨h1, h2, h3⟩
  · refine ⟨EMet c Q, fun cls d σ' H' hl hE => ?_, rfl, hc, h⟩
    obtain ⟨i, hi, rfl, hx, h13, hM, hL⟩ := hE
    obtain ⟨x0, x1, x2, rfl⟩ : ∃ x0 x1 x2, σ' = [x0, x1, x2] := by
      match σ', hl with
      | [a, b, c], _ => exact ⟨a, b, c, rfl⟩
    refine ⟨true, TX.ex i hi, fun _ a na => ?_, fun z => Bool.noConfusion z⟩
    refine ⟨_, rfl, i, hi, rfl, rfl, hx, fun H1 p1 s1 n1 e1 => ?_⟩
    have hx1 := hx.sm s1
    refine ⟨_, rfl, i, hi, rfl, _, _, _, rfl, fun u z => z, TX.kv i hi, hx1, true, rfl, iteF ?_⟩
    refine ⟨_, rfl, .inl ⟨rfl, _, .inl (.inl e1)⟩, p1, bits i, rfl, rfl, .inl (.inl e1), ?_⟩
    rw [bits_count i hi]
    refine ⟨rfl, _, rfl, iteF ?_⟩
    refine ⟨_, rfl, p1, _, 14, _, rfl, rfl, .inl (.inl e1), bits_at i 14 (by decide), _, rfl, ite2 (fun e => ?_) (fun e14 => ?_)⟩
    · obtain ⟨dd, fs, m, n, rfl, hd, lm, ln, hq⟩ := hM (of_decide_eq_true e)
      have ec : c i = c 14 := by rw [of_decide_eq_true e]
      have hd1 := s1 _ _ hd
      refine ⟨_, rfl, rfl, by rw [ec], dd, fs, m, rfl, hd1, lm, _, rfl, rfl, by rw [ec], dd, fs, n, rfl, hd1, ln, (by show 2 ≤ sizeLine; decide), fun q2 n2 => ?_⟩
      refine ⟨(by show 2 ≤ sizeLine; decide), fun p3 n3 => ?_⟩
      obtain ⟨s2, e2⟩ := new_at (.tup [m, n]) n2
      exact hq _ p3 q2 ((s1.trans s2).trans (same_upd n3)) ((s1.trans s2).free n3) ((same_upd n3) _ _ e2) upd_same
    refine ⟨_, rfl, p1, _, 15, _, rfl, rfl, .inl (.inl e1), bits_at i 15 (by decide), _, rfl, ite2 (fun e => ?_) (fun e15 => ?_)⟩
    · obtain ⟨dd, fs, m, rfl, hd, lm, hq⟩ := hL (of_decide_eq_true e)
      have ec : c i = c 15 := by rw [of_decide_eq_true e]
      refine ⟨_, rfl, rfl, by rw [ec], dd, fs, m, rfl, s1 _ _ hd, lm, (by show 2 ≤ sizeLine; decide), fun p3 n3 => ?_⟩
      exact hq _ p3 (s1.trans (same_upd n3)) (s1.free n3) upd_same
    have i14 : i < 14 := by
      have a1 : ¬ i = 14 := fun z => e14 (decide_eq_true z)
      have a2 : ¬ i = 15 := fun z => e15 (decide_eq_true z)
      omega
    refine ⟨_, rfl, .inl ⟨rfl, _, .inl (.inl e1)⟩, p1, _, .bl true, i, .bl true, rfl, rfl, .inl (.inl e1), rfl, bl_flat _, ?_, rfl, fun m z hm hz => ?_, ?_⟩
    · rw [bits_at i i hi, decide_eq_true rfl]
    · rw [bits_at i m (by omega), decide_eq_false (by omega)] at hz
      cases hz
      rfl
    · refine ⟨(by show 2 ≤ sizeLine; decide), fun p3 n3 => ?_⟩
      exact h13 i14 _ p3 (s1.trans (same_upd n3)) (s1.free n3) upd_same
end

section
variable {P : Program} {w : World} {K : PySem.W.Frag} {mg : Str → Option Value} {base : Heap}
def sp_is_whole_from (K : PySem.W.Frag) : Sp := fun vs H Q _ => ∃ n l : Int, vs = [.int n, .int l] ∧ Q (.bl (decide (l ≤ n))) H
theorem ok_is_whole_from {f : Addr} {fd : FuncData} (F : Fun K "is_whole_from" "is_whole_from" s_is_whole_from f fd) (T : Txt K mg) : FnOk P w K mg base CX0 1 f fd ["thing", "least"] (sp_is_whole_from K) := by
  refine F.ok sc_is_whole_from (fun vs H Q E h => ?_) (fun cdv A outer s H vs Q E hr h => ?_)
  · obtain ⟨n, l, rfl, q⟩ := h
    rfl
  · obtain ⟨n, l, rfl, q⟩ := h
    refine ⟨_, (pss_cons (ps_if (PW.pt (pw_or (pt_val (pe_callB call_isi (by rfl) T.b_isinstance (by decide +kernel) (pa_cons (pv 0) (pa_cons (pe_bltn (v := .ty "bool") (by rfl) T.b_bool (by decide +kernel) rfl) pa_nil)))) (pw_or1 (pt_not (pt_val (pe_callB call_isi (by rfl) T.b_isinstance (by decide +kernel) (pa_cons (pv 0) (pa_cons (pe_bltn (v := .ty "int") (by rfl) T.b_int (by decide +kernel) rfl) pa_nil)))))))) (pss_one (ps_ret pe_bl)) pss_nil)
      (pss_one (ps_ret (pe_cmpR op_le (pv 1) (pv 0) (nomark _))))), ?_⟩
    refine ⟨_, rfl, _, _, _, _, false, rfl, .ty _, .base (.int n), kit_ty (by decide +kernel), _, rfl, iteF ?_⟩
    refine ⟨_, rfl, _, _, _, _, true, rfl, .ty _, .base (.int n), kit_ty (by decide +kernel), _, rfl, iteF ?_⟩
    exact ⟨_, rfl, _, rfl, l, n, rfl, rfl, q⟩
def sp_is_whole (K : PySem.W.Frag) : Sp := fun vs H Q _ => ∃ n l m : Int, vs = [.int n, .int l, .int m] ∧ Q (.bl (decide (l ≤ n ∧ n ≤ m))) H
theorem ok_is_whole {f : Addr} {fd : FuncData} (F : Fun K "is_whole" "is_whole" s_is_whole f fd) (T : Txt K mg) (D_is_whole_from : Cl P w K mg base 1 "is_whole_from" ["thing", "least"] (sp_is_whole_from K)) : FnOk P w K mg base CX0 2 f fd ["thing", "least", "most"] (sp_is_whole K) := by
  refine F.ok sc_is_whole (fun vs H Q E h => ?_) (fun cdv A outer s H vs Q E hr h => ?_)
  · obtain ⟨n, l, m, rfl, q⟩ := h
    rfl
  · obtain ⟨n, l, m, rfl, q⟩ := h
    refine ⟨_, (pss_one (ps_ret (pe_and (pe_own D_is_whole_from (hr.mono (by omega)) (by rfl) (pa_cons (pv 0) (pa_cons (pv 1) pa_nil))) (pe_one (pe_cmpR op_le (pv 0) (pv 2) (nomark _)))))), ?_⟩
    refine ⟨_, rfl, _, rfl, n, l, rfl, _, rfl, ite2 (fun e => ?_) (fun e => ?_)⟩
    · refine ⟨_, rfl, _, rfl, n, m, rfl, rfl, ?_⟩
      have e1 : l ≤ n := of_decide_eq_true e
      rw [show decide (l ≤ n ∧ n ≤ m) = decide (n ≤ m) by simp [e1]] at q
      exact q
    · have e1 : ¬ l ≤ n := fun z => e (decide_eq_true z)
      rw [show decide (l ≤ n ∧ n ≤ m) = false by simp [e1]] at q
      exact q
def sp_is_tuple (K : PySem.W.Frag) : Sp := fun vs H Q _ => ∃ (a : Addr) (xs : List V) (l m : Int), vs = [.ref a, .int l, .int m] ∧ SqT K H a xs ∧ Q (.bl (decide (l ≤ (xs.length : Int) ∧ (xs.length : Int) ≤ m))) H
theorem ok_is_tuple {f : Addr} {fd : FuncData} (F : Fun K "is_tuple" "is_tuple" s_is_tuple f fd) (T : Txt K mg) : FnOk P w K mg base CX0 1 f fd ["thing", "least", "most"] (sp_is_tuple K) := by
  refine F.ok sc_is_tuple (fun vs H Q E h => ?_) (fun cdv A outer s H vs Q E hr h => ?_)
  · obtain ⟨a, xs, l, m, rfl, _⟩ := h
    rfl
  · obtain ⟨a, xs, l, m, rfl, ha, q⟩ := h
    refine ⟨_, (pss_one (ps_ret (pe_and (pe_callB call_isi (by rfl) T.b_isinstance (by decide +kernel) (pa_cons (pv 0) (pa_cons (pe_bltn (v := .ty "tuple") (by rfl) T.b_tuple (by decide +kernel) rfl) pa_nil))) (pe_one (pe_chain op_le op_le (pv 1) (pe_callB call_len_seq (by rfl) T.b_len (by decide +kernel) (pa_cons (pv 0) pa_nil)) (pv 2)))))), ?_⟩
    refine ⟨_, rfl, _, _, _, _, true, rfl, .ty _, tyT ha, kit_ty (by decide +kernel), _, rfl, iteT ?_⟩
    refine ⟨_, rfl, _, rfl, a, xs, rfl, .inr ha, l, _, rfl, rfl, _, rfl, ite2 (fun e => ?_) (fun e => ?_)⟩
    · refine ⟨_, rfl, _, m, rfl, rfl, ?_⟩
      have e1 : l ≤ (xs.length : Int) := of_decide_eq_true e
      rw [show decide (l ≤ (xs.length : Int) ∧ (xs.length : Int) ≤ m) = decide ((xs.length : Int) ≤ m) by simp [e1]] at q
      exact q
    · have e1 : ¬ l ≤ (xs.length : Int) := fun z => e (decide_eq_true z)
      rw [show decide (l ≤ (xs.length : Int) ∧ (xs.length : Int) ≤ m) = false by simp [e1]] at q
      exact q
def sp_is_drawing (K : PySem.W.Frag) : Sp := fun vs H Q _ => ∃ n : Int, vs = [.int n] ∧ Q (.bl (decide (0 ≤ n ∧ n ≤ 9))) H
theorem ok_is_drawing {f : Addr} {fd : FuncData} (F : Fun K "is_drawing" "is_drawing" s_is_drawing f fd) (T : Txt K mg) (D_is_whole : Cl P w K mg base 2 "is_whole" ["thing", "least", "most"] (sp_is_whole K)) : FnOk P w K mg base CX0 3 f fd ["thing"] (sp_is_drawing K) := by
  refine F.ok sc_is_drawing (fun vs H Q E h => ?_) (fun cdv A outer s H vs Q E hr h => ?_)
  · obtain ⟨n, rfl, q⟩ := h
    rfl
  · obtain ⟨n, rfl, q⟩ := h
    refine ⟨_, (pss_one (ps_ret (pe_own D_is_whole (hr.mono (by omega)) (by rfl) (pa_cons (pv 0) (pa_cons pe_int (pa_cons (pe_gint (by rfl) T.c_MOST_DRAWING) pa_nil)))))), ?_⟩
    exact ⟨_, rfl, n, 0, 9, rfl, q⟩
def sp_is_hold (K : PySem.W.Frag) : Sp := fun vs H Q _ => ∃ n : Int, vs = [.int n] ∧ Q (.bl (decide (1 ≤ n ∧ n ≤ 24))) H
theorem ok_is_hold {f : Addr} {fd : FuncData} (F : Fun K "is_hold" "is_hold" s_is_hold f fd) (T : Txt K mg) (D_is_whole : Cl P w K mg base 2 "is_whole" ["thing", "least", "most"] (sp_is_whole K)) : FnOk P w K mg base CX0 3 f fd ["thing"] (sp_is_hold K) := by
  refine F.ok sc_is_hold (fun vs H Q E h => ?_) (fun cdv A outer s H vs Q E hr h => ?_)
  · obtain ⟨n, rfl, q⟩ := h
    rfl
  · obtain ⟨n, rfl, q⟩ := h
    refine ⟨_, (pss_one (ps_ret (pe_own D_is_whole (hr.mono (by omega)) (by rfl) (pa_cons (pv 0) (pa_cons pe_int (pa_cons (pe_gint (by rfl) T.c_MOST_HOLD) pa_nil)))))), ?_⟩
    exact ⟨_, rfl, n, 1, 24, rfl, q⟩
def sp_is_row (K : PySem.W.Frag) : Sp := fun vs H Q _ => ∃ (v : V) (r : RW), vs = [v] ∧ RowAt K H v r ∧ VRow r ∧ Q (.bl true) H
theorem ok_is_row {f : Addr} {fd : FuncData} (F : Fun K "is_row" "is_row" s_is_row f fd) (T : Txt K mg) (D_is_tuple : Cl P w K mg base 1 "is_tuple" ["thing", "least", "most"] (sp_is_tuple K)) (D_is_drawing : Cl P w K mg base 3 "is_drawing" ["thing"] (sp_is_drawing K)) (D_is_hold : Cl P w K mg base 3 "is_hold" ["thing"] (sp_is_hold K)) : FnOk P w K mg base CX0 4 f fd ["thing"] (sp_is_row K) := by
  refine F.ok sc_is_row (fun vs H Q E h => ?_) (fun cdv A outer s H vs Q E hr h => ?_)
  · obtain ⟨v, r, rfl, _⟩ := h
    rfl
  · obtain ⟨v, ⟨d, n⟩, rfl, ⟨p, rfl, hp⟩, ⟨v1, v2, v3, v4⟩, q⟩ := h
    refine ⟨_, (pss_cons (ps_if (pt_not (pt_val (pe_own D_is_tuple (hr.mono (by omega)) (by rfl) (pa_cons (pv 0) (pa_cons pe_int (pa_cons pe_int pa_nil)))))) (pss_one (ps_ret pe_bl)) pss_nil)
      (pss_cons (ps_asg (pv 0) (pg_tup (by rfl) (pgs_cons (pg_name (i := 1) sc_is_row.nd rfl (Or.inl rfl)) (pgs_cons (pg_name (i := 2) sc_is_row.nd rfl (Or.inl rfl)) pgs_nil))))
      (pss_one (ps_ret (pe_and (pe_own D_is_drawing (hr.mono (by omega)) (by rfl) (pa_cons (pv 1) pa_nil)) (pe_one (pe_own D_is_hold (hr.mono (by omega)) (by rfl) (pa_cons (pv 2) pa_nil)))))))), ?_⟩
    refine ⟨_, rfl, p, _, 2, 2, rfl, hp, _, rfl, iteF ?_⟩
    refine ⟨_, rfl, p, _, rfl, hp, rfl, _, _, rfl, _, _, rfl, rfl, ?_⟩
    refine ⟨_, rfl, d, rfl, true, ?_, iteT ?_⟩
    · rw [show decide ((0 : Int) ≤ d ∧ d ≤ 9) = true from decide_eq_true ⟨v1, v2⟩]
    · refine ⟨_, rfl, n, rfl, ?_⟩
      rw [show decide ((1 : Int) ≤ n ∧ n ≤ 24) = true from decide_eq_true ⟨v3, v4⟩]
      exact q
end

section
variable {P : Program} {w : World} {K : PySem.W.Frag} {mg : Str → Option Value} {base : Heap}
def sp_need_moment (K : PySem.W.Frag) : Sp := fun vs H Q _ => ∃ m : Int, vs = [.int m] ∧ 0 ≤ m ∧ m ≤ 1000000000 ∧ Q .non H
theorem ok_need_moment {f : Addr} {fd : FuncData} (F : Fun K "need_moment" "need_moment" s_need_moment f fd) (T : Txt K mg) (D_is_whole : Cl P w K mg base 2 "is_whole" ["thing", "least", "most"] (sp_is_whole K)) : FnOk P w K mg base CX0 3 f fd ["thing"] (sp_need_moment K) := by
  refine F.ok sc_need_moment (fun vs H Q E h => ?_) (fun cdv A outer s H vs Q E hr h => ?_)
  · obtain ⟨m, rfl, _⟩ := h
    rfl
  · obtain ⟨m, rfl, h0, h1, q⟩ := h
    refine ⟨_, (pss_one (ps_if (pt_not (pt_val (pe_own D_is_whole (hr.mono (by omega)) (by rfl) (pa_cons (pv 0) (pa_cons pe_int (pa_cons (pe_gint (by rfl) T.c_LAST_MOMENT) pa_nil)))))) (pss_one ps_never) pss_nil)), ?_⟩
    refine ⟨_, rfl, m, 0, 1000000000, rfl, _, rfl, ?_⟩
    rw [show decide ((0 : Int) ≤ m ∧ m ≤ 1000000000) = true from decide_eq_true ⟨h0, h1⟩]
    exact iteF q
end

section
variable {P : Program} {w : World} {K : PySem.W.Frag} {mg : Str → Option Value} {base : Heap}
def sp_is_layer (K : PySem.W.Frag) : Sp := fun vs H Q _ => ∃ (v : V) (rs : List RW) (bk : Option Int), vs = [v] ∧ LayAt K H v rs bk ∧ VRows rs ∧ VBack rs bk ∧ ∀ H', Same H H' → Q (.bl true) H'
theorem ok_is_layer {f : Addr} {fd : FuncData} (F : Fun K "is_layer" "is_layer" s_is_layer f fd) (T : Txt K mg) (D_is_tuple : Cl P w K mg base 1 "is_tuple" ["thing", "least", "most"] (sp_is_tuple K)) (D_is_row : Cl P w K mg base 4 "is_row" ["thing"] (sp_is_row K)) (D_is_whole : Cl P w K mg base 2 "is_whole" ["thing", "least", "most"] (sp_is_whole K)) : FnOk P w K mg base CX0 5 f fd ["thing"] (sp_is_layer K) := by
  refine F.ok sc_is_layer (fun vs H Q E h => ?_) (fun cdv A outer s H vs Q E hr h => ?_)
  · obtain ⟨v, rs, bk, rfl, _⟩ := h
    rfl
  · obtain ⟨v, rs, bk, rfl, ⟨p, rv, rfl, hp, pr, vs, rfl, hq, pd⟩, ⟨v8, vr⟩, vb, q⟩ := h
    have hl : vs.length = rs.length := Paired.length pd
    refine ⟨_, (pss_cons (ps_if (pt_not (pt_val (pe_own D_is_tuple (hr.mono (by omega)) (by rfl) (pa_cons (pv 0) (pa_cons pe_int (pa_cons pe_int pa_nil)))))) (pss_one (ps_ret pe_bl)) pss_nil)
      (pss_cons (ps_asg (pv 0) (pg_tup (by rfl) (pgs_cons (pg_name (i := 1) sc_is_layer.nd rfl (Or.inl rfl)) (pgs_cons (pg_name (i := 2) sc_is_layer.nd rfl (Or.inl rfl)) pgs_nil))))
      (pss_cons (ps_if (PW.pt (pw_or (pt_not (pt_val (pe_own D_is_tuple (hr.mono (by omega)) (by rfl) (pa_cons (pv 1) (pa_cons pe_int (pa_cons (pe_gint (by rfl) T.c_MOST_ROWS) pa_nil)))))) (pw_or1 (pt_not (pt_val (pe_callB (cr_all rfl) (by rfl) T.b_all (by decide +kernel) (pa_cons (pe_lc (own := [("row", 3)]) (g := (gName 3)) (tt := tYes) (by rfl) sc_is_layer.nd (pi_tup (pv 1)) (blkOk_by (own := [("row", 3)]) (N := ["thing", "rows", "back", "row"]) (sc := defScope s_is_layer) (by decide +kernel)) (fun _ _ _ _ _ => (pg_name (i := 3) sc_is_layer.nd rfl (Or.inl rfl))) (fun _ _ _ _ _ => pts_nil) (fun _ _ _ _ _ => (pe_own D_is_row (hr.mono (by omega)) (by rfl) (pa_cons (pv 3) pa_nil)))) pa_nil))))))) (pss_one (ps_ret pe_bl)) pss_nil)
      (pss_one (ps_ret (pe_or (pe_cmpR op_isN (pv 2) pe_non (nomark _)) (pe_one (pe_own D_is_whole (hr.mono (by omega)) (by rfl) (pa_cons (pv 2) (pa_cons pe_int (pa_cons (pe_op op_sub (pe_callB call_len_seq (by rfl) T.b_len (by decide +kernel) (pa_cons (pv 1) pa_nil)) pe_int) pa_nil))))))))))), ?_⟩
    refine ⟨_, rfl, p, _, 2, 2, rfl, hp, _, rfl, iteF ?_⟩
    refine ⟨_, rfl, p, _, rfl, hp, rfl, _, _, rfl, _, _, rfl, rfl, ?_⟩
    refine ⟨_, rfl, pr, vs, 0, 8, rfl, hq, _, rfl, ?_⟩
    rw [show decide ((0 : Int) ≤ (vs.length : Int) ∧ (vs.length : Int) ≤ 8) = true from decide_eq_true ⟨by omega, by omega⟩]
    refine iteF ?_
    refine ⟨_, rfl, pr, rfl, ⟨_, hq⟩, fun D hD => ?_⟩
    refine lcmap_tup ((vs.map fun _ => true).map V.bl) (by simp) (by omega) hq hD (fun i x y H2 R Z hx hy s2 hR => ?_) (fun H2 s2 hL => ?_)
    · obtain ⟨r, hr1, hrow⟩ := Paired.at pd hx
      have ey : y = .bl true := by
        rw [List.map_map, List.getElem?_map, hx] at hy
        exact (Option.some.inj hy).symm
      subst ey
      exact ⟨rfl, yes_ok ⟨_, rfl, x, r, rfl, hrow.keep (Same.tk s2), vr r (List.mem_of_getElem? hr1), hR _ (Same.refl _)⟩⟩
    · refine ⟨D, _, rfl, .inl (.inl hL), _, rfl, ?_⟩
      rw [show ((vs.map fun _ => true).all id) = true by simp]
      refine iteF ?_
      refine ⟨_, rfl, rfl, _, rfl, ?_⟩
      cases bk with
      | none => exact ite2 (fun _ => q _ s2) (fun e => absurd (decide_eq_true rfl) e)
      | some b =>
        refine ite2 (fun e => nomatch (of_decide_eq_true e)) (fun _ => ?_)
        have hb := vb b rfl
        refine ⟨_, rfl, _, rfl, pr, vs, rfl, .inr (Same.sqT s2 hq), _, _, rfl, rfl, b, 0, _, rfl, ?_⟩
        rw [show decide ((0 : Int) ≤ b ∧ b ≤ (vs.length : Int) - 1) = true from decide_eq_true ⟨by omega, by omega⟩]
        exact q _ s2
end

section
variable {P : Program} {w : World} {K : PySem.W.Frag} {mg : Str → Option Value} {base : Heap}
def sp_held (K : PySem.W.Frag) : Sp := fun vs H Q _ => ∃ (v : V) (rs : List RW), vs = [v] ∧ RowsAt K H v rs ∧ rs.length ≤ 1000 ∧ ∀ H', Same H H' → Q (.int (tot rs)) H'
theorem ok_held {f : Addr} {fd : FuncData} (F : Fun K "held" "held" s_held f fd) (T : Txt K mg) : FnOk P w K mg base CX0 1 f fd ["rows"] (sp_held K) := by
  refine F.ok sc_held (fun vs H Q E h => ?_) (fun cdv A outer s H vs Q E hr h => ?_)
  · obtain ⟨v, rs, rfl, _⟩ := h
    rfl
  · obtain ⟨v, rs, rfl, ⟨pr, vs, rfl, hq, pd⟩, hz, q⟩ := h
    have hl : vs.length = rs.length := Paired.length pd
    refine ⟨_, (pss_one (ps_ret (pe_callB (cr_sum rfl) (by rfl) T.b_sum (by decide +kernel) (pa_cons (pe_lc (own := [("drawing", 1), ("hold", 2)]) (g := (gTup _ 2 (gCons (gName 1) (gCons (gName 2) gNil)))) (tt := tYes) (by rfl) sc_held.nd (pi_tup (pv 0)) (blkOk_by (own := [("drawing", 1), ("hold", 2)]) (N := ["rows", "drawing", "hold"]) (sc := defScope s_held) (by decide +kernel)) (fun _ _ _ _ _ => (pg_tup (by rfl) (pgs_cons (pg_name (i := 1) sc_held.nd rfl (Or.inl rfl)) (pgs_cons (pg_name (i := 2) sc_held.nd rfl (Or.inl rfl)) pgs_nil)))) (fun _ _ _ _ _ => pts_nil) (fun _ _ _ _ _ => (pv 2))) pa_nil)))), ?_⟩
    refine ⟨_, rfl, pr, rfl, ⟨_, hq⟩, fun D hD => ?_⟩
    refine lcmap_tup ((rs.map (·.2)).map V.int) (by simp [hl]) (by omega) hq hD (fun i x y H2 R Z hx hy s2 hR => ?_) (fun H2 s2 hL => ?_)
    · obtain ⟨r, hr1, p, rfl, hrow⟩ := Paired.at pd hx
      have ey : y = .int r.2 := by
        rw [List.map_map, List.getElem?_map, hr1] at hy
        exact (Option.some.inj hy).symm
      subst ey
      exact ⟨p, _, rfl, Same.sqT s2 hrow, rfl, _, _, rfl, _, _, rfl, rfl, rfl, yes_ok ⟨_, rfl, hR _ (Same.refl _)⟩⟩
    · exact ⟨D, _, rfl, .inl (.inl hL), q _ s2⟩
end

section
variable {P : Program} {w : World} {K : PySem.W.Frag} {mg : Str → Option Value} {base : Heap}
def sp_first_time (K : PySem.W.Frag) : Sp := fun vs H Q _ => ∃ (v : V) (rs : List RW) (b m : Int), vs = [v, .int b, .int m] ∧ RowsAt K H v rs ∧ VRows rs ∧ VBack rs (some b) ∧ ∀ H', Same H H' → Q (.int (near rs (some b) m)) H'
theorem ok_first_time {f : Addr} {fd : FuncData} (F : Fun K "first_time" "first_time" s_first_time f fd) (T : Txt K mg) (D_held : Cl P w K mg base 1 "held" ["rows"] (sp_held K)) : FnOk P w K mg base CX0 2 f fd ["rows", "back", "moment"] (sp_first_time K) := by
  refine F.ok sc_first_time (fun vs H Q E h => ?_) (fun cdv A outer s H vs Q E hr h => ?_)
  · obtain ⟨v, rs, b, m, rfl, _⟩ := h
    rfl
  · obtain ⟨v, rs, b, m, rfl, ⟨pr, vs, rfl, hq, pd⟩, ⟨v8, vr⟩, vb, q⟩ := h
    have hb := vb b rfl
    obtain ⟨k, rfl⟩ : ∃ k : Nat, b = (k : Int) := ⟨b.toNat, by omega⟩
    refine ⟨_, (pss_cons (ps_set (i := 3) sc_first_time.nd rfl (Or.inl rfl) (pe_own D_held (hr.mono (by omega)) (by rfl) (pa_cons (pe_slice sl_tupA (pv 0) po_none (po_some (pv 1))) pa_nil)))
      (pss_cons (ps_set (i := 4) sc_first_time.nd rfl (Or.inl rfl) (pe_own D_held (hr.mono (by omega)) (by rfl) (pa_cons (pe_slice sl_tupA (pv 0) (po_some (pv 1)) po_none) pa_nil)))
      (pss_one (ps_ret (pe_ifExp (pt_cmpR op_lt (pv 2) (pv 3) (nomark _)) (pv 2) (pe_op op_add (pv 3) (pe_op op_modN (pe_op op_sub (pv 2) (pv 3)) (pv 4)))))))), ?_⟩
    refine ⟨_, rfl, _, rfl, _, rfl, sl_rows (rs.take k) hq (by rw [cut_to]; exact Paired.takeP k pd) (fun H1 v1 s1 h1 => ?_)⟩
    refine ⟨v1, rs.take k, rfl, h1, by rw [List.length_take]; omega, fun H2 s2 => ?_⟩
    have pd2 : Paired (RowAt K H2) vs rs := Paired.mono pd fun _ _ => RowAt.keep (Same.tk (s1.trans s2))
    have hq2 := Same.sqT (s1.trans s2) hq
    refine ⟨_, rfl, _, rfl, _, rfl, ?_⟩
    dsimp only [tNoPart]
    refine sl_rows (rs.drop k) hq2 (by rw [cut_from]; exact Paired.dropP k pd2) (fun H3 v3 s3 h3 => ?_)
    refine ⟨v3, rs.drop k, rfl, h3, by rw [List.length_drop]; omega, fun H4 s4 => ?_⟩
    have q' := q H4 (((s1.trans s2).trans s3).trans s4)
    unfold near at q'
    dsimp only at q'
    rw [Int.toNat_natCast] at q'
    have cpos : 0 < tot (rs.drop k) := by
      have := (tot_nonneg (rs := rs.drop k) fun q hq => vr q (List.mem_of_mem_drop hq)).1
      rw [List.length_drop] at this
      omega
    refine ⟨_, rfl, _, rfl, m, _, rfl, rfl, _, rfl, ite2 (fun e => ?_) (fun e => ?_)⟩
    · rw [if_pos (of_decide_eq_true e)] at q'
      exact ⟨_, rfl, q'⟩
    · rw [if_neg (fun z => e (decide_eq_true z))] at q'
      refine ⟨_, rfl, _, rfl, _, rfl, _, _, rfl, rfl, _, rfl, _, _, rfl, rfl, by omega, _, _, rfl, rfl, ?_⟩
      rw [Int.fmod_eq_emod_of_nonneg _ (by omega)]
      exact q'
def sp_drawing_of (K : PySem.W.Frag) : Sp := fun vs H Q _ => ∃ (v : V) (rs : List RW) (bk : Option Int) (m : Int), vs = [v, .int m] ∧ LayAt K H v rs bk ∧ VRows rs ∧ VBack rs bk ∧ ∀ H', Same H H' → Q (.int (shown rs bk m)) H'
theorem ok_drawing_of {f : Addr} {fd : FuncData} (F : Fun K "drawing_of" "drawing_of" s_drawing_of f fd) (T : Txt K mg) (D_first_time : Cl P w K mg base 2 "first_time" ["rows", "back", "moment"] (sp_first_time K)) : FnOk P w K mg base CX0 3 f fd ["layer", "moment"] (sp_drawing_of K) := by
  refine F.ok sc_drawing_of (fun vs H Q E h => ?_) (fun cdv A outer s H vs Q E hr h => ?_)
  · obtain ⟨v, rs, bk, m, rfl, _⟩ := h
    rfl
  · obtain ⟨v, rs, bk, m, rfl, ⟨p, rv, rfl, hp, pr, vs, rfl, hq, pd⟩, ⟨v8, vr⟩, vb, q⟩ := h
    have hl : vs.length = rs.length := Paired.length pd
    have key : ∀ R : VK, (∀ H', Same H H' → R (.int (near rs bk m)) H') → tIf (tTest (tOp (fun x y H Q => y = .non ∧ Q (.bl (decide (x = .non))) H) (tVar 3) (tC .non))) (tVar 1) (tCall (sp_first_time K) [] E0 (tCons (tVar 2) (tCons (tVar 3) (tCons (tVar 1) tNil)))) [some (.ref p), some (.int m), some (.ref pr), some (bkV bk), none, none, none] H R := by
      intro R hR
      refine ⟨_, rfl, rfl, _, rfl, ?_⟩
      cases bk with
      | none => exact ite2 (fun _ => ⟨_, rfl, hR _ (Same.refl _)⟩) (fun e => absurd (decide_eq_true rfl) e)
      | some b =>
        refine ite2 (fun e => nomatch (of_decide_eq_true e)) (fun _ => ?_)
        exact ⟨_, rfl, _, rfl, _, rfl, _, rs, b, m, rfl, ⟨pr, vs, rfl, hq, pd⟩, ⟨v8, vr⟩, vb, hR⟩
    refine ⟨_, (pss_cons (ps_asg (pv 0) (pg_tup (by rfl) (pgs_cons (pg_name (i := 2) sc_drawing_of.nd rfl (Or.inl rfl)) (pgs_cons (pg_name (i := 3) sc_drawing_of.nd rfl (Or.inl rfl)) pgs_nil))))
      (pss_cons (ps_set (i := 4) sc_drawing_of.nd rfl (Or.inl rfl) (pe_ifExp (pt_cmpR op_isN (pv 3) pe_non (nomark _)) (pv 1) (pe_own D_first_time (hr.mono (by omega)) (by rfl) (pa_cons (pv 2) (pa_cons (pv 3) (pa_cons (pv 1) pa_nil))))))
      (pss_cons (ps_for PassesOwn.never rfl (pi_tup (pv 2)) (pg_tup (by rfl) (pgs_cons (pg_name (i := 5) sc_drawing_of.nd rfl (Or.inl rfl)) (pgs_cons (pg_name (i := 6) sc_drawing_of.nd rfl (Or.inl rfl)) pgs_nil)))
        (pss_cons (ps_if (pt_cmpR op_lt (pv 4) (pv 6) (nomark _)) (pss_one (ps_ret (pv 5))) pss_nil)
      (pss_one (ps_aug (i := 4) sc_drawing_of.nd rfl (Or.inl rfl) (pv 6) ip_sub))))
      (pss_one (ps_ret pe_int))))), ?_⟩
    refine ⟨_, rfl, p, _, rfl, hp, rfl, _, _, rfl, _, _, rfl, rfl, ?_⟩
    refine key _ (fun H1 s1 => ?_)
    refine ⟨_, rfl, pr, rfl, ⟨_, Same.sqT s1 hq⟩, for_tup (K := K) (a := pr) (xs := vs) (fun i σ H2 => ∃ (n : Int) (x y : Option V), σ = [some (.ref p), some (.int m), some (.ref pr), some (bkV bk), some (.int n), x, y] ∧ Same H H2 ∧ walk (rs.drop i) n = shown rs bk m)
      ⟨_, none, none, rfl, s1, rfl⟩ (fun i σ H2 _ ⟨_, _, _, _, s2, _⟩ => Same.sqT s2 hq) ?_ ?_⟩
    · rintro i x σ H2 hx ⟨n, y1, y2, rfl, s2, e⟩
      obtain ⟨r, hr1, pw, rfl, hrow⟩ := Paired.at pd hx
      have hi : i < rs.length := (List.getElem?_eq_some_iff.mp hr1).1
      have ed : rs.drop i = r :: rs.drop (i + 1) := by
        rw [List.drop_eq_getElem_cons hi]
        congr 1
        rw [List.getElem?_eq_getElem hi] at hr1
        exact Option.some.inj hr1
      rw [ed] at e
      unfold walk at e
      refine ⟨pw, _, rfl, Same.sqT s2 hrow, rfl, _, _, rfl, _, _, rfl, rfl, ?_⟩
      refine ⟨_, rfl, _, rfl, n, r.2, rfl, rfl, _, rfl, ite2 (fun c => ?_) (fun c => ?_)⟩
      · rw [if_pos (of_decide_eq_true c)] at e
        refine ⟨_, rfl, ?_⟩
        show Q (.int r.1) H2
        rw [e]
        exact q _ s2
      · rw [if_neg (fun z => c (decide_eq_true z))] at e
        exact ⟨_, rfl, _, rfl, n, r.2, rfl, rfl, n - r.2, _, _, rfl, s2, e⟩
    · rintro σ H2 ⟨n, y1, y2, rfl, s2, e⟩
      rw [List.drop_of_length_le (by omega)] at e
      show Q (.int 0) H2
      rw [show (0 : Int) = shown rs bk m from e]
      exact q _ s2
end

section
variable {P : Program} {w : World} {K : PySem.W.Frag} {mg : Str → Option Value} {base : Heap}
def sp_is_way (K : PySem.W.Frag) : Sp := fun vs H Q _ => ∃ n : Int, vs = [.int n] ∧ Q (.bl (decide (-20 ≤ n ∧ n ≤ 20))) H
theorem ok_is_way {f : Addr} {fd : FuncData} (F : Fun K "is_way" "is_way" s_is_way f fd) (T : Txt K mg) (D_is_whole : Cl P w K mg base 2 "is_whole" ["thing", "least", "most"] (sp_is_whole K)) : FnOk P w K mg base CX0 3 f fd ["thing"] (sp_is_way K) := by
  refine F.ok sc_is_way (fun vs H Q E h => ?_) (fun cdv A outer s H vs Q E hr h => ?_)
  · obtain ⟨n, rfl, q⟩ := h
    rfl
  · obtain ⟨n, rfl, q⟩ := h
    refine ⟨_, (pss_one (ps_ret (pe_own D_is_whole (hr.mono (by omega)) (by rfl) (pa_cons (pv 0) (pa_cons (pe_un un_neg (pe_gint (by rfl) T.c_MOST_WAY)) (pa_cons (pe_gint (by rfl) T.c_MOST_WAY) pa_nil)))))), ?_⟩
    exact ⟨_, rfl, 20, rfl, n, -20, 20, rfl, q⟩
def sp_is_many (K : PySem.W.Frag) : Sp := fun vs H Q _ => ∃ n : Int, vs = [.int n] ∧ Q (.bl (decide (0 ≤ n ∧ n ≤ 24))) H
theorem ok_is_many {f : Addr} {fd : FuncData} (F : Fun K "is_many" "is_many" s_is_many f fd) (T : Txt K mg) (D_is_whole : Cl P w K mg base 2 "is_whole" ["thing", "least", "most"] (sp_is_whole K)) : FnOk P w K mg base CX0 3 f fd ["thing"] (sp_is_many K) := by
  refine F.ok sc_is_many (fun vs H Q E h => ?_) (fun cdv A outer s H vs Q E hr h => ?_)
  · obtain ⟨n, rfl, q⟩ := h
    rfl
  · obtain ⟨n, rfl, q⟩ := h
    refine ⟨_, (pss_one (ps_ret (pe_own D_is_whole (hr.mono (by omega)) (by rfl) (pa_cons (pv 0) (pa_cons pe_int (pa_cons (pe_gint (by rfl) T.c_MOST_MANY) pa_nil)))))), ?_⟩
    exact ⟨_, rfl, n, 0, 24, rfl, q⟩
def sp_is_move (K : PySem.W.Frag) : Sp := fun vs H Q _ => ∃ (v : V) (m : MV), vs = [v] ∧ MoveAt K H v m ∧ VMove m ∧ Q (.bl true) H
theorem ok_is_move {f : Addr} {fd : FuncData} (F : Fun K "is_move" "is_move" s_is_move f fd) (T : Txt K mg) (D_is_tuple : Cl P w K mg base 1 "is_tuple" ["thing", "least", "most"] (sp_is_tuple K)) (D_is_way : Cl P w K mg base 3 "is_way" ["thing"] (sp_is_way K)) (D_is_many : Cl P w K mg base 3 "is_many" ["thing"] (sp_is_many K)) : FnOk P w K mg base CX0 4 f fd ["thing"] (sp_is_move K) := by
  refine F.ok sc_is_move (fun vs H Q E h => ?_) (fun cdv A outer s H vs Q E hr h => ?_)
  · obtain ⟨v, m, rfl, _⟩ := h
    rfl
  · obtain ⟨v, ⟨x, y, n⟩, rfl, ⟨p, rfl, hp⟩, ⟨vx, vy, v3, v4⟩, q⟩ := h
    refine ⟨_, (pss_cons (ps_if (pt_not (pt_val (pe_own D_is_tuple (hr.mono (by omega)) (by rfl) (pa_cons (pv 0) (pa_cons pe_int (pa_cons pe_int pa_nil)))))) (pss_one (ps_ret pe_bl)) pss_nil)
      (pss_cons (ps_asg (pv 0) (pg_tup (by rfl) (pgs_cons (pg_name (i := 1) sc_is_move.nd rfl (Or.inl rfl)) (pgs_cons (pg_name (i := 2) sc_is_move.nd rfl (Or.inl rfl)) (pgs_cons (pg_name (i := 3) sc_is_move.nd rfl (Or.inl rfl)) pgs_nil)))))
      (pss_one (ps_ret (pe_and (pe_own D_is_way (hr.mono (by omega)) (by rfl) (pa_cons (pv 1) pa_nil)) (pe_and (pe_own D_is_way (hr.mono (by omega)) (by rfl) (pa_cons (pv 2) pa_nil)) (pe_one (pe_own D_is_many (hr.mono (by omega)) (by rfl) (pa_cons (pv 3) pa_nil))))))))), ?_⟩
    refine ⟨_, rfl, p, _, 3, 3, rfl, hp, _, rfl, iteF ?_⟩
    refine ⟨_, rfl, p, _, rfl, hp, rfl, _, _, rfl, _, _, rfl, _, _, rfl, rfl, ?_⟩
    refine ⟨_, rfl, x, rfl, true, ?_, iteT ?_⟩
    · rw [show decide ((-20 : Int) ≤ x ∧ x ≤ 20) = true from decide_eq_true vx]
    refine ⟨_, rfl, y, rfl, true, ?_, iteT ?_⟩
    · rw [show decide ((-20 : Int) ≤ y ∧ y ≤ 20) = true from decide_eq_true vy]
    refine ⟨_, rfl, n, rfl, ?_⟩
    rw [show decide ((0 : Int) ≤ n ∧ n ≤ 24) = true from decide_eq_true ⟨v3, v4⟩]
    exact q
def sp_is_window (K : PySem.W.Frag) : Sp := fun vs H Q _ => ∃ (v : V) (x y : Int) (ms : List MV), vs = [v] ∧ WinAt K H v x y ms ∧ VWin x y ms ∧ ∀ H', Same H H' → Q (.bl true) H'
theorem ok_is_window {f : Addr} {fd : FuncData} (F : Fun K "is_window" "is_window" s_is_window f fd) (T : Txt K mg) (D_is_tuple : Cl P w K mg base 1 "is_tuple" ["thing", "least", "most"] (sp_is_tuple K)) (D_is_way : Cl P w K mg base 3 "is_way" ["thing"] (sp_is_way K)) (D_is_move : Cl P w K mg base 4 "is_move" ["thing"] (sp_is_move K)) : FnOk P w K mg base CX0 5 f fd ["thing"] (sp_is_window K) := by
  refine F.ok sc_is_window (fun vs H Q E h => ?_) (fun cdv A outer s H vs Q E hr h => ?_)
  · obtain ⟨v, x, y, ms, rfl, _⟩ := h
    rfl
  · obtain ⟨v, x, y, ms, rfl, ⟨p, mv, rfl, hp, pm, vs, rfl, hq, pd⟩, ⟨vx, vy, v8, vm⟩, q⟩ := h
    have hl : vs.length = ms.length := Paired.length pd
    refine ⟨_, (pss_cons (ps_if (pt_not (pt_val (pe_own D_is_tuple (hr.mono (by omega)) (by rfl) (pa_cons (pv 0) (pa_cons pe_int (pa_cons pe_int pa_nil)))))) (pss_one (ps_ret pe_bl)) pss_nil)
      (pss_cons (ps_asg (pv 0) (pg_tup (by rfl) (pgs_cons (pg_name (i := 1) sc_is_window.nd rfl (Or.inl rfl)) (pgs_cons (pg_name (i := 2) sc_is_window.nd rfl (Or.inl rfl)) (pgs_cons (pg_name (i := 3) sc_is_window.nd rfl (Or.inl rfl)) pgs_nil)))))
      (pss_cons (ps_if (PW.pt (pw_or (pt_not (pt_val (pe_own D_is_way (hr.mono (by omega)) (by rfl) (pa_cons (pv 1) pa_nil)))) (pw_or (pt_not (pt_val (pe_own D_is_way (hr.mono (by omega)) (by rfl) (pa_cons (pv 2) pa_nil)))) (pw_or1 (pt_not (pt_val (pe_own D_is_tuple (hr.mono (by omega)) (by rfl) (pa_cons (pv 3) (pa_cons pe_int (pa_cons (pe_gint (by rfl) T.c_MOST_MOVES) pa_nil)))))))))) (pss_one (ps_ret pe_bl)) pss_nil)
      (pss_one (ps_ret (pe_callB (cr_all rfl) (by rfl) T.b_all (by decide +kernel) (pa_cons (pe_lc (own := [("move", 4)]) (g := (gName 4)) (tt := tYes) (by rfl) sc_is_window.nd (pi_tup (pv 3)) (blkOk_by (own := [("move", 4)]) (N := ["thing", "x", "y", "moves", "move"]) (sc := defScope s_is_window) (by decide +kernel)) (fun _ _ _ _ _ => (pg_name (i := 4) sc_is_window.nd rfl (Or.inl rfl))) (fun _ _ _ _ _ => pts_nil) (fun _ _ _ _ _ => (pe_own D_is_move (hr.mono (by omega)) (by rfl) (pa_cons (pv 4) pa_nil)))) pa_nil))))))), ?_⟩
    refine ⟨_, rfl, p, _, 3, 3, rfl, hp, _, rfl, iteF ?_⟩
    refine ⟨_, rfl, p, _, rfl, hp, rfl, _, _, rfl, _, _, rfl, _, _, rfl, rfl, ?_⟩
    refine ⟨_, rfl, x, rfl, _, rfl, ?_⟩
    rw [show decide ((-20 : Int) ≤ x ∧ x ≤ 20) = true from decide_eq_true vx]
    refine iteF ?_
    refine ⟨_, rfl, y, rfl, _, rfl, ?_⟩
    rw [show decide ((-20 : Int) ≤ y ∧ y ≤ 20) = true from decide_eq_true vy]
    refine iteF ?_
    refine ⟨_, rfl, pm, vs, 0, 8, rfl, hq, _, rfl, ?_⟩
    rw [show decide ((0 : Int) ≤ (vs.length : Int) ∧ (vs.length : Int) ≤ 8) = true from decide_eq_true ⟨by omega, by omega⟩]
    refine iteF ?_
    refine ⟨_, rfl, pm, rfl, ⟨_, hq⟩, fun D hD => ?_⟩
    refine lcmap_tup ((vs.map fun _ => true).map V.bl) (by simp) (by omega) hq hD (fun i x y H2 R Z hx hy s2 hR => ?_) (fun H2 s2 hL => ?_)
    · obtain ⟨m, hm1, hm⟩ := Paired.at pd hx
      have ey : y = .bl true := by
        rw [List.map_map, List.getElem?_map, hx] at hy
        exact (Option.some.inj hy).symm
      subst ey
      exact ⟨rfl, yes_ok ⟨_, rfl, x, m, rfl, hm.keep (Same.tk s2), vm m (List.mem_of_getElem? hm1), hR _ (Same.refl _)⟩⟩
    · refine ⟨D, _, rfl, .inl (.inl hL), ?_⟩
      rw [show ((vs.map fun _ => true).all id) = true by simp]
      exact q _ s2
end

section
variable {P : Program} {w : World} {K : PySem.W.Frag} {mg : Str → Option Value} {base : Heap}
def sp_moved (K : PySem.W.Frag) : Sp := fun vs H Q _ => ∃ (v : V) (x y : Int) (ms : List MV), vs = [v] ∧ WinAt K H v x y ms ∧ ms.length ≤ 8 ∧ ∀ H', Same H H' → Q (.int (mtot ms)) H'
theorem ok_moved {f : Addr} {fd : FuncData} (F : Fun K "moved" "moved" s_moved f fd) (T : Txt K mg) : FnOk P w K mg base CX0 1 f fd ["window"] (sp_moved K) := by
  refine F.ok sc_moved (fun vs H Q E h => ?_) (fun cdv A outer s H vs Q E hr h => ?_)
  · obtain ⟨v, x, y, ms, rfl, _⟩ := h
    rfl
  · obtain ⟨v, x, y, ms, rfl, ⟨p, mv, rfl, hp, pm, vs, rfl, hq, pd⟩, hz, q⟩ := h
    have hl : vs.length = ms.length := Paired.length pd
    refine ⟨_, (pss_cons (ps_asg (pv 0) (pg_tup (by rfl) (pgs_cons (pg_name (i := 1) sc_moved.nd rfl (Or.inl rfl)) (pgs_cons (pg_name (i := 2) sc_moved.nd rfl (Or.inl rfl)) (pgs_cons (pg_name (i := 3) sc_moved.nd rfl (Or.inl rfl)) pgs_nil)))))
      (pss_one (ps_ret (pe_callB (cr_sum rfl) (by rfl) T.b_sum (by decide +kernel) (pa_cons (pe_lc (own := [("goal_x", 4), ("goal_y", 5), ("many", 6)]) (g := (gTup _ 3 (gCons (gName 4) (gCons (gName 5) (gCons (gName 6) gNil))))) (tt := tYes) (by rfl) sc_moved.nd (pi_tup (pv 3)) (blkOk_by (own := [("goal_x", 4), ("goal_y", 5), ("many", 6)]) (N := ["window", "x", "y", "moves", "goal_x", "goal_y", "many"]) (sc := defScope s_moved) (by decide +kernel)) (fun _ _ _ _ _ => (pg_tup (by rfl) (pgs_cons (pg_name (i := 4) sc_moved.nd rfl (Or.inl rfl)) (pgs_cons (pg_name (i := 5) sc_moved.nd rfl (Or.inl rfl)) (pgs_cons (pg_name (i := 6) sc_moved.nd rfl (Or.inl rfl)) pgs_nil))))) (fun _ _ _ _ _ => pts_nil) (fun _ _ _ _ _ => (pv 6))) pa_nil))))), ?_⟩
    refine ⟨_, rfl, p, _, rfl, hp, rfl, _, _, rfl, _, _, rfl, _, _, rfl, rfl, ?_⟩
    refine ⟨_, rfl, pm, rfl, ⟨_, hq⟩, fun D hD => ?_⟩
    refine lcmap_tup ((ms.map (·.2.2)).map V.int) (by simp [hl]) (by omega) hq hD (fun i x y H2 R Z hx hy s2 hR => ?_) (fun H2 s2 hL => ?_)
    · obtain ⟨m, hm1, pw, rfl, hrow⟩ := Paired.at pd hx
      have ey : y = .int m.2.2 := by
        rw [List.map_map, List.getElem?_map, hm1] at hy
        exact (Option.some.inj hy).symm
      subst ey
      exact ⟨pw, _, rfl, Same.sqT s2 hrow, rfl, _, _, rfl, _, _, rfl, _, _, rfl, rfl, rfl, yes_ok ⟨_, rfl, hR _ (Same.refl _)⟩⟩
    · exact ⟨D, _, rfl, .inl (.inl hL), q _ s2⟩
end

section
variable {P : Program} {w : World} {K : PySem.W.Frag} {mg : Str → Option Value} {base : Heap}
def sp_is_sheet (K : PySem.W.Frag) : Sp := fun vs H Q _ => ∃ (v : V) (ls : List LY) (x y : Int) (ms : List MV), vs = [v] ∧ ShAt K H v ls x y ms ∧ VLays ls ∧ VWin x y ms ∧ ∀ H', Same H H' → Q (.bl true) H'
theorem ok_is_sheet {f : Addr} {fd : FuncData} (F : Fun K "is_sheet" "is_sheet" s_is_sheet f fd) (T : Txt K mg) (D_is_tuple : Cl P w K mg base 1 "is_tuple" ["thing", "least", "most"] (sp_is_tuple K)) (D_is_window : Cl P w K mg base 5 "is_window" ["thing"] (sp_is_window K)) (D_is_layer : Cl P w K mg base 5 "is_layer" ["thing"] (sp_is_layer K)) : FnOk P w K mg base CX0 6 f fd ["thing"] (sp_is_sheet K) := by
  refine F.ok sc_is_sheet (fun vs H Q E h => ?_) (fun cdv A outer s H vs Q E hr h => ?_)
  · obtain ⟨v, ls, x, y, ms, rfl, _⟩ := h
    rfl
  · obtain ⟨v, ls, x, y, ms, rfl, ⟨p, lv, wv, rfl, hp, ⟨pl, vs, rfl, hq, pd⟩, hw⟩, ⟨v1, v4, vl⟩, vw, q⟩ := h
    have hl : vs.length = ls.length := Paired.length pd
    refine ⟨_, (pss_cons (ps_if (pt_not (pt_val (pe_own D_is_tuple (hr.mono (by omega)) (by rfl) (pa_cons (pv 0) (pa_cons pe_int (pa_cons pe_int pa_nil)))))) (pss_one (ps_ret pe_bl)) pss_nil)
      (pss_cons (ps_asg (pv 0) (pg_tup (by rfl) (pgs_cons (pg_name (i := 1) sc_is_sheet.nd rfl (Or.inl rfl)) (pgs_cons (pg_name (i := 2) sc_is_sheet.nd rfl (Or.inl rfl)) pgs_nil))))
      (pss_cons (ps_if (pt_not (pt_val (pe_own D_is_tuple (hr.mono (by omega)) (by rfl) (pa_cons (pv 1) (pa_cons pe_int (pa_cons (pe_gint (by rfl) T.c_MOST_LAYERS) pa_nil)))))) (pss_one (ps_ret pe_bl)) pss_nil)
      (pss_one (ps_ret (pe_and (pe_callB (cr_all rfl) (by rfl) T.b_all (by decide +kernel) (pa_cons (pe_lc (own := [("layer", 3)]) (g := (gName 3)) (tt := tYes) (by rfl) sc_is_sheet.nd (pi_tup (pv 1)) (blkOk_by (own := [("layer", 3)]) (N := ["thing", "layers", "window", "layer"]) (sc := defScope s_is_sheet) (by decide +kernel)) (fun _ _ _ _ _ => (pg_name (i := 3) sc_is_sheet.nd rfl (Or.inl rfl))) (fun _ _ _ _ _ => pts_nil) (fun _ _ _ _ _ => (pe_own D_is_layer (hr.mono (by omega)) (by rfl) (pa_cons (pv 3) pa_nil)))) pa_nil)) (pe_one (pe_own D_is_window (hr.mono (by omega)) (by rfl) (pa_cons (pv 2) pa_nil))))))))), ?_⟩
    refine ⟨_, rfl, p, _, 2, 2, rfl, hp, _, rfl, iteF ?_⟩
    refine ⟨_, rfl, p, _, rfl, hp, rfl, _, _, rfl, _, _, rfl, rfl, ?_⟩
    refine ⟨_, rfl, pl, vs, 1, 4, rfl, hq, _, rfl, ?_⟩
    rw [show decide ((1 : Int) ≤ (vs.length : Int) ∧ (vs.length : Int) ≤ 4) = true from decide_eq_true ⟨by omega, by omega⟩]
    refine iteF ?_
    refine ⟨_, rfl, pl, rfl, ⟨_, hq⟩, fun D hD => ?_⟩
    refine lcmap_tup ((vs.map fun _ => true).map V.bl) (by simp) (by omega) hq hD (fun i x y H2 R Z hx hy s2 hR => ?_) (fun H2 s2 hL => ?_)
    · obtain ⟨l, hl1, hly⟩ := Paired.at pd hx
      have ey : y = .bl true := by
        rw [List.map_map, List.getElem?_map, hx] at hy
        exact (Option.some.inj hy).symm
      subst ey
      have vl1 := vl l (List.mem_of_getElem? hl1)
      exact ⟨rfl, yes_ok ⟨_, rfl, x, l.1, l.2, rfl, LayAt.keep (Same.tk s2) hly, vl1.1, vl1.2, hR⟩⟩
    · refine ⟨D, _, rfl, .inl (.inl hL), true, ?_, iteT ?_⟩
      · rw [show ((vs.map fun _ => true).all id) = true by simp]
      · exact ⟨_, rfl, wv, x, y, ms, rfl, hw.keep (Same.tk s2), vw, fun H3 s3 => q _ (s2.trans s3)⟩
def sp_need_sheet (K : PySem.W.Frag) : Sp := fun vs H Q _ => ∃ (v : V) (ls : List LY) (x y : Int) (ms : List MV), vs = [v] ∧ ShAt K H v ls x y ms ∧ VLays ls ∧ VWin x y ms ∧ ∀ H', Same H H' → Q .non H'
theorem ok_need_sheet {f : Addr} {fd : FuncData} (F : Fun K "need_sheet" "need_sheet" s_need_sheet f fd) (T : Txt K mg) (D_is_sheet : Cl P w K mg base 6 "is_sheet" ["thing"] (sp_is_sheet K)) : FnOk P w K mg base CX0 7 f fd ["thing"] (sp_need_sheet K) := by
  refine F.ok sc_need_sheet (fun vs H Q E h => ?_) (fun cdv A outer s H vs Q E hr h => ?_)
  · obtain ⟨v, ls, x, y, ms, rfl, _⟩ := h
    rfl
  · obtain ⟨v, ls, x, y, ms, rfl, hl, v8, vw, q⟩ := h
    refine ⟨_, (pss_one (ps_if (pt_not (pt_val (pe_own D_is_sheet (hr.mono (by omega)) (by rfl) (pa_cons (pv 0) pa_nil)))) (pss_one ps_never) pss_nil)), ?_⟩
    exact ⟨_, rfl, v, ls, x, y, ms, rfl, hl, v8, vw, fun H' s' => ⟨_, rfl, iteF (q _ s')⟩⟩
end

section
variable {P : Program} {w : World} {K : PySem.W.Frag} {mg : Str → Option Value} {base : Heap}
def sp_length_of (K : PySem.W.Frag) : Sp := fun vs H Q _ => ∃ (v : V) (l : LY), vs = [v] ∧ LyAt K H v l ∧ VLy l ∧ ∀ H', Same H H' → Q (bkV (lenL l)) H'
theorem ok_length_of {f : Addr} {fd : FuncData} (F : Fun K "length_of" "length_of" s_length_of f fd) (T : Txt K mg) (D_held : Cl P w K mg base 1 "held" ["rows"] (sp_held K)) : FnOk P w K mg base CX0 2 f fd ["layer"] (sp_length_of K) := by
  refine F.ok sc_length_of (fun vs H Q E h => ?_) (fun cdv A outer s H vs Q E hr h => ?_)
  · obtain ⟨v, l, rfl, _⟩ := h
    rfl
  · obtain ⟨v, ⟨rs, bk⟩, rfl, ⟨p, rv, rfl, hp, hq⟩, ⟨v8, vb⟩, q⟩ := h
    refine ⟨_, (pss_cons (ps_asg (pv 0) (pg_tup (by rfl) (pgs_cons (pg_name (i := 1) sc_length_of.nd rfl (Or.inl rfl)) (pgs_cons (pg_name (i := 2) sc_length_of.nd rfl (Or.inl rfl)) pgs_nil))))
      (pss_one (ps_ret (pe_ifExp (pt_cmpR op_isN (pv 2) pe_non (nomark _)) (pe_own D_held (hr.mono (by omega)) (by rfl) (pa_cons (pv 1) pa_nil)) pe_non)))), ?_⟩
    refine ⟨_, rfl, p, _, rfl, hp, rfl, _, _, rfl, _, _, rfl, rfl, ?_⟩
    refine ⟨_, rfl, rfl, _, rfl, ?_⟩
    cases bk with
    | none =>
      refine ite2 (fun _ => ?_) (fun e => absurd (decide_eq_true rfl) e)
      have := v8.1
      exact ⟨_, rfl, rv, rs, rfl, hq, by dsimp only at this; omega, q⟩
    | some b => exact ite2 (fun e => nomatch (of_decide_eq_true e)) (fun _ => q _ (Same.refl _))
def sp_full_length (K : PySem.W.Frag) : Sp := fun vs H Q _ => ∃ (v : V) (ls : List LY) (x y : Int) (ms : List MV), vs = [v] ∧ ShAt K H v ls x y ms ∧ VLays ls ∧ VWin x y ms ∧ ∀ H' r, Same H H' → ShLen ls (mtot ms) r → Q (bkV r) H'
theorem ok_full_length {f : Addr} {fd : FuncData} (F : Fun K "full_length" "full_length" s_full_length f fd) (T : Txt K mg) (D_length_of : Cl P w K mg base 2 "length_of" ["layer"] (sp_length_of K)) (D_moved : Cl P w K mg base 1 "moved" ["window"] (sp_moved K)) : FnOk P w K mg base CX0 3 f fd ["sheet"] (sp_full_length K) := by
  refine F.ok sc_full_length (fun vs H Q E h => ?_) (fun cdv A outer s H vs Q E hr h => ?_)
  · obtain ⟨v, ls, x, y, ms, rfl, _⟩ := h
    rfl
  · obtain ⟨v, ls, x, y, ms, rfl, hsh, vL, vw, q⟩ := h
    refine ⟨_, (pss_cons (ps_asg (pv 0) (pg_tup (by rfl) (pgs_cons (pg_name (i := 1) sc_full_length.nd rfl (Or.inl rfl)) (pgs_cons (pg_name (i := 2) sc_full_length.nd rfl (Or.inl rfl)) pgs_nil))))
      (pss_cons (ps_setLc (i := 3) (own := [("layer", 4)]) (g := (gName 4)) (tt := tYes) (by rfl) sc_full_length.nd rfl rfl (sw_true rfl rfl rfl (by decide +kernel)) (pi_tup (pv 1)) (blkOk_by (own := [("layer", 4)]) (N := ["sheet", "layers", "window", "lengths", "layer"]) (sc := defScope s_full_length) (by decide +kernel)) (fun _ _ _ _ _ => (pg_name (i := 4) sc_full_length.nd rfl (Or.inl rfl))) (fun _ _ _ _ _ => pts_nil) (fun _ _ _ _ _ => (pe_own D_length_of (hr.mono (by omega)) (by rfl) (pa_cons (pv 4) pa_nil))))
      (pss_cons (ps_if (pt_cmpR op_in_seq pe_non (pv 3) (by rfl)) (pss_one (ps_ret pe_non)) pss_nil)
      (pss_one (ps_ret (pe_callB (cr_max rfl) (by rfl) T.b_max (by decide +kernel) (pa_cons (pe_op op_cat (pv 3) (pe_lst (pa_cons (pe_own D_moved (hr.mono (by omega)) (by rfl) (pa_cons (pv 2) pa_nil)) pa_nil))) pa_nil))))))), ?_⟩
    obtain ⟨p, lv, wv, rfl, hp, ⟨pl, vs, rfl, hq, pd⟩, hw⟩ := hsh
    obtain ⟨v1, v4, vl⟩ := vL
    have hl : vs.length = ls.length := Paired.length pd
    refine ⟨_, rfl, p, _, rfl, hp, rfl, _, _, rfl, _, _, rfl, rfl, ?_⟩
    refine ⟨_, rfl, pl, rfl, ⟨_, hq⟩, fun D hD => ?_⟩
    refine lcmap_tup (ls.map fun l => bkV (lenL l)) (by simp [hl]) (by omega) hq hD (fun i x y H2 R Z hx hy s2 hR => ?_) (fun H2 s2 hL => ?_)
    · obtain ⟨l, hl1, hly⟩ := Paired.at pd hx
      have ey : y = bkV (lenL l) := by
        rw [List.getElem?_map, hl1] at hy
        exact (Option.some.inj hy).symm
      subst ey
      exact ⟨rfl, yes_ok ⟨_, rfl, x, l, rfl, hly.keep (Same.tk s2), vl l (List.mem_of_getElem? hl1), hR⟩⟩
    · have hfl : (ls.map fun l => bkV (lenL l)).all flatV = true := List.all_eq_true.mpr fun z hz => by
        obtain ⟨l, _, rfl⟩ := List.mem_map.mp hz
        exact bk_flat _
      refine ⟨_, rfl, D, _, rfl, .inl (.inl (.inl hL)), rfl, hfl, _, rfl, ite2 (fun e => ?_) (fun e => ?_)⟩
      · exact q _ none s2 (.inl ⟨(in_ends ls).mp e, rfl⟩)
      · obtain ⟨h1, h2⟩ := all_ints (fun z => e ((in_ends ls).mpr z))
        rw [h2] at hL
        refine ⟨_, rfl, _, rfl, wv, x, y, ms, rfl, hw.keep (Same.tk s2), vw.2.2.1, fun H3 s3 => ⟨(by show 1 ≤ sizeLine; decide), fun p4 np4 => ?_⟩⟩
        obtain ⟨s4, e4⟩ := new_at (.lst [.int (mtot ms)]) np4
        generalize upd H3 p4 (.lst [.int (mtot ms)]) = H4 at s4 e4 ⊢
        refine ⟨D, p4, _, _, rfl, rfl, s4 _ _ (s3 _ _ hL), e4, ?_, fun p5 np5 => ?_⟩
        · rw [List.length_map, List.length_map]
          exact Nat.le_of_lt (small1000 (by show ls.length + 1 ≤ 1000; omega))
        · refine ⟨p5, ls.map (fun l => tot l.1) ++ [mtot ms], rfl, .inl (.inl ?_), by simp, fun m hm hx => ?_⟩
          · rw [upd_same, List.map_append]
            rfl
          · exact q _ (some m) (((s2.trans s3).trans s4).trans (same_upd np5)) (.inr ⟨h1, m, rfl, hm, hx⟩)
end

section
variable {P : Program} {w : World} {K : PySem.W.Frag} {mg : Str → Option Value} {base : Heap}
def sp_common_divisor (K : PySem.W.Frag) : Sp := fun vs H Q _ => ∃ a b : Nat, vs = [.int a, .int b] ∧ Q (.int ((Nat.gcd a b : Nat) : Int)) H
theorem ok_common_divisor {f : Addr} {fd : FuncData} (F : Fun K "common_divisor" "common_divisor" s_common_divisor f fd) (T : Txt K mg) : FnOk P w K mg base CX0 1 f fd ["one", "other"] (sp_common_divisor K) := by
  refine F.ok sc_common_divisor (fun vs H Q E h => ?_) (fun cdv A outer s H vs Q E hr h => ?_)
  · obtain ⟨a, b, rfl, _⟩ := h
    rfl
  · obtain ⟨a, b, rfl, q⟩ := h
    refine ⟨_, (pss_cons (ps_while PassesOwn.never (pt_truth (pv 1) (by intro _; rfl)) (pss_one (ps_par (i := 0) (j := 1) (by rfl) sc_common_divisor.nd rfl rfl (by decide) rfl rfl (pa_cons (pv 1) (pa_cons (pe_op op_modN (pv 0) (pv 1)) pa_nil)) (by rfl))))
      (pss_one (ps_ret (pv 0)))), ?_⟩
    refine while_by (fun σ H' => H = H' ∧ ∃ c d : Nat, σ = [some (.int c), some (.int d)] ∧ Nat.gcd c d = Nat.gcd a b) (fun σ _ => match σ with | [_, some (.int d)] => d.toNat | _ => 0) ⟨rfl, a, b, rfl, rfl⟩ ?_ ?_
    · rintro σ H1 ⟨rfl, c, d, rfl, e⟩
      refine ⟨_, rfl, _, rfl, ite2 (fun hd => ?_) (fun hd => ?_)⟩
      · have d0 : (d : Int) ≠ 0 := fun z => by
          rw [z] at hd
          exact absurd hd (by decide)
        refine ⟨_, rfl, _, rfl, _, rfl, _, _, rfl, rfl, d0, _, _, rfl, ⟨rfl, d, c % d, ?_, ?_⟩, ?_⟩
        · show [some (V.int (d : Int)), some (V.int ((c : Int).fmod (d : Int)))] = _
          rw [Int.fmod_eq_emod_of_nonneg _ (by omega)]
          rfl
        · rw [← e, Nat.gcd_comm c d, Nat.gcd_rec d c, Nat.gcd_comm (c % d) d]
        · show ((c : Int).fmod (d : Int)).toNat < (d : Int).toNat
          have := (fm (x := (c : Int)) (m := (d : Int)) (by omega)).2
          omega
      · have d0 : d = 0 := by
          rcases Nat.eq_zero_or_pos d with z | z
          · exact z
          · exact absurd (show ((d : Int) != 0) = true from bne_iff_ne.mpr (by omega)) hd
        subst d0
        rw [Nat.gcd_zero_right] at e
        refine ⟨_, rfl, ?_⟩
        rw [e]
        exact q
    · rintro σ H1 Q1 Q2 hm ⟨v, e1, k, e2, e3⟩
      exact ⟨v, e1, k, e2, hm _ _ e3⟩
def sp_lowest (K : PySem.W.Frag) : Sp := fun vs H Q _ => ∃ t b : Int, vs = [.int t, .int b] ∧ 1 ≤ b ∧ b ≤ 1000 ∧ ∀ H' v, Same H H' → RowAt K H' v (lo t b) → Q v H'
theorem ok_lowest {f : Addr} {fd : FuncData} (F : Fun K "lowest" "lowest" s_lowest f fd) (T : Txt K mg) (D_common_divisor : Cl P w K mg base 1 "common_divisor" ["one", "other"] (sp_common_divisor K)) : FnOk P w K mg base CX0 2 f fd ["top", "bottom"] (sp_lowest K) := by
  refine F.ok sc_lowest (fun vs H Q E h => ?_) (fun cdv A outer s H vs Q E hr h => ?_)
  · obtain ⟨t, b, rfl, _⟩ := h
    rfl
  · obtain ⟨t, b, rfl, h1, h2, q⟩ := h
    refine ⟨_, (pss_cons (ps_set (i := 2) sc_lowest.nd rfl (Or.inl rfl) (pe_own D_common_divisor (hr.mono (by omega)) (by rfl) (pa_cons (pe_callB call_abs (by rfl) T.b_abs (by decide +kernel) (pa_cons (pv 0) pa_nil)) (pa_cons (pv 1) pa_nil))))
      (pss_one (ps_ret (pe_tup (pa_cons (pe_op op_fdivN (pv 0) (pv 2)) (pa_cons (pe_op op_fdivN (pv 1) (pv 2)) pa_nil)))))), ?_⟩
    obtain ⟨g, t', b', eg, gp, et, eb, bp, el, gle, _⟩ := gcd_facts (t := t) (show 0 < b by omega)
    refine ⟨_, rfl, t, rfl, _, rfl, t.natAbs, b.natAbs, ?_, ?_⟩
    · show [V.int (if t < 0 then -t else t), V.int b] = _
      rw [show (if t < 0 then -t else t) = (t.natAbs : Int) by split <;> omega, show b = ((b.natAbs : Nat) : Int) by omega]
      rfl
    rw [eg]
    refine ⟨_, rfl, _, rfl, t, g, rfl, rfl, ⟨by omega, by omega⟩, _, rfl, _, rfl, b, g, rfl, rfl, ⟨by omega, by omega⟩, (by show 2 ≤ sizeLine; decide), fun p np => ?_⟩
    refine q _ _ (same_upd np) ⟨p, rfl, .inl (.inl ?_)⟩
    rw [upd_same]
    show some (HO.tup [V.int (t.fdiv g), V.int (b.fdiv g)]) = _
    rw [Int.fdiv_eq_ediv_of_nonneg t (show 0 ≤ g by omega), Int.fdiv_eq_ediv_of_nonneg b (show 0 ≤ g by omega)]
    unfold lo
    rw [eg]
def sp_on_the_way (K : PySem.W.Frag) : Sp := fun vs H Q _ => ∃ s g k n : Int, vs = [.int s, .int g, .int k, .int n] ∧ (-20 ≤ s ∧ s ≤ 20) ∧ (-20 ≤ g ∧ g ≤ 20) ∧ 1 ≤ n ∧ n ≤ 1000 ∧ ∀ H' v, Same H H' → RowAt K H' v (lo (s * n + (g - s) * k) n) → Q v H'
theorem ok_on_the_way {f : Addr} {fd : FuncData} (F : Fun K "on_the_way" "on_the_way" s_on_the_way f fd) (T : Txt K mg) (D_lowest : Cl P w K mg base 2 "lowest" ["top", "bottom"] (sp_lowest K)) : FnOk P w K mg base CX0 3 f fd ["start", "goal", "step", "many"] (sp_on_the_way K) := by
  refine F.ok sc_on_the_way (fun vs H Q E h => ?_) (fun cdv A outer s H vs Q E hr h => ?_)
  · obtain ⟨s, g, k, n, rfl, _⟩ := h
    rfl
  · obtain ⟨s0, g, k, n, rfl, hs, hg, h1, h2, q⟩ := h
    refine ⟨_, (pss_one (ps_ret (pe_own D_lowest (hr.mono (by omega)) (by rfl) (pa_cons (pe_op op_add (pe_op op_mul (pv 0) (pv 3)) (pe_op op_mul (pe_op op_sub (pv 1) (pv 0)) (pv 2))) (pa_cons (pv 3) pa_nil))))), ?_⟩
    exact ⟨_, rfl, _, rfl, s0, n, rfl, rfl, .inl ⟨by omega, by omega⟩, _, rfl, _, rfl, g, s0, rfl, rfl, _, rfl, g - s0, k, rfl, rfl, .inl ⟨by omega, by omega⟩, _, _, rfl, rfl, _, rfl, _, n, rfl, h1, h2, q⟩
def sp_place_of (K : PySem.W.Frag) : Sp := fun vs H Q _ => ∃ (v : V) (x y : Int) (ms : List MV) (m : Int), vs = [v, .int m] ∧ WinAt K H v x y ms ∧ VWin x y ms ∧ 0 ≤ m ∧ ∀ H' v, Same H H' → PlAt K H' v (plc x y ms m) → Q v H'
theorem ok_place_of {f : Addr} {fd : FuncData} (F : Fun K "place_of" "place_of" s_place_of f fd) (T : Txt K mg) (D_on_the_way : Cl P w K mg base 3 "on_the_way" ["start", "goal", "step", "many"] (sp_on_the_way K)) : FnOk P w K mg base CX0 4 f fd ["window", "moment"] (sp_place_of K) := by
  refine F.ok sc_place_of (fun vs H Q E h => ?_) (fun cdv A outer s H vs Q E hr h => ?_)
  · obtain ⟨v, x, y, ms, m, rfl, _⟩ := h
    rfl
  · obtain ⟨v, x, y, ms, m, rfl, ⟨p, mv, rfl, hp, pm, vs, rfl, hq, pd⟩, ⟨vx, vy, v8, vm⟩, m0, q⟩ := h
    have hl : vs.length = ms.length := Paired.length pd
    refine ⟨_, (pss_cons (ps_asg (pv 0) (pg_tup (by rfl) (pgs_cons (pg_name (i := 2) sc_place_of.nd rfl (Or.inl rfl)) (pgs_cons (pg_name (i := 3) sc_place_of.nd rfl (Or.inl rfl)) (pgs_cons (pg_name (i := 4) sc_place_of.nd rfl (Or.inl rfl)) pgs_nil)))))
      (pss_cons (ps_set (i := 5) sc_place_of.nd rfl (Or.inl rfl) (pv 1))
      (pss_cons (ps_for PassesOwn.never rfl (pi_tup (pv 4)) (pg_tup (by rfl) (pgs_cons (pg_name (i := 6) sc_place_of.nd rfl (Or.inl rfl)) (pgs_cons (pg_name (i := 7) sc_place_of.nd rfl (Or.inl rfl)) (pgs_cons (pg_name (i := 8) sc_place_of.nd rfl (Or.inl rfl)) pgs_nil))))
        (pss_cons (ps_if (pt_cmpR op_lt (pv 5) (pv 8) (nomark _)) (pss_cons (ps_set (i := 9) sc_place_of.nd rfl (Or.inl rfl) (pe_op op_add (pv 5) pe_int))
      (pss_one (ps_ret (pe_tup (pa_cons (pe_own D_on_the_way (hr.mono (by omega)) (by rfl) (pa_cons (pv 2) (pa_cons (pv 6) (pa_cons (pv 9) (pa_cons (pv 8) pa_nil))))) (pa_cons (pe_own D_on_the_way (hr.mono (by omega)) (by rfl) (pa_cons (pv 3) (pa_cons (pv 7) (pa_cons (pv 9) (pa_cons (pv 8) pa_nil))))) pa_nil)))))) pss_nil)
      (pss_cons (ps_aug (i := 5) sc_place_of.nd rfl (Or.inl rfl) (pv 8) ip_sub)
      (pss_one (ps_par (i := 2) (j := 3) (by rfl) sc_place_of.nd rfl rfl (by decide) rfl rfl (pa_cons (pv 6) (pa_cons (pv 7) pa_nil)) (by rfl))))))
      (pss_one (ps_ret (pe_tup (pa_cons (pe_tup (pa_cons (pv 2) (pa_cons pe_int pa_nil))) (pa_cons (pe_tup (pa_cons (pv 3) (pa_cons pe_int pa_nil))) pa_nil)))))))), ?_⟩
    refine ⟨_, rfl, p, _, rfl, hp, rfl, _, _, rfl, _, _, rfl, _, _, rfl, rfl, ?_⟩
    refine ⟨_, rfl, _, rfl, pm, rfl, ⟨_, hq⟩, for_tup (K := K) (a := pm) (xs := vs) (fun i σ H' => H = H' ∧ ∃ (cx cy t : Int) (y6 y7 y8 y9 : Option V), σ = [some (.ref p), some (.int m), some (.int cx), some (.int cy), some (.ref pm), some (.int t), y6, y7, y8, y9] ∧ (-20 ≤ cx ∧ cx ≤ 20) ∧ (-20 ≤ cy ∧ cy ≤ 20) ∧ 0 ≤ t ∧ plc cx cy (ms.drop i) t = plc x y ms m)
      ⟨rfl, x, y, m, _, _, _, _, rfl, vx, vy, m0, rfl⟩ (fun i σ H' _ z => by rw [← z.1]; exact hq) ?_ ?_⟩
    · rintro i v σ H1 hv ⟨rfl, cx, cy, t, y6, y7, y8, y9, rfl, hcx, hcy, t0, e⟩
      obtain ⟨mm, hm1, pw, rfl, hrow⟩ := Paired.at pd hv
      have hi : i < ms.length := (List.getElem?_eq_some_iff.mp hm1).1
      have ed : ms.drop i = mm :: ms.drop (i + 1) := by
        rw [List.drop_eq_getElem_cons hi]
        congr 1
        rw [List.getElem?_eq_getElem hi] at hm1
        exact Option.some.inj hm1
      rw [ed, plc_cons] at e
      obtain ⟨vmx, vmy, vm3, vm4⟩ := vm mm (List.mem_of_getElem? hm1)
      refine ⟨pw, _, rfl, hrow, rfl, _, _, rfl, _, _, rfl, _, _, rfl, rfl, ?_⟩
      refine ⟨_, rfl, _, rfl, t, mm.2.2, rfl, rfl, _, rfl, ite2 (fun c => ?_) (fun c => ?_)⟩
      · have c1 : t < mm.2.2 := of_decide_eq_true c
        rw [if_pos c1] at e
        refine ⟨_, rfl, t, 1, rfl, rfl, ?_⟩
        refine ⟨_, rfl, _, rfl, _, rfl, _, rfl, cx, mm.1, t + 1, mm.2.2, rfl, hcx, vmx, by omega, by omega, fun H2 v1 s2 r2 => ?_⟩
        refine ⟨_, rfl, _, rfl, _, rfl, _, rfl, cy, mm.2.1, t + 1, mm.2.2, rfl, hcy, vmy, by omega, by omega, fun H3 v2 s3 r3 => ?_⟩
        refine ⟨(by show 2 ≤ sizeLine; decide), fun p4 np4 => ?_⟩
        have s4 := same_upd (o := .tup [v1, v2]) np4
        refine q _ _ ((s2.trans s3).trans s4) ?_
        rw [← e]
        exact ⟨p4, v1, v2, rfl, .inl (.inl upd_same), r2.keep (Same.tk (s3.trans s4)), r3.keep (Same.tk s4)⟩
      · have c1 : ¬ t < mm.2.2 := fun z => c (decide_eq_true z)
        rw [if_neg c1] at e
        refine ⟨_, rfl, _, rfl, t, mm.2.2, rfl, rfl, ?_⟩
        refine ⟨_, rfl, _, rfl, _, _, rfl, ?_⟩
        exact ⟨rfl, mm.1, mm.2.1, t - mm.2.2, _, _, _, _, rfl, vmx, vmy, by omega, e⟩
    · rintro σ H1 ⟨rfl, cx, cy, t, y6, y7, y8, y9, rfl, hcx, hcy, t0, e⟩
      rw [List.drop_of_length_le (by omega), plc_nil] at e
      refine ⟨_, rfl, (by show 2 ≤ sizeLine; decide), fun p1 np1 => ?_⟩
      have s1 := same_upd (o := .tup [.int cx, .int 1]) np1
      refine ⟨_, rfl, (by show 2 ≤ sizeLine; decide), fun p2 np2 => ?_⟩
      have s2 := same_upd (o := .tup [.int cy, .int 1]) np2
      refine ⟨(by show 2 ≤ sizeLine; decide), fun p3 np3 => ?_⟩
      have s3 := same_upd (o := .tup [.ref p1, .ref p2]) np3
      refine q _ _ ((s1.trans s2).trans s3) ?_
      rw [← e]
      exact ⟨p3, _, _, rfl, .inl (.inl upd_same), ⟨p1, rfl, .inl (.inl (s3 _ _ (s2 _ _ upd_same)))⟩, ⟨p2, rfl, .inl (.inl (s3 _ _ upd_same))⟩⟩
end

section
variable {P : Program} {w : World} {K : PySem.W.Frag} {mg : Str → Option Value} {base : Heap}
def sp_picture_of (K : PySem.W.Frag) : Sp := fun vs H Q _ => ∃ (v : V) (ls : List LY) (x y : Int) (ms : List MV) (m : Int), vs = [v, .int m] ∧ ShAt K H v ls x y ms ∧ VLays ls ∧ VWin x y ms ∧ 0 ≤ m ∧ ∀ H' v, Same H H' → PicAt K H' v (pic ls x y ms m) → Q v H'
theorem ok_picture_of {f : Addr} {fd : FuncData} (F : Fun K "picture_of" "picture_of" s_picture_of f fd) (T : Txt K mg) (D_drawing_of : Cl P w K mg base 3 "drawing_of" ["layer", "moment"] (sp_drawing_of K)) (D_place_of : Cl P w K mg base 4 "place_of" ["window", "moment"] (sp_place_of K)) : FnOk P w K mg base CX0 5 f fd ["sheet", "moment"] (sp_picture_of K) := by
  refine F.ok sc_picture_of (fun vs H Q E h => ?_) (fun cdv A outer s H vs Q E hr h => ?_)
  · obtain ⟨v, ls, x, y, ms, m, rfl, _⟩ := h
    rfl
  · obtain ⟨v, ls, x, y, ms, m, rfl, ⟨p, lv, wv, rfl, hp, ⟨pl, vs, rfl, hq, pd⟩, hw⟩, ⟨v1, v4, vl⟩, vw, m0, q⟩ := h
    have hl : vs.length = ls.length := Paired.length pd
    refine ⟨_, (pss_cons (ps_asg (pv 0) (pg_tup (by rfl) (pgs_cons (pg_name (i := 2) sc_picture_of.nd rfl (Or.inl rfl)) (pgs_cons (pg_name (i := 3) sc_picture_of.nd rfl (Or.inl rfl)) pgs_nil))))
      (pss_cons (ps_set (i := 4) sc_picture_of.nd rfl (Or.inl rfl) (pe_callTy call_tuple_of (by rfl) T.b_tuple (by decide +kernel) (pa_cons (pe_lc (own := [("layer", 5)]) (g := (gName 5)) (tt := tYes) (by rfl) sc_picture_of.nd (pi_tup (pv 2)) (blkOk_by (own := [("layer", 5)]) (N := ["sheet", "moment", "layers", "window", "drawings", "layer"]) (sc := defScope s_picture_of) (by decide +kernel)) (fun _ _ _ _ _ => (pg_name (i := 5) sc_picture_of.nd rfl (Or.inl rfl))) (fun _ _ _ _ _ => pts_nil) (fun _ _ _ _ _ => (pe_own D_drawing_of (hr.mono (by omega)) (by rfl) (pa_cons (pv 5) (pa_cons (pv 1) pa_nil))))) pa_nil)))
      (pss_one (ps_ret (pe_tup (pa_cons (pv 4) (pa_cons (pe_own D_place_of (hr.mono (by omega)) (by rfl) (pa_cons (pv 3) (pa_cons (pv 1) pa_nil))) pa_nil))))))), ?_⟩
    refine ⟨_, rfl, p, _, rfl, hp, rfl, _, _, rfl, _, _, rfl, rfl, ?_⟩
    refine ⟨_, rfl, pl, rfl, ⟨_, hq⟩, fun D hD => ?_⟩
    refine lcmap_tup ((ls.map fun l => shown l.1 l.2 m).map V.int) (by simp [hl]) (by omega) hq hD (fun i x y H2 R Z hx hy s2 hR => ?_) (fun H2 s2 hL => ?_)
    · obtain ⟨l, hl1, hly⟩ := Paired.at pd hx
      have ey : y = .int (shown l.1 l.2 m) := by
        rw [List.map_map, List.getElem?_map, hl1] at hy
        exact (Option.some.inj hy).symm
      subst ey
      have vl1 := vl l (List.mem_of_getElem? hl1)
      exact ⟨rfl, yes_ok ⟨_, rfl, _, rfl, x, l.1, l.2, m, rfl, LayAt.keep (Same.tk s2) hly, vl1.1, vl1.2, hR⟩⟩
    · refine ⟨D, _, rfl, .inl ⟨.inl (.inl hL), fun b nb => ?_⟩⟩
      obtain ⟨s3, e3⟩ := new_at (.tup ((ls.map fun l => shown l.1 l.2 m).map V.int)) nb
      refine ⟨_, rfl, _, rfl, _, rfl, wv, x, y, ms, m, rfl, hw.keep (Same.tk (s2.trans s3)), vw, m0, fun H4 v4 s4 p4 => ⟨(by show 2 ≤ sizeLine; decide), fun p5 np5 => ?_⟩⟩
      have s5 := same_upd (o := .tup [.ref b, v4]) np5
      exact q _ _ (((s2.trans s3).trans s4).trans s5) ⟨p5, b, v4, rfl, .inl (.inl upd_same), .inl (.inl (s5 _ _ (s4 _ _ e3))), p4.keep (Same.tk s5)⟩
def sp_picture_at (K : PySem.W.Frag) : Sp := fun vs H Q _ => ∃ (v : V) (ls : List LY) (x y : Int) (ms : List MV) (m : Int), vs = [v, .int m] ∧ ShAt K H v ls x y ms ∧ VLays ls ∧ VWin x y ms ∧ 0 ≤ m ∧ m ≤ 1000000000 ∧ ∀ H' v, Same H H' → PicAt K H' v (pic ls x y ms m) → Q v H'
theorem ok_picture_at {f : Addr} {fd : FuncData} (F : Fun K "picture_at" "picture_at" s_picture_at f fd) (T : Txt K mg) (D_need_sheet : Cl P w K mg base 7 "need_sheet" ["thing"] (sp_need_sheet K)) (D_need_moment : Cl P w K mg base 3 "need_moment" ["thing"] (sp_need_moment K)) (D_picture_of : Cl P w K mg base 5 "picture_of" ["sheet", "moment"] (sp_picture_of K)) : FnOk P w K mg base CX0 8 f fd ["sheet", "moment"] (sp_picture_at K) := by
  refine F.ok sc_picture_at (fun vs H Q E h => ?_) (fun cdv A outer s H vs Q E hr h => ?_)
  · obtain ⟨v, ls, x, y, ms, m, rfl, _⟩ := h
    rfl
  · obtain ⟨v, ls, x, y, ms, m, rfl, hsh, vL, vw, m0, m1, q⟩ := h
    refine ⟨_, (pss_cons (ps_expr (pe_own D_need_sheet (hr.mono (by omega)) (by rfl) (pa_cons (pv 0) pa_nil)))
      (pss_cons (ps_expr (pe_own D_need_moment (hr.mono (by omega)) (by rfl) (pa_cons (pv 1) pa_nil)))
      (pss_one (ps_ret (pe_own D_picture_of (hr.mono (by omega)) (by rfl) (pa_cons (pv 0) (pa_cons (pv 1) pa_nil))))))), ?_⟩
    refine ⟨_, rfl, v, ls, x, y, ms, rfl, hsh, vL, vw, fun H1 s1 => ?_⟩
    refine ⟨_, rfl, m, rfl, m0, m1, ?_⟩
    exact ⟨_, rfl, _, rfl, v, ls, x, y, ms, m, rfl, hsh.keep (Same.tk s1), vL, vw, m0, fun H2 v2 s2 r2 => q _ _ (s1.trans s2) r2⟩
end

section
variable {P : Program} {w : World} {K : PySem.W.Frag} {mg : Str → Option Value} {base : Heap}
def sp_TooMany_init (c : Nat → Addr) (K : PySem.W.Frag) : Sp := fun vs H Q _ => ∃ (a : Addr) (m n : V), vs = [.ref a, m, n] ∧ OexC K (c 14) ∧ PySem.W.findIn K (.ref (c 14)) "many" = some none ∧ PySem.W.findIn K (.ref (c 14)) "most" = some none ∧ H a = some (exo a (c 14) none) ∧
  ∀ H' d, H' a = some (exo a (c 14) (some d)) → H' d = some (exd d [("most", n), ("many", m)]) → H d = none → (∀ b o, b ≠ a → H b = some o → H' b = some o) → Q .non H'
theorem ok_TooMany_init {f : Addr} {fd : FuncData} {c : Nat → Addr} (F : Fun K "__init__" "TooMany.__init__" s_TooMany_init f fd) : FnOk P w K mg base CX0 1 f fd ["self", "many", "most"] (sp_TooMany_init c K) := by
  refine F.ok sc_TooMany_init (fun vs H Q E h => ?_) (fun cdv A outer s H vs Q E hr h => ?_)
  · obtain ⟨a, m, n, rfl, _⟩ := h
    rfl
  · obtain ⟨a, m, n, rfl, o, f1, f2, ha, q⟩ := h
    refine ⟨_, (pss_cons (ps_ost (pv 0) (pv 1))
      (pss_one (ps_ost (pv 0) (pv 2)))), ?_⟩
    refine ⟨_, rfl, _, rfl, a, c 14, rfl, o, f1, .inl ⟨ha, fun d nd da => ?_⟩⟩
    refine ⟨_, rfl, _, rfl, a, c 14, rfl, o, f2, .inr ⟨d, [("many", m)], upd_same, ?_, (by show 1 ≤ 900; decide), ?_⟩⟩
    · rw [upd_ne da, upd_same]
    · refine q _ d ?_ upd_same nd fun b o' hb e => ?_
      · rw [upd_ne (Ne.symm da), upd_same]
      · rw [upd_ne (ne_of_none e nd), upd_ne hb, upd_ne (ne_of_none e nd)]
        exact e
def sp_need_at_most (K : PySem.W.Frag) (c : Nat → Addr) : Sp := fun vs H Q E => ∃ m n : Int, vs = [.int m, .int n] ∧ (m ≤ n → Q .non H) ∧ (n < m → ∀ H' d, Same H H' → H d = none → H' d = some (.xd [("most", .int n), ("many", .int m)]) → E (.ref (c 14)) (some d) H')
theorem ok_need_at_most {f : Addr} {fd : FuncData} {c : Nat → Addr} {LE : Addr} (F : Fun K "need_at_most" "need_at_most" s_need_at_most f fd) (T : Txt K mg) (TX : ExcN K mg c LE) (TI : IniT P w K mg base (c 14) 3 (sp_TooMany_init c K)) : FnOk P w K mg base (L2.CX P w) 3 f fd ["many", "most"] (sp_need_at_most K c) := by
  refine F.okX sc_need_at_most (fun vs H Q E h => ?_) (fun cdv A outer s H vs Q E hr h => ?_)
  · obtain ⟨m, n, rfl, _⟩ := h
    rfl
  · obtain ⟨m, n, rfl, q1, q2⟩ := h
    refine ⟨_, (pss_one (ps_if (pt_cmpR op_gt (pv 0) (pv 1) (nomark _)) (pss_one (ps_raise rfl (takes_of rfl rfl rfl rfl) (pmk_init TI (hr.mono (by omega)) (by rfl) (TX.g 14 "TooMany" rfl) (pa_cons (pv 0) (pa_cons (pv 1) pa_nil))))) pss_nil)), ?_⟩
    refine ⟨_, rfl, _, rfl, m, n, rfl, rfl, _, rfl, ite2 (fun e => ?_) (fun e => ?_)⟩
    · have e1 : n < m := of_decide_eq_true e
      obtain ⟨_, _, _, ox, _⟩ := TI.ex
      refine ⟨_, rfl, _, rfl, (by show 2 ≤ 1000; decide), fun a na => ⟨a, _, _, rfl, ox, TX.n1, TX.n2, upd_same, fun H' d e1' e2' nd hk => ⟨rfl, d, _, e1', e2', ?_, ?_⟩⟩⟩
      · have : d ≠ a := fun z => by rw [z, upd_same] at nd; cases nd
        rw [upd_ne this] at nd
        exact nd
      · have da : d ≠ a := fun z => by rw [z, upd_same] at nd; cases nd
        have nd' : H d = none := by rw [upd_ne da] at nd; exact nd
        refine q2 e1 _ d (fun b o hb => ?_) nd' upd_same
        have ba : b ≠ a := ne_of_none hb na
        rw [upd_ne (ne_of_none hb nd'), del_ne ba]
        exact hk b o ba (by rw [upd_ne ba]; exact hb)
    · exact q1 (by have := of_decide_eq_false (Bool.eq_false_iff.mpr e); omega)
end

section
variable {P : Program} {w : World} {K : PySem.W.Frag} {mg : Str → Option Value} {base : Heap}
def sp_filling (K : PySem.W.Frag) : Sp := fun vs H Q _ => ∃ n : Int, vs = [.int n, .int 24] ∧ 0 ≤ n ∧ n ≤ 192 ∧ ∀ H' p, Same H H' → H p = none → H' p = some (.lst ((fill n).map V.int)) → Q (.ref p) H'
theorem ok_filling {f : Addr} {fd : FuncData} (F : Fun K "filling" "filling" s_filling f fd) (T : Txt K mg) : FnOk P w K mg base CX0 1 f fd ["many", "most"] (sp_filling K) := by
  refine F.ok sc_filling (fun vs H Q E h => ?_) (fun cdv A outer s H vs Q E hr h => ?_)
  · obtain ⟨n, rfl, _⟩ := h
    rfl
  · obtain ⟨n, rfl, n0, n1, q⟩ := h
    refine ⟨_, (pss_cons (ps_asg (pe_callB call_divmod (by rfl) T.b_divmod (by decide +kernel) (pa_cons (pv 0) (pa_cons (pv 1) pa_nil))) (pg_tup (by rfl) (pgs_cons (pg_name (i := 2) sc_filling.nd rfl (Or.inl rfl)) (pgs_cons (pg_name (i := 3) sc_filling.nd rfl (Or.inl rfl)) pgs_nil))))
      (pss_one (ps_ret (pe_op op_cat (pe_op op_rep (pe_lst (pa_cons (pv 1) pa_nil)) (pv 2)) (pe_ifExp (pt_truth (pv 3) (by intro _; rfl)) (pe_lst (pa_cons (pv 3) pa_nil)) (pe_lst pa_nil)))))), ?_⟩
    refine ⟨_, rfl, _, rfl, n, 24, rfl, ⟨by decide, by decide⟩, fun p1 np1 => ?_⟩
    obtain ⟨s1, e1⟩ := new_at (.tup [.int (n / 24), .int (n % 24)]) np1
    generalize upd H p1 (.tup [.int (n / 24), .int (n % 24)]) = H1 at s1 e1 ⊢
    refine ⟨p1, _, rfl, .inl (.inl e1), rfl, _, _, rfl, _, _, rfl, rfl, ?_⟩
    refine ⟨_, rfl, (by show 1 ≤ sizeLine; decide), fun p2 np2 => ?_⟩
    obtain ⟨s2, e2⟩ := new_at (.lst [.int 24]) np2
    generalize upd H1 p2 (.lst [.int 24]) = H2 at s2 e2 ⊢
    refine ⟨_, rfl, p2, _, _, rfl, rfl, e2, by omega, by omega, ?_, fun p3 np3 => ?_⟩
    · show 1 * (n / 24).toNat ≤ sizeLine
      exact Nat.le_of_lt (small1000 (by omega))
    obtain ⟨s3, e3⟩ := new_at (.lst (List.replicate (n / 24).toNat [V.int 24]).flatten) np3
    generalize upd H2 p3 (.lst (List.replicate (n / 24).toNat [V.int 24]).flatten) = H3 at s3 e3 ⊢
    have ef : (List.replicate (n / 24).toNat [V.int 24]).flatten = (List.replicate (n / 24).toNat (24 : Int)).map V.int := by
      generalize (n / 24).toNat = k
      induction k with
      | zero => rfl
      | succ k ih => rw [List.replicate_succ, List.replicate_succ, List.flatten_cons, ih]; rfl
    rw [ef] at e3
    have s13 := (s1.trans s2).trans s3
    have fin : ∀ (H4 : Hp) (p4 : Addr) (r : List Int), Same H3 H4 → H4 p4 = some (.lst (r.map V.int)) → r = (if n % 24 = 0 then [] else [n % 24]) →
        rCat (.ref p3) (.ref p4) H4 Q := fun H4 p4 r s4 e4 hr => by
      refine ⟨p3, p4, _, _, rfl, rfl, s4 _ _ e3, e4, ?_, fun p5 np5 => ?_⟩
      · have := fill_len n0 n1
        unfold fill at this
        rw [← hr, List.length_append, List.length_replicate] at this
        rw [List.length_map, List.length_map, List.length_replicate]
        exact Nat.le_of_lt (small1000 (by omega))
      · refine q _ p5 ((s13.trans s4).trans (same_upd np5)) ((s13.trans s4).free np5) ?_
        rw [upd_same, ← List.map_append, hr]
        rfl
    refine ⟨_, rfl, n % 24 != 0, rfl, ?_⟩
    by_cases z : n % 24 = 0
    · rw [show (n % 24 != 0) = false by simp [z]]
      refine iteF ⟨Nat.zero_le _, fun p4 np4 => ?_⟩
      exact fin _ p4 [] (same_upd np4) upd_same (by rw [if_pos z])
    · rw [show (n % 24 != 0) = true by simp [z]]
      refine iteT ⟨_, rfl, (by show 1 ≤ sizeLine; decide), fun p4 np4 => ?_⟩
      exact fin _ p4 [n % 24] (same_upd np4) upd_same (by rw [if_neg z])
def sp_rows_for (K : PySem.W.Frag) : Sp := fun vs H Q _ => ∃ (v : V) (rs : List RW) (L : Int), vs = [v, .int L] ∧ RowsAt K H v rs ∧ rs.length ≤ 8 ∧ 0 ≤ L - tot rs ∧ L - tot rs ≤ 192 ∧ ∀ H' v', Same H H' → RowsAt K H' v' (padR rs L) → Q v' H'
theorem ok_rows_for {f : Addr} {fd : FuncData} (F : Fun K "rows_for" "rows_for" s_rows_for f fd) (T : Txt K mg) (D_filling : Cl P w K mg base 1 "filling" ["many", "most"] (sp_filling K)) (D_held : Cl P w K mg base 1 "held" ["rows"] (sp_held K)) : FnOk P w K mg base CX0 2 f fd ["rows", "length"] (sp_rows_for K) := by
  refine F.ok sc_rows_for (fun vs H Q E h => ?_) (fun cdv A outer s H vs Q E hr h => ?_)
  · obtain ⟨v, rs, L, rfl, _⟩ := h
    rfl
  · obtain ⟨v, rs, L, rfl, hR, v8, l0, l1, q⟩ := h
    obtain ⟨pr, us, rfl, hq, pd⟩ := id hR
    have lus := Paired.length pd
    have lf := fill_len l0 l1
    refine ⟨_, (pss_one (ps_ret (pe_op op_catA (pv 0) (pe_callTy call_tuple_of (by rfl) T.b_tuple (by decide +kernel) (pa_cons (pe_lc (own := [("hold", 2)]) (g := (gName 2)) (tt := tYes) (by rfl) sc_rows_for.nd (pi_list (pe_own D_filling (hr.mono (by omega)) (by rfl) (pa_cons (pe_op op_sub (pv 1) (pe_own D_held (hr.mono (by omega)) (by rfl) (pa_cons (pv 0) pa_nil))) (pa_cons (pe_gint (by rfl) T.c_MOST_HOLD) pa_nil)))) (blkOk_by (own := [("hold", 2)]) (N := ["rows", "length", "hold"]) (sc := defScope s_rows_for) (by decide +kernel)) (fun _ _ _ _ _ => (pg_name (i := 2) sc_rows_for.nd rfl (Or.inl rfl))) (fun _ _ _ _ _ => pts_nil) (fun _ _ _ _ _ => (pe_tup (pa_cons pe_int (pa_cons (pv 2) pa_nil))))) pa_nil))))), ?_⟩
    refine ⟨_, rfl, _, rfl, _, rfl, .ref pr, rs, rfl, hR, by omega, fun H1 s1 => ⟨_, _, rfl, rfl, _, rfl, l0, l1, fun H2 F s2 nF eF => ?_⟩⟩
    refine ⟨F, rfl, ⟨_, .inl (.inl eF)⟩, fun D hD => ?_⟩
    refine lc_list (K := K) (a := F) (xs := (fill (L - tot rs)).map V.int) (fun i H' => Same H2 H' ∧ ∃ ws, H' D = some (.lst ws) ∧ ws.length = i ∧ Paired (RowAt K H') ws (((fill (L - tot rs)).take i).map fun h => (0, h)))
      ⟨same_upd hD, [], upd_same, rfl, .nil⟩ (fun i H' _ z => .inl (.inl (z.1 _ _ eF))) (fun i u H3 hu p3 => ?_) (fun H3 p3 => ?_)
    · obtain ⟨s3, ws, eD, lw, pw⟩ := p3
      rw [List.getElem?_map] at hu
      obtain ⟨z, hz, rfl⟩ := Option.map_eq_some_iff.mp hu
      have hi : i < (fill (L - tot rs)).length := (List.getElem?_eq_some_iff.mp hz).1
      refine ⟨rfl, yes_ok ⟨_, rfl, (by show 2 ≤ sizeLine; decide), fun p4 np4 => ?_⟩⟩
      have s4 := same_upd (o := .tup [.int 0, .int z]) np4
      have eD4 := s4 _ _ eD
      refine ⟨ws, eD4, small1000 (by omega), fun b o e => ?_, ws ++ [.ref p4], upd_same, by rw [List.length_append, lw]; rfl, ?_⟩
      · rw [upd_ne (ne_of_none e hD)]
        exact s4 _ _ (s3 _ _ e)
      · rw [List.take_add_one, hz, List.map_append]
        exact Paired.snocP (Paired.mono pw fun _ _ => RowAt.keep fun a zs h => tk_updL eD4 _ _ (Same.sqT s4 h)) ⟨p4, rfl, tk_updL eD4 _ _ (.inl (.inl upd_same))⟩
    obtain ⟨s3, ws, eD, lw, pw⟩ := p3
    rw [List.length_map] at lw pw
    rw [List.take_length] at pw
    refine ⟨D, ws, rfl, .inl ⟨.inl (.inl eD), fun T nT => ?_⟩⟩
    obtain ⟨s4, e4⟩ := new_at (.tup ws) nT
    generalize upd H3 T (.tup ws) = H4 at s4 e4 ⊢
    have s14 := ((s1.trans s2).trans s3).trans s4
    refine cat_any (Same.sqT s14 hq) (.inl (.inl e4)) (by omega) fun H5 C s5 hC => ?_
    exact q _ _ (s14.trans s5) ⟨C, _, rfl, hC, Paired.appP (Paired.mono pd fun _ _ => RowAt.keep (Same.tk (s14.trans s5))) (Paired.mono pw fun _ _ => RowAt.keep (Same.tk (s4.trans s5)))⟩
def sp_layer_behind (K : PySem.W.Frag) : Sp := fun vs H Q _ => ∃ (v1 v2 : V) (a b : LY) (L : Int), vs = [v1, v2, .int L] ∧ LyAt K H v1 a ∧ LyAt K H v2 b ∧ VLy a ∧ VLy b ∧ 0 ≤ L - tot a.1 ∧ L - tot a.1 ≤ 192 ∧ ∀ H' v', Same H H' → LyAt K H' v' (lbh L a b) → Q v' H'
theorem ok_layer_behind {f : Addr} {fd : FuncData} (F : Fun K "layer_behind" "layer_behind" s_layer_behind f fd) (T : Txt K mg) (D_rows_for : Cl P w K mg base 2 "rows_for" ["rows", "length"] (sp_rows_for K)) : FnOk P w K mg base CX0 3 f fd ["one", "other", "length"] (sp_layer_behind K) := by
  refine F.ok sc_layer_behind (fun vs H Q E h => ?_) (fun cdv A outer s H vs Q E hr h => ?_)
  · obtain ⟨v1, v2, a, b, L, rfl, _⟩ := h
    rfl
  · obtain ⟨v1, v2, a, b, L, rfl, h1, h2, va, vb, l0, l1, q⟩ := h
    obtain ⟨p1, rv1, rfl, hp1, hR1⟩ := id h1
    obtain ⟨p2, rv2, rfl, hp2, pr2, us2, rfl, hq2, pd2⟩ := id h2
    have l2 := Paired.length pd2
    have v8 := va.1.1
    have w8 := vb.1.1
    have lf := fill_len l0 l1
    refine ⟨_, (pss_cons (ps_asg (pv 1) (pg_tup (by rfl) (pgs_cons (pg_name (i := 3) sc_layer_behind.nd rfl (Or.inl rfl)) (pgs_cons (pg_name (i := 4) sc_layer_behind.nd rfl (Or.inl rfl)) pgs_nil))))
      (pss_cons (ps_set (i := 5) sc_layer_behind.nd rfl (Or.inl rfl) (pe_own D_rows_for (hr.mono (by omega)) (by rfl) (pa_cons (pe_ix ix_tup (pv 0) pe_int (fun _ _ => rfl)) (pa_cons (pv 2) pa_nil))))
      (pss_one (ps_ret (pe_tup (pa_cons (pe_op op_catA (pv 5) (pv 3)) (pa_cons (pe_ifExp (pt_cmpR op_isN (pv 4) pe_non (nomark _)) pe_non (pe_op op_add (pe_callB call_len_seq (by rfl) T.b_len (by decide +kernel) (pa_cons (pv 5) pa_nil)) (pv 4))) pa_nil))))))), ?_⟩
    refine ⟨_, rfl, p2, _, rfl, hp2, rfl, _, _, rfl, _, _, rfl, rfl, ?_⟩
    refine ⟨_, rfl, p1, _, 0, _, rfl, rfl, hp1, rfl, _, rfl, rv1, a.1, L, rfl, hR1, v8, l0, l1, fun H1 v3 s1 h3 => ?_⟩
    obtain ⟨pc, us3, rfl, hq3, pd3⟩ := id h3
    have l3 := Paired.length pd3
    have lp : (padR a.1 L).length ≤ 17 := by
      unfold padR
      rw [List.length_append, List.length_map]
      omega
    refine ⟨_, rfl, _, rfl, cat_any hq3 (Same.sqT s1 hq2) (by omega) fun H2 C s2 hC => ?_⟩
    have k1 : TKeep K H1 H2 := Same.tk s2
    have hr : RowsAt K H2 (.ref C) (padR a.1 L ++ b.1) := ⟨C, _, rfl, hC, Paired.appP (Paired.mono pd3 fun _ _ => RowAt.keep k1) (Paired.mono pd2 fun _ _ => RowAt.keep (Same.tk (s1.trans s2)))⟩
    obtain ⟨br, bb⟩ := b
    refine ⟨_, rfl, rfl, _, rfl, ?_⟩
    cases bb with
    | none =>
      refine ite2 (fun _ => ⟨(by show 2 ≤ sizeLine; decide), fun p4 np4 => ?_⟩) (fun e => absurd (decide_eq_true rfl) e)
      have s4 := same_upd (o := .tup [.ref C, .non]) np4
      exact q _ _ ((s1.trans s2).trans s4) ⟨p4, _, rfl, .inl (.inl upd_same), hr.keep (Same.tk s4)⟩
    | some k =>
      refine ite2 (fun e => nomatch (of_decide_eq_true e)) (fun _ => ⟨_, rfl, pc, us3, rfl, .inr (Same.sqT s2 hq3), _, rfl, _, _, rfl, rfl, (by show 2 ≤ sizeLine; decide), fun p4 np4 => ?_⟩)
      rw [l3]
      have s4 := same_upd (o := .tup [.ref C, .int (((padR a.1 L).length : Int) + k)]) np4
      exact q _ _ ((s1.trans s2).trans s4) ⟨p4, _, rfl, .inl (.inl upd_same), hr.keep (Same.tk s4)⟩
def sp_moves_for (K : PySem.W.Frag) : Sp := fun vs H Q _ => ∃ (v : V) (x y : Int) (ms : List MV) (L : Int), vs = [v, .int L] ∧ WinAt K H v x y ms ∧ ms.length ≤ 8 ∧ 0 ≤ L - mtot ms ∧ L - mtot ms ≤ 192 ∧ ∀ H' v', Same H H' → MovesAt K H' v' (padM x y ms L) → Q v' H'
theorem ok_moves_for {f : Addr} {fd : FuncData} (F : Fun K "moves_for" "moves_for" s_moves_for f fd) (T : Txt K mg) (D_filling : Cl P w K mg base 1 "filling" ["many", "most"] (sp_filling K)) (D_moved : Cl P w K mg base 1 "moved" ["window"] (sp_moved K)) : FnOk P w K mg base CX0 2 f fd ["window", "length"] (sp_moves_for K) := by
  refine F.ok sc_moves_for (fun vs H Q E h => ?_) (fun cdv A outer s H vs Q E hr h => ?_)
  · obtain ⟨v, x, y, ms, L, rfl, _⟩ := h
    rfl
  · obtain ⟨v, x, y, ms, L, rfl, hw, v8, l0, l1, q⟩ := h
    obtain ⟨p1, mv, rfl, hp1, pm, us, rfl, hq, pd⟩ := id hw
    have lus := Paired.length pd
    have lf := fill_len l0 l1
    refine ⟨_, (pss_cons (ps_asg (pv 0) (pg_tup (by rfl) (pgs_cons (pg_name (i := 2) sc_moves_for.nd rfl (Or.inr rfl)) (pgs_cons (pg_name (i := 3) sc_moves_for.nd rfl (Or.inr rfl)) (pgs_cons (pg_name (i := 4) sc_moves_for.nd rfl (Or.inl rfl)) pgs_nil)))))
      (C8.pss_cut (ps_if (pt_truth (pv 4) (by intro _; rfl)) (pss_one (ps_asg (pe_slice sl_tupA (pe_ix ix_tup (pv 4) (pe_un un_neg pe_int) (fun _ _ => rfl)) po_none (po_some pe_int)) (pg_tup (by rfl) (pgs_cons (pg_name (i := 2) sc_moves_for.nd rfl (Or.inr rfl)) (pgs_cons (pg_name (i := 3) sc_moves_for.nd rfl (Or.inr rfl)) pgs_nil))))) pss_nil)
      (pss_one (ps_ret (pe_op op_catA (pv 4) (pe_callTy call_tuple_of (by rfl) T.b_tuple (by decide +kernel) (pa_cons (pe_lc (own := [("many", 5)]) (g := (gName 5)) (tt := tYes) (by rfl) sc_moves_for.nd (pi_list (pe_own D_filling (hr.mono (by omega)) (by rfl) (pa_cons (pe_op op_sub (pv 1) (pe_own D_moved (hr.mono (by omega)) (by rfl) (pa_cons (pv 0) pa_nil))) (pa_cons (pe_gint (by rfl) T.c_MOST_MANY) pa_nil)))) (blkOk_by (own := [("many", 5)]) (N := ["window", "length", "x", "y", "moves", "many"]) (sc := defScope s_moves_for) (by decide +kernel)) (fun _ _ _ _ _ => (pg_name (i := 5) sc_moves_for.nd rfl (Or.inl rfl))) (fun _ _ _ _ _ => pts_nil) (fun _ _ _ _ _ => (pe_tup (pa_cons (pv 2) (pa_cons (pv 3) (pa_cons (pv 5) pa_nil)))))) pa_nil))))))), ?_⟩
    refine ⟨_, rfl, p1, _, rfl, hp1, rfl, _, _, rfl, _, _, rfl, _, _, rfl, rfl, ?_⟩
    refine ⟨fun σ' H' => Same H H' ∧ σ' = [some (.ref p1), some (.int L), some (.int (lastXY x y ms).1), some (.int (lastXY x y ms).2), some (.ref pm), none], ?_, ?_⟩
    · refine ⟨_, rfl, !us.isEmpty, .inr (.inl ⟨us, hq, rfl⟩), ?_⟩
      rcases snoc_cases us with rfl | ⟨ws, lv, rfl⟩
      · have em : ms = [] := List.length_eq_zero_iff.mp lus.symm
        subst em
        exact iteF ⟨Same.refl _, rfl⟩
      · rcases snoc_cases ms with em | ⟨qs, m, rfl⟩
        · rw [em] at lus
          simp at lus
        · have hlq : ws.length = qs.length := by
            have := Paired.length pd
            rw [List.length_append, List.length_append] at this
            simpa using this
          obtain ⟨m2, hm2, hmv⟩ := Paired.at (i := ws.length) pd (List.getElem?_concat_length)
          rw [hlq, List.getElem?_concat_length] at hm2
          cases hm2
          obtain ⟨lp, rfl, hlp⟩ := hmv
          rw [show (!(ws ++ [V.ref lp]).isEmpty) = true by simp]
          refine iteT ⟨_, rfl, _, rfl, pm, _, _, _, rfl, rfl, hq, atI_last .., 2, rfl, sl_any hlp fun H2 S s2 hS => ?_⟩
          refine ⟨S, _, rfl, hS, rfl, _, _, rfl, _, _, rfl, rfl, s2, ?_⟩
          have el : lastXY x y (qs ++ [m]) = (m.1, m.2.1) := by
            unfold lastXY
            rw [List.getLast?_append]
            rfl
          rw [el]
          rfl
    rintro σ H1 ⟨s1, rfl⟩
    refine ⟨_, rfl, _, rfl, _, rfl, .ref p1, x, y, ms, rfl, hw.keep (Same.tk s1), v8, fun H2 s2 => ⟨_, _, rfl, rfl, _, rfl, l0, l1, fun H3 F s3 nF eF => ?_⟩⟩
    refine ⟨F, rfl, ⟨_, .inl (.inl eF)⟩, fun D hD => ?_⟩
    refine lc_list (K := K) (a := F) (xs := (fill (L - mtot ms)).map V.int) (fun i H' => Same H3 H' ∧ ∃ ws, H' D = some (.lst ws) ∧ ws.length = i ∧ Paired (MoveAt K H') ws (((fill (L - mtot ms)).take i).map fun h => ((lastXY x y ms).1, (lastXY x y ms).2, h)))
      ⟨same_upd hD, [], upd_same, rfl, .nil⟩ (fun i H' _ z => .inl (.inl (z.1 _ _ eF))) (fun i u H4 hu p4 => ?_) (fun H4 p4 => ?_)
    · obtain ⟨s4, ws, eD, lw, pw⟩ := p4
      rw [List.getElem?_map] at hu
      obtain ⟨z, hz, rfl⟩ := Option.map_eq_some_iff.mp hu
      have hi : i < (fill (L - mtot ms)).length := (List.getElem?_eq_some_iff.mp hz).1
      refine ⟨rfl, yes_ok ⟨_, rfl, _, rfl, _, rfl, (by show 3 ≤ sizeLine; decide), fun p5 np5 => ?_⟩⟩
      have s5 := same_upd (o := .tup [.int (lastXY x y ms).1, .int (lastXY x y ms).2, .int z]) np5
      have eD5 := s5 _ _ eD
      refine ⟨ws, eD5, small1000 (by omega), fun b o e => ?_, ws ++ [.ref p5], upd_same, by rw [List.length_append, lw]; rfl, ?_⟩
      · rw [upd_ne (ne_of_none e hD)]
        exact s5 _ _ (s4 _ _ e)
      · rw [List.take_add_one, hz, List.map_append]
        exact Paired.snocP (Paired.mono pw fun _ _ => MoveAt.keep fun a zs h => tk_updL eD5 _ _ (Same.sqT s5 h)) ⟨p5, rfl, tk_updL eD5 _ _ (.inl (.inl upd_same))⟩
    obtain ⟨s4, ws, eD, lw, pw⟩ := p4
    rw [List.length_map] at lw pw
    rw [List.take_length] at pw
    refine ⟨D, ws, rfl, .inl ⟨.inl (.inl eD), fun T nT => ?_⟩⟩
    obtain ⟨s5, e5⟩ := new_at (.tup ws) nT
    generalize upd H4 T (.tup ws) = H5 at s5 e5 ⊢
    have s15 := (s1.trans (s2.trans s3)).trans (s4.trans s5)
    refine cat_any (Same.sqT s15 hq) (.inl (.inl e5)) (by omega) fun H6 C s6 hC => ?_
    exact q _ _ (s15.trans s6) ⟨C, _, rfl, hC, Paired.appP (Paired.mono pd fun _ _ => MoveAt.keep (Same.tk (s15.trans s6))) (Paired.mono pw fun _ _ => MoveAt.keep (Same.tk (s5.trans s6)))⟩
def sp_window_behind (K : PySem.W.Frag) : Sp := fun vs H Q _ => ∃ (v1 v2 : V) (x1 y1 x2 y2 : Int) (ms1 ms2 : List MV) (L : Int), vs = [v1, v2, .int L] ∧ WinAt K H v1 x1 y1 ms1 ∧ WinAt K H v2 x2 y2 ms2 ∧ ms1.length ≤ 8 ∧ ms2.length ≤ 8 ∧ 0 ≤ L - mtot ms1 ∧ L - mtot ms1 ≤ 192 ∧
  ∀ H' v', Same H H' → WinAt K H' v' x1 y1 (mbh x1 y1 ms1 L x2 y2 ms2) → Q v' H'
theorem ok_window_behind {f : Addr} {fd : FuncData} (F : Fun K "window_behind" "window_behind" s_window_behind f fd) (T : Txt K mg) (D_moves_for : Cl P w K mg base 2 "moves_for" ["window", "length"] (sp_moves_for K)) : FnOk P w K mg base CX0 3 f fd ["one", "other", "length"] (sp_window_behind K) := by
  refine F.ok sc_window_behind (fun vs H Q E h => ?_) (fun cdv A outer s H vs Q E hr h => ?_)
  · obtain ⟨v1, v2, x1, y1, x2, y2, ms1, ms2, L, rfl, _⟩ := h
    rfl
  · obtain ⟨v1, v2, x1, y1, x2, y2, ms1, ms2, L, rfl, h1, h2, m8, n8, l0, l1, q⟩ := h
    obtain ⟨p1, mv1, rfl, hp1, hM1⟩ := id h1
    obtain ⟨p2, mv2, rfl, hp2, pm2, us2, rfl, hq2, pd2⟩ := id h2
    have l2 := Paired.length pd2
    have lf := fill_len l0 l1
    refine ⟨_, (pss_cons (ps_asg (pv 1) (pg_tup (by rfl) (pgs_cons (pg_name (i := 3) sc_window_behind.nd rfl (Or.inl rfl)) (pgs_cons (pg_name (i := 4) sc_window_behind.nd rfl (Or.inl rfl)) (pgs_cons (pg_name (i := 5) sc_window_behind.nd rfl (Or.inl rfl)) pgs_nil)))))
      (pss_one (ps_ret (pe_tup (pa_cons (pe_ix ix_tup (pv 0) pe_int (fun _ _ => rfl)) (pa_cons (pe_ix ix_tup (pv 0) pe_int (fun _ _ => rfl)) (pa_cons (pe_op op_catA (pe_op op_catA (pe_own D_moves_for (hr.mono (by omega)) (by rfl) (pa_cons (pv 0) (pa_cons (pv 2) pa_nil))) (pe_tup (pa_cons (pe_tup (pa_cons (pv 3) (pa_cons (pv 4) (pa_cons pe_int pa_nil)))) pa_nil))) (pv 5)) pa_nil))))))), ?_⟩
    refine ⟨_, rfl, p2, _, rfl, hp2, rfl, _, _, rfl, _, _, rfl, _, _, rfl, rfl, ?_⟩
    refine ⟨_, rfl, p1, _, 0, _, rfl, rfl, hp1, rfl, _, rfl, p1, _, 1, _, rfl, rfl, hp1, rfl, ?_⟩
    refine ⟨_, rfl, _, rfl, .ref p1, x1, y1, ms1, L, rfl, h1, m8, l0, l1, fun H1 v3 s1 h3 => ?_⟩
    obtain ⟨pc, us3, rfl, hq3, pd3⟩ := id h3
    have l3 := Paired.length pd3
    have lp : (padM x1 y1 ms1 L).length ≤ 17 := by
      unfold padM
      rw [List.length_append, List.length_map]
      omega
    refine ⟨_, rfl, _, rfl, (by show 3 ≤ sizeLine; decide), fun p4 np4 => ⟨(by show 1 ≤ sizeLine; decide), fun p5 np5 => ?_⟩⟩
    have s4 := same_upd (o := .tup [.int x2, .int y2, .int 0]) np4
    have s5 := same_upd (o := .tup [.ref p4]) np5
    have e4 := s5 _ _ (upd_same (H := H1) (a := p4) (o := .tup [.int x2, .int y2, .int 0]))
    have e5 : (upd (upd H1 p4 (.tup [.int x2, .int y2, .int 0])) p5 (.tup [.ref p4])) p5 = some (.tup [.ref p4]) := upd_same
    generalize upd (upd H1 p4 (.tup [.int x2, .int y2, .int 0])) p5 (.tup [.ref p4]) = H5 at s5 e4 e5 ⊢
    have s15 := s4.trans s5
    refine cat_any (Same.sqT s15 hq3) (.inl (.inl e5)) (by show us3.length + 1 ≤ 1000; omega) fun H6 C s6 hC => ?_
    refine ⟨_, rfl, cat_any hC (Same.sqT (s1.trans (s15.trans s6)) hq2) (by rw [List.length_append]; show us3.length + 1 + us2.length ≤ 1000; omega) fun H7 C7 s7 hC7 => ⟨(by show 3 ≤ sizeLine; decide), fun p8 np8 => ?_⟩⟩
    have s8 := same_upd (o := .tup [.int x1, .int y1, .ref C7]) np8
    have s18 := (s15.trans s6).trans (s7.trans s8)
    exact q _ _ (s1.trans s18) ⟨p8, _, rfl, .inl (.inl upd_same), C7, _, rfl, Same.sqT s8 hC7, Paired.appP (Paired.appP (Paired.mono pd3 fun _ _ => MoveAt.keep (Same.tk s18)) (.cons ⟨p4, rfl, Same.sqT ((s6.trans s7).trans s8) (.inl (.inl e4))⟩ .nil)) (Paired.mono pd2 fun _ _ => MoveAt.keep (Same.tk (s1.trans s18)))⟩
end

section
variable {P : Program} {w : World} {K : PySem.W.Frag} {mg : Str → Option Value} {base : Heap}
def sp_need_as_many_layers (K : PySem.W.Frag) (c : Nat → Addr) : Sp := fun vs H Q E => ∃ (v1 v2 : V) (ls1 ls2 : List LY) (x1 y1 x2 y2 : Int) (ms1 ms2 : List MV), vs = [v1, v2] ∧ ShAt K H v1 ls1 x1 y1 ms1 ∧ ShAt K H v2 ls2 x2 y2 ms2 ∧ (ls1.length = ls2.length → Q .non H) ∧ (ls1.length ≠ ls2.length → E (.ref (c 7)) none H)
theorem ok_need_as_many_layers {f : Addr} {fd : FuncData} {c : Nat → Addr} {LE : Addr} (F : Fun K "need_as_many_layers" "need_as_many_layers" s_need_as_many_layers f fd) (T : Txt K mg) (TX : ExcN K mg c LE) : FnOk P w K mg base (L2.CX P w) 1 f fd ["one", "other"] (sp_need_as_many_layers K c) := by
  refine F.okX sc_need_as_many_layers (fun vs H Q E h => ?_) (fun cdv A outer s H vs Q E hr h => ?_)
  · obtain ⟨v1, v2, ls1, ls2, x1, y1, x2, y2, ms1, ms2, rfl, _⟩ := h
    rfl
  · obtain ⟨v1, v2, ls1, ls2, x1, y1, x2, y2, ms1, ms2, rfl, h1, h2, q1, q2⟩ := h
    obtain ⟨p1, lv1, wv1, rfl, hp1, ⟨pl1, us1, rfl, hq1, pd1⟩, hw1⟩ := id h1
    obtain ⟨p2, lv2, wv2, rfl, hp2, ⟨pl2, us2, rfl, hq2, pd2⟩, hw2⟩ := id h2
    have l1 := Paired.length pd1
    have l2 := Paired.length pd2
    refine ⟨_, (pss_one (ps_if (pt_cmpR op_ne (pe_callB call_len_seq (by rfl) T.b_len (by decide +kernel) (pa_cons (pe_ix ix_tup (pv 0) pe_int (fun _ _ => rfl)) pa_nil)) (pe_callB call_len_seq (by rfl) T.b_len (by decide +kernel) (pa_cons (pe_ix ix_tup (pv 1) pe_int (fun _ _ => rfl)) pa_nil)) (nomark _)) (pss_one (ps_raise rfl (takes_of rfl rfl rfl rfl) (pmk_own PySem.F.excBase_ValueError (TX.nw 7 (by decide)) (TX.g 7 "Unlike" rfl) (TX.kp 7 (by decide)) (TX.rs (i := 7) (by decide)) rfl))) pss_nil)), ?_⟩
    refine ⟨_, rfl, p1, _, 0, _, rfl, rfl, hp1, rfl, pl1, us1, rfl, .inr hq1, _, rfl, p2, _, 0, _, rfl, rfl, hp2, rfl, pl2, us2, rfl, .inr hq2, rfl, _, rfl, ite2 (fun e => ?_) (fun e => ?_)⟩
    · refine q2 fun z => ?_
      rw [← l1, ← l2] at z
      rw [z] at e
      simp at e
    · refine q1 ?_
      rw [← l1, ← l2]
      apply Decidable.byContradiction
      intro z
      refine e ?_
      simp
      omega
def sp_need_length (K : PySem.W.Frag) (c : Nat → Addr) : Sp := fun vs H Q E => ∃ o : Option Int, vs = [bkV o] ∧ (∀ i, o = some i → Q .non H) ∧ (o = none → E (.ref (c 8)) none H)
theorem ok_need_length {f : Addr} {fd : FuncData} {c : Nat → Addr} {LE : Addr} (F : Fun K "need_length" "need_length" s_need_length f fd) (T : Txt K mg) (TX : ExcN K mg c LE) : FnOk P w K mg base (L2.CX P w) 1 f fd ["length"] (sp_need_length K c) := by
  refine F.okX sc_need_length (fun vs H Q E h => ?_) (fun cdv A outer s H vs Q E hr h => ?_)
  · obtain ⟨o, rfl, _⟩ := h
    rfl
  · obtain ⟨o, rfl, q1, q2⟩ := h
    refine ⟨_, (pss_one (ps_if (pt_cmpR op_isN (pv 0) pe_non (nomark _)) (pss_one (ps_raise rfl (takes_of rfl rfl rfl rfl) (pmk_own PySem.F.excBase_ValueError (TX.nw 8 (by decide)) (TX.g 8 "Endless" rfl) (TX.kp 8 (by decide)) (TX.rs (i := 8) (by decide)) rfl))) pss_nil)), ?_⟩
    refine ⟨_, rfl, rfl, _, rfl, ?_⟩
    cases o with
    | none => exact ite2 (fun _ => q2 rfl) (fun e => absurd (decide_eq_true rfl) e)
    | some i => exact ite2 (fun e => nomatch (of_decide_eq_true e)) (fun _ => q1 i rfl)
def BoEnd (K : PySem.W.Frag) (c : Nat → Addr) (x1 y1 : Int) (H : Hp) (Q : VK) (E : XK) (H' : Hp) : BO → Prop
  | .un => E (.ref (c 7)) none H'
  | .en => E (.ref (c 8)) none H'
  | .mn n => ∀ d, H d = none → H' d = some (.xd [("most", .int 8), ("many", .int (n : Int))]) → E (.ref (c 14)) (some d) H'
  | .ok bl ms => ∀ v, ShAt K H' v bl x1 y1 ms → Q v H'
def sp_behind (K : PySem.W.Frag) (c : Nat → Addr) : Sp := fun vs H Q E => ∃ (v1 v2 : V) (ls1 ls2 : List LY) (x1 y1 x2 y2 : Int) (ms1 ms2 : List MV), vs = [v1, v2] ∧ ShAt K H v1 ls1 x1 y1 ms1 ∧ VLays ls1 ∧ VWin x1 y1 ms1 ∧ ShAt K H v2 ls2 x2 y2 ms2 ∧ VLays ls2 ∧ VWin x2 y2 ms2 ∧
  ∀ o H', IsBo ls1 x1 y1 ms1 ls2 x2 y2 ms2 o → Same H H' → BoEnd K c x1 y1 H Q E H' o
theorem ok_behind {f : Addr} {fd : FuncData} {c : Nat → Addr} {LE : Addr} (F : Fun K "behind" "behind" s_behind f fd) (T : Txt K mg) (TX : ExcN K mg c LE) (D_need_sheet : Cl P w K mg base 7 "need_sheet" ["thing"] (sp_need_sheet K)) (D_need_as_many_layers : ClX P w K mg base 1 "need_as_many_layers" ["one", "other"] (sp_need_as_many_layers K c)) (D_full_length : Cl P w K mg base 3 "full_length" ["sheet"] (sp_full_length K)) (D_need_length : ClX P w K mg base 1 "need_length" ["length"] (sp_need_length K c)) (D_layer_behind : Cl P w K mg base 3 "layer_behind" ["one", "other", "length"] (sp_layer_behind K)) (D_window_behind : Cl P w K mg base 3 "window_behind" ["one", "other", "length"] (sp_window_behind K)) (D_need_at_most : ClX P w K mg base 3 "need_at_most" ["many", "most"] (sp_need_at_most K c)) : FnOk P w K mg base (L2.CX P w) 8 f fd ["one", "other"] (sp_behind K c) := by
  refine F.okX sc_behind (fun vs H Q E h => ?_) (fun cdv A outer s H vs Q E hr h => ?_)
  · obtain ⟨v1, v2, ls1, ls2, x1, y1, x2, y2, ms1, ms2, rfl, _⟩ := h
    rfl
  · obtain ⟨v1, v2, ls1, ls2, x1, y1, x2, y2, ms1, ms2, rfl, h1, vL1, vw1, h2, vL2, vw2, q⟩ := h
    refine ⟨_, (pss_cons (ps_expr (pe_own D_need_sheet (hr.mono (by omega)) (by rfl) (pa_cons (pv 0) pa_nil)))
      (pss_cons (ps_expr (pe_own D_need_sheet (hr.mono (by omega)) (by rfl) (pa_cons (pv 1) pa_nil)))
      (pss_cons (ps_expr (pe_ownX D_need_as_many_layers (hr.mono (by omega)) (takes_of rfl rfl rfl rfl) (by rfl) (pa_cons (pv 0) (pa_cons (pv 1) pa_nil))))
      (pss_cons (ps_set (i := 2) sc_behind.nd rfl (Or.inr rfl) (pe_own D_full_length (hr.mono (by omega)) (by rfl) (pa_cons (pv 0) pa_nil)))
      (pss_cons (ps_expr (pe_ownX D_need_length (hr.mono (by omega)) (takes_of rfl rfl rfl rfl) (by rfl) (pa_cons (pv 2) pa_nil)))
      (pss_cons (ps_set (i := 3) sc_behind.nd rfl (Or.inl rfl) (pe_callTy call_tuple_of (by rfl) T.b_tuple (by decide +kernel) (pa_cons (pe_lc (own := [("first", 7), ("second", 8)]) (g := (gTup _ 2 (gCons (gName 7) (gCons (gName 8) gNil)))) (tt := tYes) (by rfl) sc_behind.nd (RZ.pi_zipA (by rfl) T.b_zip (pa_cons (pe_ix ix_tup (pv 0) pe_int (fun _ _ => rfl)) (pa_cons (pe_ix ix_tup (pv 1) pe_int (fun _ _ => rfl)) pa_nil))) (blkOk_by (own := [("first", 7), ("second", 8)]) (N := ["one", "other", "length", "layers", "window", "rows", "back", "first", "second"]) (sc := defScope s_behind) (by decide +kernel)) (fun _ _ _ _ _ => (pg_tup (by rfl) (pgs_cons (pg_name (i := 7) sc_behind.nd rfl (Or.inl rfl)) (pgs_cons (pg_name (i := 8) sc_behind.nd rfl (Or.inl rfl)) pgs_nil)))) (fun _ _ _ _ _ => pts_nil) (fun _ _ _ _ _ => (pe_own D_layer_behind (hr.mono (by omega)) (by rfl) (pa_cons (pv 7) (pa_cons (pv 8) (pa_cons (pv 2) pa_nil)))))) pa_nil)))
      (pss_cons (ps_set (i := 4) sc_behind.nd rfl (Or.inl rfl) (pe_own D_window_behind (hr.mono (by omega)) (by rfl) (pa_cons (pe_ix ix_tup (pv 0) pe_int (fun _ _ => rfl)) (pa_cons (pe_ix ix_tup (pv 1) pe_int (fun _ _ => rfl)) (pa_cons (pv 2) pa_nil)))))
      (pss_cons (ps_for (passes_of rfl) rfl (pi_tup (pv 3)) (pg_tup (by rfl) (pgs_cons (pg_name (i := 5) sc_behind.nd rfl (Or.inl rfl)) (pgs_cons (pg_name (i := 6) sc_behind.nd rfl (Or.inl rfl)) pgs_nil)))
        (pss_one (ps_expr (pe_ownX D_need_at_most (hr.mono (by omega)) (takes_of rfl rfl rfl rfl) (by rfl) (pa_cons (pe_callB call_len_seq (by rfl) T.b_len (by decide +kernel) (pa_cons (pv 5) pa_nil)) (pa_cons (pe_gint (by rfl) T.c_MOST_ROWS) pa_nil))))))
      (pss_cons (ps_expr (pe_ownX D_need_at_most (hr.mono (by omega)) (takes_of rfl rfl rfl rfl) (by rfl) (pa_cons (pe_callB call_len_seq (by rfl) T.b_len (by decide +kernel) (pa_cons (pe_ix ix_tup (pv 4) pe_int (fun _ _ => rfl)) pa_nil)) (pa_cons (pe_gint (by rfl) T.c_MOST_MOVES) pa_nil))))
      (pss_one (ps_ret (pe_tup (pa_cons (pv 3) (pa_cons (pv 4) pa_nil)))))))))))))), ?_⟩
    refine ⟨_, rfl, v1, ls1, x1, y1, ms1, rfl, h1, vL1, vw1, fun H1 s1 => ?_⟩
    refine ⟨_, rfl, v2, ls2, x2, y2, ms2, rfl, h2.keep (Same.tk s1), vL2, vw2, fun H2 s2 => ?_⟩
    have s12 := s1.trans s2
    refine ⟨_, rfl, _, rfl, v1, v2, ls1, ls2, x1, y1, x2, y2, ms1, ms2, rfl, h1.keep (Same.tk s12), h2.keep (Same.tk s12), fun el => ?_, fun ne => q .un _ (.inl ⟨ne, rfl⟩) s12⟩
    refine ⟨_, rfl, v1, ls1, x1, y1, ms1, rfl, h1.keep (Same.tk s12), vL1, vw1, fun H3 r s3 hr' => ?_⟩
    have s13 := s12.trans s3
    have bo : ∀ o, o = boL ls1 x1 y1 ms1 ls2 x2 y2 ms2 r → IsBo ls1 x1 y1 ms1 ls2 x2 y2 ms2 o := fun o e => .inr ⟨el, r, hr', e⟩
    refine ⟨_, rfl, r, rfl, fun L eL => ?_, fun eL => q .en _ (bo _ (by rw [eL]; rfl)) s13⟩
    subst eL
    obtain ⟨L0, L1, hls, hms⟩ := shLen_bd vL1 vw1 hr'
    obtain ⟨p1, lv1, wv1, rfl, hp1, ⟨pl1, us1, rfl, hq1, pd1⟩, hw1⟩ := h1.keep (Same.tk s13)
    obtain ⟨p2, lv2, wv2, rfl, hp2, ⟨pl2, us2, rfl, hq2, pd2⟩, hw2⟩ := h2.keep (Same.tk s13)
    have l1 := Paired.length pd1
    have l2 := Paired.length pd2
    have n1 := vL1.2.1
    have n2 := vL2.2.1
    have lz : (List.zipWith (lbh L) ls1 ls2).length = us1.length := by rw [List.length_zipWith]; omega
    refine ⟨_, rfl, p1, _, 0, _, rfl, rfl, hp1, rfl, _, rfl, p2, _, 0, _, rfl, rfl, hp2, rfl, pl1, pl2, us1, us2, rfl, .inr ⟨hq1, hq2, fun D hD => ?_⟩⟩
    refine lc_pairs (J := RZ.ItzT K pl1 pl2) (xs := us1) (ys := us2) (fun i H' => Same H3 H' ∧ ∃ ws, H' D = some (.lst ws) ∧ ws.length = i ∧ Paired (LyAt K H') ws ((List.zipWith (lbh L) ls1 ls2).take i))
      ⟨same_upd hD, [], upd_same, rfl, .nil⟩ (fun i H' z hi => ⟨us1, us2, us1[i], us2[i]'(by omega), Same.sqT z.1 hq1, Same.sqT z.1 hq2, List.getElem?_eq_getElem hi, List.getElem?_eq_getElem (by omega)⟩)
      (fun H' z => ⟨us1, us2, Same.sqT z.1 hq1, Same.sqT z.1 hq2, .inl (Nat.le_refl _)⟩)
      (fun i H' v H'' z ⟨T, x, y, e1, e2, e3, f1, f2⟩ => ⟨T, x, y, e1, e2, e3, f1 _ (Same.sqT z.1 hq1), f2 _ (Same.sqT z.1 hq2)⟩) (fun i x y T H4 hx hy p4 nT => ?_) (fun H4 p4 => ?_)
    · obtain ⟨s4, ws, eD, lw, pw⟩ := p4
      obtain ⟨a, ha, hla⟩ := Paired.at pd1 hx
      obtain ⟨b, hb, hlb⟩ := Paired.at pd2 hy
      have hi := (List.getElem?_eq_some_iff.mp hx).1
      have sT := same_upd (o := .tup [x, y]) nT
      have ma := hls a (List.mem_of_getElem? ha)
      have ta := tot_nonneg (vL1.2.2 a (List.mem_of_getElem? ha)).1.2
      refine ⟨T, _, rfl, .inl (.inl upd_same), rfl, _, _, rfl, _, _, rfl, rfl, rfl, yes_ok ⟨_, rfl, _, rfl, _, rfl, x, y, a, b, L, rfl, LyAt.keep (Same.tk (s4.trans sT)) hla, LyAt.keep (Same.tk (s4.trans sT)) hlb, vL1.2.2 a (List.mem_of_getElem? ha), vL2.2.2 b (List.mem_of_getElem? hb), by omega, by omega, fun H5 v5 s5 h5 => ?_⟩⟩
      have s45 := sT.trans s5
      have eD5 := s45 _ _ eD
      refine ⟨ws, eD5, small1000 (by omega), fun b' o' e => ?_, ws ++ [v5], upd_same, by rw [List.length_append, lw]; rfl, ?_⟩
      · rw [upd_ne (ne_of_none e hD)]
        exact s45 _ _ (s4 _ _ e)
      · rw [List.take_add_one, List.getElem?_zipWith, ha, hb]
        exact Paired.snocP (Paired.mono pw fun _ _ => LyAt.keep fun a zs h => tk_updL eD5 _ _ (Same.sqT s45 h)) (LyAt.keep (fun a zs h => tk_updL eD5 _ _ h) h5)
    obtain ⟨s4, ws, eD, lw, pw⟩ := p4
    rw [List.take_of_length_le (by omega)] at pw
    refine ⟨D, ws, rfl, .inl ⟨.inl (.inl eD), fun T nT => ?_⟩⟩
    have s5 := same_upd (o := .tup ws) nT
    have e5 : (upd H4 T (.tup ws)) T = some (.tup ws) := upd_same
    generalize upd H4 T (.tup ws) = H5 at s5 e5 ⊢
    have s35 := s4.trans s5
    have pw5 := Paired.mono pw fun _ _ => LyAt.keep (Same.tk (K := K) s5)
    refine ⟨_, rfl, p1, _, 1, _, rfl, rfl, Same.sqT s35 hp1, rfl, _, rfl, p2, _, 1, _, rfl, rfl, Same.sqT s35 hp2, rfl, _, rfl, wv1, wv2, x1, y1, x2, y2, ms1, ms2, L, rfl, hw1.keep (Same.tk s35), hw2.keep (Same.tk s35), vw1.2.2.1, vw2.2.2.1, by omega, by have := mtot_nonneg vw1.2.2.2; omega, fun H6 W s6 h6 => ?_⟩
    have s16 := s13.trans (s35.trans s6)
    have pw6 := Paired.mono pw5 fun _ _ => LyAt.keep (Same.tk (K := K) s6)
    have hT6 : SqT K H6 T ws := .inl (.inl (s6 _ _ e5))
    obtain ⟨pw', mv, rfl, hpw, pm, um, rfl, hpm, pdm⟩ := id h6
    have lm := Paired.length pdm
    have lzw := Paired.length pw6
    refine ⟨_, rfl, T, rfl, ⟨_, hT6⟩, ?_⟩
    refine for_tup (K := K) (a := T) (xs := ws) (fun i σ H' => H' = H6 ∧ (∀ k ∈ (List.zipWith (lbh L) ls1 ls2).take i, k.1.length ≤ 8) ∧ ∃ y5 y6 y7 y8, σ = [some (.ref p1), some (.ref p2), some (.int L), some (.ref T), some (.ref pw'), y5, y6, y7, y8])
      ⟨rfl, fun k hk => by simp at hk, _, _, _, _, rfl⟩ (fun i σ H' _ z => by rw [z.1]; exact hT6) ?_ ?_
    · rintro i x σ H' hx ⟨rfl, hall, y5, y6, y7, y8, rfl⟩
      obtain ⟨l, hl, pl, rv, rfl, hpl, pr, ur, rfl, hpr, pdr⟩ := Paired.at pw6 hx
      have lr := Paired.length pdr
      refine ⟨pl, _, rfl, hpl, rfl, _, _, rfl, _, _, rfl, rfl, ?_⟩
      refine ⟨_, rfl, pr, ur, rfl, .inr hpr, _, 8, rfl, fun hle => ?_, fun hlt => ?_⟩
      · refine ⟨rfl, fun k hk => ?_, _, _, _, _, rfl⟩
        rw [List.take_add_one, hl] at hk
        rcases List.mem_append.mp hk with z | z
        · exact hall k z
        · have : k = l := by simpa using z
          subst this
          omega
      · intro H' d s' nd e'
        have hb := bo2_at (ms := mbh x1 y1 ms1 L x2 y2 ms2) hall hl (by omega)
        have := q (.mn l.1.length) H' (bo _ hb.symm) (s16.trans s')
        refine this d (s16.free nd) ?_
        rw [e', lr]
    · rintro σ H' ⟨rfl, hall, y5, y6, y7, y8, rfl⟩
      have hall' : ∀ k ∈ List.zipWith (lbh L) ls1 ls2, k.1.length ≤ 8 := fun k hk => hall k (by rw [List.take_of_length_le (by omega)]; exact hk)
      have hb := bo2_all (ms := mbh x1 y1 ms1 L x2 y2 ms2) hall'
      refine ⟨_, rfl, pw', _, 2, _, rfl, rfl, hpw, rfl, pm, um, rfl, .inr hpm, _, 8, rfl, fun hle => ?_, fun hlt => ?_⟩
      · rw [if_neg (by omega)] at hb
        refine ⟨_, rfl, _, rfl, (by show 2 ≤ sizeLine; decide), fun p8 np8 => ?_⟩
        have s8 := same_upd (o := .tup [.ref T, .ref pw']) np8
        exact q (.ok _ _) _ (bo _ hb.symm) (s16.trans s8) _ ⟨p8, _, _, rfl, .inl (.inl upd_same), ⟨T, ws, rfl, Same.sqT s8 hT6, Paired.mono pw6 fun _ _ => LyAt.keep (Same.tk s8)⟩, h6.keep (Same.tk s8)⟩
      · rw [if_pos (by omega)] at hb
        intro H' d s' nd e'
        have := q (.mn _) H' (bo _ hb.symm) (s16.trans s')
        refine this d (s16.free nd) ?_
        rw [e', lm]
end

section
variable {P : Program} {w : World} {K : PySem.W.Frag} {mg : Str → Option Value} {base : Heap}
def sp__law_length (K : PySem.W.Frag) : Sp := fun vs H Q _ => ∃ (v : V) (rs : List RW), vs = [v] ∧ RowsAt K H v rs ∧ rs.length ≤ 1000 ∧ ∀ H', Same H H' → Q (.int (tot rs)) H'
theorem ok__law_length {f : Addr} {fd : FuncData} (F : Fun K "_law_length" "_law_length" s__law_length f fd) (T : Txt K mg) : FnOk P w K mg base CX0 1 f fd ["_law_rows"] (sp__law_length K) := by
  refine F.ok sc__law_length (fun vs H Q E h => ?_) (fun cdv A outer s H vs Q E hr h => ?_)
  · obtain ⟨v, rs, rfl, _⟩ := h
    rfl
  · obtain ⟨v, rs, rfl, ⟨pr, vs, rfl, hq, pd⟩, hz, q⟩ := h
    have hl : vs.length = rs.length := Paired.length pd
    refine ⟨_, (pss_one (ps_ret (pe_callB (cr_sum rfl) (by rfl) T.b_sum (by decide +kernel) (pa_cons (pe_lc (own := [("_law_drawing_here", 1), ("_law_hold", 2)]) (g := (gTup _ 2 (gCons (gName 1) (gCons (gName 2) gNil)))) (tt := tYes) (by rfl) sc__law_length.nd (pi_tup (pv 0)) (blkOk_by (own := [("_law_drawing_here", 1), ("_law_hold", 2)]) (N := ["_law_rows", "_law_drawing_here", "_law_hold"]) (sc := defScope s__law_length) (by decide +kernel)) (fun _ _ _ _ _ => (pg_tup (by rfl) (pgs_cons (pg_name (i := 1) sc__law_length.nd rfl (Or.inl rfl)) (pgs_cons (pg_name (i := 2) sc__law_length.nd rfl (Or.inl rfl)) pgs_nil)))) (fun _ _ _ _ _ => pts_nil) (fun _ _ _ _ _ => (pv 2))) pa_nil)))), ?_⟩
    refine ⟨_, rfl, pr, rfl, ⟨_, hq⟩, fun D hD => ?_⟩
    refine lcmap_tup ((rs.map (·.2)).map V.int) (by simp [hl]) (by omega) hq hD (fun i x y H2 R Z hx hy s2 hR => ?_) (fun H2 s2 hL => ?_)
    · obtain ⟨r, hr1, p, rfl, hrow⟩ := Paired.at pd hx
      have ey : y = .int r.2 := by
        rw [List.map_map, List.getElem?_map, hr1] at hy
        exact (Option.some.inj hy).symm
      subst ey
      exact ⟨p, _, rfl, Same.sqT s2 hrow, rfl, _, _, rfl, _, _, rfl, rfl, rfl, yes_ok ⟨_, rfl, hR _ (Same.refl _)⟩⟩
    · exact ⟨D, _, rfl, .inl (.inl hL), q _ s2⟩
def sp__law_layer_end (K : PySem.W.Frag) : Sp := fun vs H Q _ => ∃ (v : V) (l : LY), vs = [v] ∧ LyAt K H v l ∧ VLy l ∧ ∀ H', Same H H' → Q (bkV (lenL l)) H'
theorem ok__law_layer_end {f : Addr} {fd : FuncData} (F : Fun K "_law_layer_end" "_law_layer_end" s__law_layer_end f fd) (T : Txt K mg) (D__law_length : Cl P w K mg base 1 "_law_length" ["_law_rows"] (sp__law_length K)) : FnOk P w K mg base CX0 2 f fd ["_law_layer_here"] (sp__law_layer_end K) := by
  refine F.ok sc__law_layer_end (fun vs H Q E h => ?_) (fun cdv A outer s H vs Q E hr h => ?_)
  · obtain ⟨v, l, rfl, _⟩ := h
    rfl
  · obtain ⟨v, ⟨rs, bk⟩, rfl, ⟨p, rv, rfl, hp, hq⟩, ⟨v8, vb⟩, q⟩ := h
    have := v8.1
    refine ⟨_, (pss_one (ps_ret (pe_ifExp (pt_cmpR op_notN (pe_ix ix_tup (pv 0) pe_int (fun _ _ => rfl)) pe_non (nomark _)) pe_non (pe_own D__law_length (hr.mono (by omega)) (by rfl) (pa_cons (pe_ix ix_tup (pv 0) pe_int (fun _ _ => rfl)) pa_nil))))), ?_⟩
    refine ⟨_, rfl, p, _, 1, _, rfl, rfl, hp, rfl, rfl, _, rfl, ?_⟩
    cases bk with
    | none =>
      refine ite2 (fun e => nomatch (show false = true from e)) (fun _ => ⟨_, rfl, p, _, 0, _, rfl, rfl, hp, rfl, rv, rs, rfl, hq, ?_, q⟩)
      dsimp only at this
      omega
    | some b => exact ite2 (fun _ => q _ (Same.refl _)) (fun e => absurd rfl e)
def sp__law_window_end (K : PySem.W.Frag) : Sp := fun vs H Q _ => ∃ (v : V) (x y : Int) (ms : List MV), vs = [v] ∧ WinAt K H v x y ms ∧ ms.length ≤ 8 ∧ ∀ H', Same H H' → Q (.int (mtot ms)) H'
theorem ok__law_window_end {f : Addr} {fd : FuncData} (F : Fun K "_law_window_end" "_law_window_end" s__law_window_end f fd) (T : Txt K mg) : FnOk P w K mg base CX0 1 f fd ["_law_window_here"] (sp__law_window_end K) := by
  refine F.ok sc__law_window_end (fun vs H Q E h => ?_) (fun cdv A outer s H vs Q E hr h => ?_)
  · obtain ⟨v, x, y, ms, rfl, _⟩ := h
    rfl
  · obtain ⟨v, x, y, ms, rfl, ⟨p, mv, rfl, hp, pm, vs, rfl, hq, pd⟩, hz, q⟩ := h
    have hl : vs.length = ms.length := Paired.length pd
    refine ⟨_, (pss_one (ps_ret (pe_callB (cr_sum rfl) (by rfl) T.b_sum (by decide +kernel) (pa_cons (pe_lc (own := [("_law_move", 1)]) (g := (gName 1)) (tt := tYes) (by rfl) sc__law_window_end.nd (pi_tup (pe_ix ix_tup (pv 0) pe_int (fun _ _ => rfl))) (blkOk_by (own := [("_law_move", 1)]) (N := ["_law_window_here", "_law_move"]) (sc := defScope s__law_window_end) (by decide +kernel)) (fun _ _ _ _ _ => (pg_name (i := 1) sc__law_window_end.nd rfl (Or.inl rfl))) (fun _ _ _ _ _ => pts_nil) (fun _ _ _ _ _ => (pe_ix (r := rIxT K) ix_tup (pv 1) pe_int (fun _ _ => rfl)))) pa_nil)))), ?_⟩
    refine ⟨_, rfl, p, _, 2, _, rfl, rfl, hp, rfl, pm, rfl, ⟨_, hq⟩, fun D hD => ?_⟩
    refine lcmap_tup ((ms.map (·.2.2)).map V.int) (by simp [hl]) (by omega) hq hD (fun i x y H2 R Z hx hy s2 hR => ?_) (fun H2 s2 hL => ?_)
    · obtain ⟨m, hm1, pw, rfl, hrow⟩ := Paired.at pd hx
      have ey : y = .int m.2.2 := by
        rw [List.map_map, List.getElem?_map, hm1] at hy
        exact (Option.some.inj hy).symm
      subst ey
      exact ⟨rfl, yes_ok ⟨_, rfl, pw, _, 2, _, rfl, rfl, Same.sqT s2 hrow, rfl, hR _ (Same.refl _)⟩⟩
    · exact ⟨D, _, rfl, .inl (.inl hL), q _ s2⟩
def sp__law_end (K : PySem.W.Frag) : Sp := fun vs H Q _ => ∃ (v : V) (ls : List LY) (x y : Int) (ms : List MV), vs = [v] ∧ ShAt K H v ls x y ms ∧ VLays ls ∧ VWin x y ms ∧ ∀ H' r, Same H H' → ShLen ls (mtot ms) r → Q (bkV r) H'
theorem ok__law_end {f : Addr} {fd : FuncData} (F : Fun K "_law_end" "_law_end" s__law_end f fd) (T : Txt K mg) (D__law_layer_end : Cl P w K mg base 2 "_law_layer_end" ["_law_layer_here"] (sp__law_layer_end K)) (D__law_window_end : Cl P w K mg base 1 "_law_window_end" ["_law_window_here"] (sp__law_window_end K)) : FnOk P w K mg base CX0 3 f fd ["_law_sheet_here"] (sp__law_end K) := by
  refine F.ok sc__law_end (fun vs H Q E h => ?_) (fun cdv A outer s H vs Q E hr h => ?_)
  · obtain ⟨v, ls, x, y, ms, rfl, _⟩ := h
    rfl
  · obtain ⟨v, ls, x, y, ms, rfl, hsh, vL, vw, q⟩ := h
    refine ⟨_, (pss_cons (ps_setLc (i := 1) (own := [("_law_layer_here", 2)]) (g := (gName 2)) (tt := tYes) (by rfl) sc__law_end.nd rfl rfl (sw_true rfl rfl rfl (by decide +kernel)) (pi_tup (pe_ix ix_tup (pv 0) pe_int (fun _ _ => rfl))) (blkOk_by (own := [("_law_layer_here", 2)]) (N := ["_law_sheet_here", "_law_found", "_law_layer_here"]) (sc := defScope s__law_end) (by decide +kernel)) (fun _ _ _ _ _ => (pg_name (i := 2) sc__law_end.nd rfl (Or.inl rfl))) (fun _ _ _ _ _ => pts_nil) (fun _ _ _ _ _ => (pe_own D__law_layer_end (hr.mono (by omega)) (by rfl) (pa_cons (pv 2) pa_nil))))
      (pss_one (ps_ret (pe_ifExp (pt_cmpR op_in_seq pe_non (pv 1) (by rfl)) pe_non (pe_callB (cr_max rfl) (by rfl) T.b_max (by decide +kernel) (pa_cons (pe_op op_cat (pv 1) (pe_lst (pa_cons (pe_own D__law_window_end (hr.mono (by omega)) (by rfl) (pa_cons (pe_ix ix_tup (pv 0) pe_int (fun _ _ => rfl)) pa_nil)) pa_nil))) pa_nil)))))), ?_⟩
    obtain ⟨p, lv, wv, rfl, hp, ⟨pl, vs, rfl, hq, pd⟩, hw⟩ := hsh
    obtain ⟨v1, v4, vl⟩ := vL
    have hl : vs.length = ls.length := Paired.length pd
    refine ⟨_, rfl, p, _, 0, _, rfl, rfl, hp, rfl, pl, rfl, ⟨_, hq⟩, fun D hD => ?_⟩
    refine lcmap_tup (ls.map fun l => bkV (lenL l)) (by simp [hl]) (by omega) hq hD (fun i x y H2 R Z hx hy s2 hR => ?_) (fun H2 s2 hL => ?_)
    · obtain ⟨l, hl1, hly⟩ := Paired.at pd hx
      have ey : y = bkV (lenL l) := by
        rw [List.getElem?_map, hl1] at hy
        exact (Option.some.inj hy).symm
      subst ey
      exact ⟨rfl, yes_ok ⟨_, rfl, x, l, rfl, hly.keep (Same.tk s2), vl l (List.mem_of_getElem? hl1), hR⟩⟩
    · have hfl : (ls.map fun l => bkV (lenL l)).all flatV = true := List.all_eq_true.mpr fun z hz => by
        obtain ⟨l, _, rfl⟩ := List.mem_map.mp hz
        exact bk_flat _
      refine ⟨_, rfl, D, _, rfl, .inl (.inl (.inl hL)), rfl, hfl, _, rfl, ite2 (fun e => ?_) (fun e => ?_)⟩
      · exact q _ none s2 (.inl ⟨(in_ends ls).mp e, rfl⟩)
      · obtain ⟨h1, h2⟩ := all_ints (fun z => e ((in_ends ls).mpr z))
        rw [h2] at hL
        refine ⟨_, rfl, _, rfl, p, _, 1, _, rfl, rfl, Same.sqT s2 hp, rfl, wv, x, y, ms, rfl, hw.keep (Same.tk s2), vw.2.2.1, fun H3 s3 => ⟨(by show 1 ≤ sizeLine; decide), fun p4 np4 => ?_⟩⟩
        obtain ⟨s4, e4⟩ := new_at (.lst [.int (mtot ms)]) np4
        generalize upd H3 p4 (.lst [.int (mtot ms)]) = H4 at s4 e4 ⊢
        refine ⟨D, p4, _, _, rfl, rfl, s4 _ _ (s3 _ _ hL), e4, ?_, fun p5 np5 => ?_⟩
        · rw [List.length_map, List.length_map]
          exact Nat.le_of_lt (small1000 (by show ls.length + 1 ≤ 1000; omega))
        · refine ⟨p5, ls.map (fun l => tot l.1) ++ [mtot ms], rfl, .inl (.inl ?_), by simp, fun m hm hx => ?_⟩
          · rw [upd_same, List.map_append]
            rfl
          · exact q _ (some m) (((s2.trans s3).trans s4).trans (same_upd np5)) (.inr ⟨h1, m, rfl, hm, hx⟩)
end

theorem near_lt {rs : List RW} {bk : Option Int} {m : Int} (v : VRows rs) (vb : VBack rs bk) (h : m < tot rs) (m0 : 0 ≤ m) : near rs bk m = m := by
  cases bk with
  | none => rfl
  | some b =>
    unfold near
    dsimp only
    split
    · rfl
    · have s := tot_split rs b.toNat
      rw [Int.emod_eq_of_lt (by omega) (by omega)]
      omega
section
variable {P : Program} {w : World} {K : PySem.W.Frag} {mg : Str → Option Value} {base : Heap}
def sp__law_drawing (K : PySem.W.Frag) : Sp := fun vs H Q _ => ∃ (v : V) (rs : List RW) (bk : Option Int) (m : Int), vs = [v, .int m] ∧ LayAt K H v rs bk ∧ VRows rs ∧ VBack rs bk ∧ 0 ≤ m ∧ ∀ H', Same H H' → Q (.int (shown rs bk m)) H'
theorem ok__law_drawing {f : Addr} {fd : FuncData} (F : Fun K "_law_drawing" "_law_drawing" s__law_drawing f fd) (T : Txt K mg) (D__law_length : Cl P w K mg base 1 "_law_length" ["_law_rows"] (sp__law_length K)) : FnOk P w K mg base CX0 2 f fd ["_law_layer_here", "_law_moment"] (sp__law_drawing K) := by
  refine F.ok sc__law_drawing (fun vs H Q E h => ?_) (fun cdv A outer s H vs Q E hr h => ?_)
  · obtain ⟨v, rs, bk, m, rfl, _⟩ := h
    rfl
  · obtain ⟨v, rs, bk, m, rfl, ⟨p, rv, rfl, hp, pr, vs, rfl, hq, pd⟩, vR, vb, m0, q⟩ := h
    have v8 := vR.1
    have vr := vR.2
    have hl : vs.length = rs.length := Paired.length pd
    have hdl := dwg_len vr
    have htt := tot_nonneg vr
    refine ⟨_, (pss_cons (ps_asg (pv 0) (pg_tup (by rfl) (pgs_cons (pg_name (i := 2) sc__law_drawing.nd rfl (Or.inl rfl)) (pgs_cons (pg_name (i := 3) sc__law_drawing.nd rfl (Or.inl rfl)) pgs_nil))))
      (pss_cons (ps_set (i := 4) sc__law_drawing.nd rfl (Or.inl rfl) (pe_lst pa_nil))
      (pss_cons (ps_for PassesOwn.never rfl (pi_tup (pv 2)) (pg_tup (by rfl) (pgs_cons (pg_name (i := 5) sc__law_drawing.nd rfl (Or.inl rfl)) (pgs_cons (pg_name (i := 6) sc__law_drawing.nd rfl (Or.inl rfl)) pgs_nil)))
        (pss_one (ps_set (i := 4) sc__law_drawing.nd rfl (Or.inl rfl) (pe_op op_cat (pv 4) (pe_op op_rep (pe_lst (pa_cons (pv 5) pa_nil)) (pv 6))))))
      (pss_cons (ps_if (pt_cmpR op_lt (pv 1) (pe_callB call_len_seq (by rfl) T.b_len (by decide +kernel) (pa_cons (pv 4) pa_nil)) (nomark _)) (pss_one (ps_ret (pe_ix ix_list (pv 4) (pv 1) (fun _ _ => rfl)))) pss_nil)
      (pss_cons (ps_if (pt_cmpR op_isN (pv 3) pe_non (nomark _)) (pss_one (ps_ret pe_int)) pss_nil)
      (pss_cons (ps_set (i := 7) sc__law_drawing.nd rfl (Or.inl rfl) (pe_own D__law_length (hr.mono (by omega)) (by rfl) (pa_cons (pe_slice sl_tupA (pv 2) po_none (po_opt (pv 3))) pa_nil)))
      (pss_one (ps_ret (pe_ix ix_list (pv 4) (pe_op op_add (pv 7) (pe_op op_modN (pe_op op_sub (pv 1) (pv 7)) (pe_op op_sub (pe_callB call_len_seq (by rfl) T.b_len (by decide +kernel) (pa_cons (pv 4) pa_nil)) (pv 7)))) (fun _ _ => rfl)))))))))), ?_⟩
    refine ⟨_, rfl, p, _, rfl, hp, rfl, _, _, rfl, _, _, rfl, rfl, ?_⟩
    refine ⟨Nat.zero_le _, fun F nF => ?_⟩
    refine ⟨_, rfl, pr, rfl, ⟨_, Same.sqT (same_upd nF) hq⟩, for_tup (K := K) (a := pr) (xs := vs) (fun i σ H' => Same H H' ∧ ∃ R y5 y6, σ = [some (.ref p), some (.int m), some (.ref pr), some (bkV bk), some (.ref R), y5, y6, none] ∧ H' R = some (.lst ((dwg (rs.take i)).map V.int)))
      ⟨same_upd nF, F, none, none, rfl, upd_same⟩ (fun i σ H' _ z => Same.sqT z.1 hq) ?_ ?_⟩
    · rintro i x σ H2 hx ⟨s2, R, y5, y6, rfl, eR⟩
      obtain ⟨r, hr1, pw, rfl, hrow⟩ := Paired.at pd hx
      obtain ⟨_, _, r3, r4⟩ := vr r (List.mem_of_getElem? hr1)
      have et : rs.take (i + 1) = rs.take i ++ [r] := by rw [List.take_add_one, hr1]; rfl
      have e1 := dwg_len (rs := rs.take i) fun q hq => vr q (List.mem_of_mem_take hq)
      have e2 := tot_take_le vr hr1
      refine ⟨pw, _, rfl, Same.sqT s2 hrow, rfl, _, _, rfl, _, _, rfl, rfl, ?_⟩
      refine ⟨_, rfl, _, rfl, (by show 1 ≤ sizeLine; decide), fun p3 np3 => ⟨_, rfl, p3, r.2, _, rfl, rfl, upd_same, by omega, by omega, ?_, fun p4 np4 => ?_⟩⟩
      · show 1 * r.2.toNat ≤ sizeLine
        exact Nat.le_of_lt (small1000 (by omega))
      have s3 := same_upd (o := .lst [.int r.1]) np3
      have s4 := same_upd (o := .lst (List.replicate r.2.toNat [V.int r.1]).flatten) np4
      refine ⟨R, p4, _, _, rfl, rfl, s4 _ _ (s3 _ _ eR), upd_same, ?_, fun p5 np5 => ?_⟩
      · rw [List.length_map]
        have : (List.replicate r.2.toNat [V.int r.1]).flatten.length = r.2.toNat := by simp
        rw [this]
        exact Nat.le_of_lt (small1000 (by omega))
      · refine ⟨((s2.trans s3).trans s4).trans (same_upd np5), p5, _, _, rfl, ?_⟩
        rw [upd_same, et, dwg_append, List.map_append]
        congr 3
        show _ = (List.replicate r.2.toNat r.1 ++ []).map V.int
        rw [List.append_nil, List.map_replicate]
        generalize r.2.toNat = k
        induction k with
        | zero => rfl
        | succ k ih => rw [List.replicate_succ, List.replicate_succ, List.flatten_cons, ih]; rfl
    · rintro σ H2 ⟨s2, R, y5, y6, rfl, eR⟩
      rw [List.take_of_length_le (by omega)] at eR
      refine ⟨_, rfl, _, rfl, R, _, rfl, .inl (.inl (.inl eR)), m, _, rfl, rfl, _, rfl, ite2 (fun c => ?_) (fun c => ?_)⟩
      · have c1 : m < (((dwg rs).map V.int).length : Int) := of_decide_eq_true c
        rw [List.length_map, hdl] at c1
        obtain ⟨j, rfl⟩ : ∃ j : Nat, m = (j : Int) := ⟨m.toNat, by omega⟩
        refine ⟨_, rfl, _, rfl, R, _, _, _, rfl, rfl, .inl (.inl eR), at_of (j := j) rfl (by rw [List.getElem?_map, dwg_at vr c1]; rfl), ?_⟩
        have := q H2 s2
        unfold shown at this
        rw [near_lt vR vb c1 m0] at this
        exact this
      · have c1 : ¬ m < (((dwg rs).map V.int).length : Int) := fun z => c (decide_eq_true z)
        rw [List.length_map, hdl] at c1
        refine ⟨_, rfl, rfl, _, rfl, ?_⟩
        cases bk with
        | none =>
          refine ite2 (fun _ => ?_) (fun e => absurd (decide_eq_true rfl) e)
          have := q H2 s2
          rw [shown_end vr (by omega)] at this
          exact this
        | some b =>
          refine ite2 (fun e => nomatch (of_decide_eq_true e)) (fun _ => ?_)
          have hb := vb b rfl
          obtain ⟨k, rfl⟩ : ∃ k : Nat, b = (k : Int) := ⟨b.toNat, by omega⟩
          have hq2 := Same.sqT s2 hq
          refine ⟨_, rfl, _, rfl, ?_⟩
          dsimp only [tNoPart]
          refine ⟨some (k : Int), rfl, sl_rows (rs.take k) hq2 (by rw [cut_to]; exact Paired.takeP k (Paired.mono pd fun _ _ => RowAt.keep (Same.tk s2))) (fun H3 v3 s3 h3 => ?_)⟩
          refine ⟨v3, rs.take k, rfl, h3, by rw [List.length_take]; omega, fun H4 s4 => ?_⟩
          have s := tot_split rs k
          have a0 := (tot_nonneg (rs := rs.take k) fun q hq => vr q (List.mem_of_mem_take hq)).1
          have cpos : 0 < tot (rs.drop k) := by
            have := (tot_nonneg (rs := rs.drop k) fun q hq => vr q (List.mem_of_mem_drop hq)).1
            rw [List.length_drop] at this
            omega
          have eR4 := s4 _ _ (s3 _ _ eR)
          have q' := q H4 ((s2.trans s3).trans s4)
          have en : near rs (some (k : Int)) m = tot (rs.take k) + (m - tot (rs.take k)) % tot (rs.drop k) := by
            unfold near
            dsimp only
            rw [Int.toNat_natCast, if_neg (by omega)]
          have f0 := Int.emod_nonneg (m - tot (rs.take k)) (show tot (rs.drop k) ≠ 0 by omega)
          have f1 := Int.emod_lt_of_pos (m - tot (rs.take k)) cpos
          unfold shown at q'
          rw [en] at q'
          obtain ⟨j, ej⟩ : ∃ j : Nat, tot (rs.take k) + (m - tot (rs.take k)) % tot (rs.drop k) = (j : Int) := ⟨(tot (rs.take k) + (m - tot (rs.take k)) % tot (rs.drop k)).toNat, by omega⟩
          rw [ej] at q'
          refine ⟨_, rfl, _, rfl, _, rfl, _, rfl, _, _, rfl, rfl, _, rfl, R, _, rfl, .inl (.inl (.inl eR4)), _, rfl, _, _, rfl, rfl, _, tot (rs.drop k), rfl, ?_, (by show tot (rs.drop k) ≠ 0; omega), _, _, rfl, rfl, R, _, _, _, rfl, rfl, .inl (.inl eR4), at_of (j := j) ?_ (by rw [List.getElem?_map, dwg_at vr (by omega)]; rfl), q'⟩
          · show V.int ((((dwg rs).map V.int).length : Int) - tot (rs.take k)) = _
            rw [List.length_map, hdl]
            congr 1
            omega
          · show tot (rs.take k) + (m - tot (rs.take k)).fmod (tot (rs.drop k)) = (j : Int)
            rw [Int.fmod_eq_emod_of_nonneg _ (by omega)]
            exact ej
def sp__law_fraction (K : PySem.W.Frag) : Sp := fun vs H Q _ => ∃ t b : Int, vs = [.int t, .int b] ∧ 1 ≤ b ∧ b ≤ 1000 ∧ ∀ H' v, Same H H' → RowAt K H' v (lo t b) → Q v H'
theorem ok__law_fraction {f : Addr} {fd : FuncData} (F : Fun K "_law_fraction" "_law_fraction" s__law_fraction f fd) (T : Txt K mg) : FnOk P w K mg base CX0 1 f fd ["_law_top", "_law_bottom"] (sp__law_fraction K) := by
  refine F.ok sc__law_fraction (fun vs H Q E h => ?_) (fun cdv A outer s H vs Q E hr h => ?_)
  · obtain ⟨t, b, rfl, _⟩ := h
    rfl
  · obtain ⟨t, b, rfl, h1, h2, q⟩ := h
    refine ⟨_, (pss_cons (ps_par (i := 2) (j := 3) (by rfl) sc__law_fraction.nd rfl rfl (by decide) rfl rfl (pa_cons (pv 1) (pa_cons (pe_callB call_abs (by rfl) T.b_abs (by decide +kernel) (pa_cons (pv 0) pa_nil)) pa_nil)) (by rfl))
      (pss_cons (ps_while PassesOwn.never (pt_cmpR op_gt (pv 3) pe_int (nomark _)) (pss_one (ps_par (i := 2) (j := 3) (by rfl) sc__law_fraction.nd rfl rfl (by decide) rfl rfl (pa_cons (pv 3) (pa_cons (pe_op op_modN (pv 2) (pv 3)) pa_nil)) (by rfl))))
      (pss_one (ps_ret (pe_tup (pa_cons (pe_op op_fdivN (pv 0) (pv 2)) (pa_cons (pe_op op_fdivN (pv 1) (pv 2)) pa_nil))))))), ?_⟩
    obtain ⟨g, t', b', eg, gp, et, eb, bp, el, gle, _⟩ := gcd_facts (t := t) (show 0 < b by omega)
    refine ⟨_, rfl, _, rfl, t, rfl, _, _, rfl, ?_⟩
    refine while_by (fun σ H' => H = H' ∧ ∃ c d : Nat, σ = [some (.int t), some (.int b), some (.int c), some (.int d)] ∧ Nat.gcd c d = Nat.gcd t.natAbs b.natAbs) (fun σ _ => match σ with | [_, _, _, some (.int d)] => d.toNat | _ => 0) ⟨rfl, b.natAbs, t.natAbs, ?_, Nat.gcd_comm ..⟩ ?_ ?_
    · show [some (V.int t), some (V.int b), some (V.int b), some (V.int (if t < 0 then -t else t))] = _
      rw [show (if t < 0 then -t else t) = (t.natAbs : Int) by split <;> omega, show ((b.natAbs : Nat) : Int) = b by omega]
    · rintro σ H1 ⟨rfl, c, d, rfl, e⟩
      refine ⟨_, rfl, _, _, rfl, rfl, _, rfl, ite2 (fun hd => ?_) (fun hd => ?_)⟩
      · have d0 : (0 : Int) < (d : Int) := of_decide_eq_true hd
        refine ⟨_, rfl, _, rfl, _, rfl, _, _, rfl, rfl, (by show (d : Int) ≠ 0; omega), _, _, rfl, ⟨rfl, d, c % d, ?_, ?_⟩, ?_⟩
        · show [some (V.int t), some (V.int b), some (V.int (d : Int)), some (V.int ((c : Int).fmod (d : Int)))] = _
          rw [Int.fmod_eq_emod_of_nonneg _ (by omega)]
          rfl
        · rw [← e, Nat.gcd_comm c d, Nat.gcd_rec d c, Nat.gcd_comm (c % d) d]
        · show ((c : Int).fmod (d : Int)).toNat < (d : Int).toNat
          have := (fm (x := (c : Int)) (m := (d : Int)) (by omega)).2
          omega
      · have d0 : d = 0 := by
          rcases Nat.eq_zero_or_pos d with z | z
          · exact z
          · exact absurd (decide_eq_true (show (0 : Int) < (d : Int) by omega)) hd
        subst d0
        rw [Nat.gcd_zero_right] at e
        subst e
        rw [eg]
        refine ⟨_, rfl, _, rfl, t, g, rfl, rfl, ⟨by omega, by omega⟩, _, rfl, _, rfl, b, g, rfl, rfl, ⟨by omega, by omega⟩, (by show 2 ≤ sizeLine; decide), fun p np => ?_⟩
        refine q _ _ (same_upd np) ⟨p, rfl, .inl (.inl ?_)⟩
        rw [upd_same]
        show some (HO.tup [V.int (t.fdiv g), V.int (b.fdiv g)]) = _
        rw [Int.fdiv_eq_ediv_of_nonneg t (show 0 ≤ g by omega), Int.fdiv_eq_ediv_of_nonneg b (show 0 ≤ g by omega)]
        unfold lo
        rw [eg]
    · exact fun σ H Q Q' h ⟨x, e, a, b, r⟩ => ⟨x, e, a, b, r.1, r.2.1, r.2.2.imp fun _ z => ⟨z.1, h _ _ z.2⟩⟩
def sp__law_stands (K : PySem.W.Frag) : Sp := fun vs H Q _ => ∃ (v : V) (x y : Int) (ms : List MV) (m : Int), vs = [v, .int m] ∧ WinAt K H v x y ms ∧ VWin x y ms ∧ 0 ≤ m ∧ ∀ H' v, Same H H' → PlAt K H' v (plc x y ms m) → Q v H'
theorem ok__law_stands {f : Addr} {fd : FuncData} (F : Fun K "_law_stands" "_law_stands" s__law_stands f fd) (T : Txt K mg) (D__law_fraction : Cl P w K mg base 1 "_law_fraction" ["_law_top", "_law_bottom"] (sp__law_fraction K)) : FnOk P w K mg base CX0 2 f fd ["_law_window_here", "_law_moment"] (sp__law_stands K) := by
  refine F.ok sc__law_stands (fun vs H Q E h => ?_) (fun cdv A outer s H vs Q E hr h => ?_)
  · obtain ⟨v, x, y, ms, m, rfl, _⟩ := h
    rfl
  · obtain ⟨v, x, y, ms, m, rfl, ⟨p, mv, rfl, hp, pm, vs, rfl, hq, pd⟩, ⟨vx, vy, v8, vm⟩, m0, q⟩ := h
    have hl : vs.length = ms.length := Paired.length pd
    refine ⟨_, (pss_cons (ps_par3 (i := 2) (j := 3) (l := 4) (by rfl) sc__law_stands.nd rfl rfl rfl (by decide) (by decide) (by decide) rfl rfl rfl (pa_cons (pe_ix ix_tup (pv 0) pe_int (fun _ _ => rfl)) (pa_cons (pe_ix ix_tup (pv 0) pe_int (fun _ _ => rfl)) (pa_cons (pv 1) pa_nil))) (by rfl))
      (pss_cons (ps_for PassesOwn.never rfl (pi_tup (pe_ix ix_tup (pv 0) pe_int (fun _ _ => rfl))) (pg_tup (by rfl) (pgs_cons (pg_name (i := 5) sc__law_stands.nd rfl (Or.inl rfl)) (pgs_cons (pg_name (i := 6) sc__law_stands.nd rfl (Or.inl rfl)) (pgs_cons (pg_name (i := 7) sc__law_stands.nd rfl (Or.inl rfl)) pgs_nil))))
        (pss_cons (ps_if (pt_cmpR op_lt (pv 4) (pv 7) (nomark _)) (pss_cons (ps_set (i := 8) sc__law_stands.nd rfl (Or.inl rfl) (pe_op op_add (pv 4) pe_int))
      (pss_cons (ps_set (i := 9) sc__law_stands.nd rfl (Or.inl rfl) (pe_own D__law_fraction (hr.mono (by omega)) (by rfl) (pa_cons (pe_op op_add (pe_op op_mul (pv 2) (pe_op op_sub (pv 7) (pv 8))) (pe_op op_mul (pv 5) (pv 8))) (pa_cons (pv 7) pa_nil))))
      (pss_one (ps_ret (pe_tup (pa_cons (pv 9) (pa_cons (pe_own D__law_fraction (hr.mono (by omega)) (by rfl) (pa_cons (pe_op op_add (pe_op op_mul (pv 3) (pe_op op_sub (pv 7) (pv 8))) (pe_op op_mul (pv 6) (pv 8))) (pa_cons (pv 7) pa_nil))) pa_nil))))))) pss_nil)
      (pss_one (ps_par3 (i := 4) (j := 2) (l := 3) (by rfl) sc__law_stands.nd rfl rfl rfl (by decide) (by decide) (by decide) rfl rfl rfl (pa_cons (pe_op op_sub (pv 4) (pv 7)) (pa_cons (pv 5) (pa_cons (pv 6) pa_nil))) (by rfl)))))
      (pss_one (ps_ret (pe_tup (pa_cons (pe_tup (pa_cons (pv 2) (pa_cons pe_int pa_nil))) (pa_cons (pe_tup (pa_cons (pv 3) (pa_cons pe_int pa_nil))) pa_nil))))))), ?_⟩
    refine ⟨_, rfl, p, _, 0, _, rfl, rfl, hp, rfl, _, rfl, p, _, 1, _, rfl, rfl, hp, rfl, _, rfl, _, _, _, rfl, ?_⟩
    refine ⟨_, rfl, p, _, 2, _, rfl, rfl, hp, rfl, pm, rfl, ⟨_, hq⟩, for_tup (K := K) (a := pm) (xs := vs) (fun i σ H' => H = H' ∧ ∃ (cx cy t : Int) (y6 y7 y8 y9 y10 : Option V), σ = [some (.ref p), some (.int m), some (.int cx), some (.int cy), some (.int t), y6, y7, y8, y9, y10] ∧ (-20 ≤ cx ∧ cx ≤ 20) ∧ (-20 ≤ cy ∧ cy ≤ 20) ∧ 0 ≤ t ∧ plc cx cy (ms.drop i) t = plc x y ms m)
      ⟨rfl, x, y, m, _, _, _, _, _, rfl, vx, vy, m0, rfl⟩ (fun i σ H' _ z => by rw [← z.1]; exact hq) ?_ ?_⟩
    · rintro i v σ H1 hv ⟨rfl, cx, cy, t, y6, y7, y8, y9, y10, rfl, hcx, hcy, t0, e⟩
      obtain ⟨mm, hm1, pw, rfl, hrow⟩ := Paired.at pd hv
      have hi : i < ms.length := (List.getElem?_eq_some_iff.mp hm1).1
      have ed : ms.drop i = mm :: ms.drop (i + 1) := by
        rw [List.drop_eq_getElem_cons hi]
        congr 1
        rw [List.getElem?_eq_getElem hi] at hm1
        exact Option.some.inj hm1
      rw [ed, plc_cons] at e
      obtain ⟨vmx, vmy, vm3, vm4⟩ := vm mm (List.mem_of_getElem? hm1)
      refine ⟨pw, _, rfl, hrow, rfl, _, _, rfl, _, _, rfl, _, _, rfl, rfl, ?_⟩
      refine ⟨_, rfl, _, rfl, t, mm.2.2, rfl, rfl, _, rfl, ite2 (fun c => ?_) (fun c => ?_)⟩
      · have c1 : t < mm.2.2 := of_decide_eq_true c
        rw [if_pos c1] at e
        rw [← way_eq cx mm.1 mm.2.2 (t + 1), ← way_eq cy mm.2.1 mm.2.2 (t + 1)] at e
        refine ⟨_, rfl, t, 1, rfl, rfl, ?_⟩
        refine ⟨_, rfl, _, rfl, _, rfl, _, _, rfl, rfl, cx, _, rfl, rfl, .inl ⟨by omega, by omega⟩, _, rfl, _, rfl, mm.1, _, rfl, rfl, .inl ⟨by omega, by omega⟩, _, _, rfl, rfl, _, rfl, _, mm.2.2, rfl, by omega, by omega, fun H2 v1 s2 r2 => ?_⟩
        refine ⟨_, rfl, _, rfl, _, rfl, _, rfl, _, _, rfl, rfl, cy, _, rfl, rfl, .inl ⟨by omega, by omega⟩, _, rfl, _, rfl, mm.2.1, _, rfl, rfl, .inl ⟨by omega, by omega⟩, _, _, rfl, rfl, _, rfl, _, mm.2.2, rfl, by omega, by omega, fun H3 v2 s3 r3 => ?_⟩
        refine ⟨(by show 2 ≤ sizeLine; decide), fun p4 np4 => ?_⟩
        have s4 := same_upd (o := .tup [v1, v2]) np4
        refine q _ _ ((s2.trans s3).trans s4) ?_
        rw [← e]
        exact ⟨p4, v1, v2, rfl, .inl (.inl upd_same), r2.keep (Same.tk (s3.trans s4)), r3.keep (Same.tk s4)⟩
      · have c1 : ¬ t < mm.2.2 := fun z => c (decide_eq_true z)
        rw [if_neg c1] at e
        refine ⟨_, rfl, _, rfl, t, mm.2.2, rfl, rfl, _, rfl, _, rfl, _, _, _, rfl, ?_⟩
        exact ⟨rfl, mm.1, mm.2.1, t - mm.2.2, _, _, _, _, _, rfl, vmx, vmy, by omega, e⟩
    · rintro σ H1 ⟨rfl, cx, cy, t, y6, y7, y8, y9, y10, rfl, hcx, hcy, t0, e⟩
      rw [List.drop_of_length_le (by omega), plc_nil] at e
      refine ⟨_, rfl, (by show 2 ≤ sizeLine; decide), fun p1 np1 => ?_⟩
      have s1 := same_upd (o := .tup [.int cx, .int 1]) np1
      refine ⟨_, rfl, (by show 2 ≤ sizeLine; decide), fun p2 np2 => ?_⟩
      have s2 := same_upd (o := .tup [.int cy, .int 1]) np2
      refine ⟨(by show 2 ≤ sizeLine; decide), fun p3 np3 => ?_⟩
      have s3 := same_upd (o := .tup [.ref p1, .ref p2]) np3
      refine q _ _ ((s1.trans s2).trans s3) ?_
      rw [← e]
      exact ⟨p3, _, _, rfl, .inl (.inl upd_same), ⟨p1, rfl, .inl (.inl (s3 _ _ (s2 _ _ upd_same)))⟩, ⟨p2, rfl, .inl (.inl (s3 _ _ upd_same))⟩⟩
def sp__law_picture (K : PySem.W.Frag) : Sp := fun vs H Q _ => ∃ (v : V) (ls : List LY) (x y : Int) (ms : List MV) (m : Int), vs = [v, .int m] ∧ ShAt K H v ls x y ms ∧ VLays ls ∧ VWin x y ms ∧ 0 ≤ m ∧ ∀ H' v, Same H H' → PicAt K H' v (pic ls x y ms m) → Q v H'
theorem ok__law_picture {f : Addr} {fd : FuncData} (F : Fun K "_law_picture" "_law_picture" s__law_picture f fd) (T : Txt K mg) (D__law_drawing : Cl P w K mg base 2 "_law_drawing" ["_law_layer_here", "_law_moment"] (sp__law_drawing K)) (D__law_stands : Cl P w K mg base 2 "_law_stands" ["_law_window_here", "_law_moment"] (sp__law_stands K)) : FnOk P w K mg base CX0 3 f fd ["_law_sheet_here", "_law_moment"] (sp__law_picture K) := by
  refine F.ok sc__law_picture (fun vs H Q E h => ?_) (fun cdv A outer s H vs Q E hr h => ?_)
  · obtain ⟨v, ls, x, y, ms, m, rfl, _⟩ := h
    rfl
  · obtain ⟨v, ls, x, y, ms, m, rfl, ⟨p, lv, wv, rfl, hp, ⟨pl, vs, rfl, hq, pd⟩, hw⟩, ⟨v1, v4, vl⟩, vw, m0, q⟩ := h
    have hl : vs.length = ls.length := Paired.length pd
    refine ⟨_, (pss_cons (ps_set (i := 2) sc__law_picture.nd rfl (Or.inl rfl) (pe_callTy call_tuple_of (by rfl) T.b_tuple (by decide +kernel) (pa_cons (pe_lc (own := [("_law_layer_here", 3)]) (g := (gName 3)) (tt := tYes) (by rfl) sc__law_picture.nd (pi_tup (pe_ix ix_tup (pv 0) pe_int (fun _ _ => rfl))) (blkOk_by (own := [("_law_layer_here", 3)]) (N := ["_law_sheet_here", "_law_moment", "_law_drawn", "_law_layer_here"]) (sc := defScope s__law_picture) (by decide +kernel)) (fun _ _ _ _ _ => (pg_name (i := 3) sc__law_picture.nd rfl (Or.inl rfl))) (fun _ _ _ _ _ => pts_nil) (fun _ _ _ _ _ => (pe_own D__law_drawing (hr.mono (by omega)) (by rfl) (pa_cons (pv 3) (pa_cons (pv 1) pa_nil))))) pa_nil)))
      (pss_one (ps_ret (pe_tup (pa_cons (pv 2) (pa_cons (pe_own D__law_stands (hr.mono (by omega)) (by rfl) (pa_cons (pe_ix ix_tup (pv 0) pe_int (fun _ _ => rfl)) (pa_cons (pv 1) pa_nil))) pa_nil)))))), ?_⟩
    refine ⟨_, rfl, p, _, 0, _, rfl, rfl, hp, rfl, pl, rfl, ⟨_, hq⟩, fun D hD => ?_⟩
    refine lcmap_tup ((ls.map fun l => shown l.1 l.2 m).map V.int) (by simp [hl]) (by omega) hq hD (fun i x y H2 R Z hx hy s2 hR => ?_) (fun H2 s2 hL => ?_)
    · obtain ⟨l, hl1, hly⟩ := Paired.at pd hx
      have ey : y = .int (shown l.1 l.2 m) := by
        rw [List.map_map, List.getElem?_map, hl1] at hy
        exact (Option.some.inj hy).symm
      subst ey
      have vl1 := vl l (List.mem_of_getElem? hl1)
      exact ⟨rfl, yes_ok ⟨_, rfl, _, rfl, x, l.1, l.2, m, rfl, LayAt.keep (Same.tk s2) hly, vl1.1, vl1.2, m0, hR⟩⟩
    · refine ⟨D, _, rfl, .inl ⟨.inl (.inl hL), fun b nb => ?_⟩⟩
      obtain ⟨s3, e3⟩ := new_at (.tup ((ls.map fun l => shown l.1 l.2 m).map V.int)) nb
      refine ⟨_, rfl, _, rfl, p, _, 1, _, rfl, rfl, Same.sqT (s2.trans s3) hp, rfl, _, rfl, wv, x, y, ms, m, rfl, hw.keep (Same.tk (s2.trans s3)), vw, m0, fun H4 v4 s4 p4 => ⟨(by show 2 ≤ sizeLine; decide), fun p5 np5 => ?_⟩⟩
      have s5 := same_upd (o := .tup [.ref b, v4]) np5
      exact q _ _ (((s2.trans s3).trans s4).trans s5) ⟨p5, b, v4, rfl, .inl (.inl upd_same), .inl (.inl (s5 _ _ (s4 _ _ e3))), p4.keep (Same.tk s5)⟩
end

section
variable {P : Program} {w : World} {K : PySem.W.Frag} {mg : Str → Option Value} {base : Heap}
def sp__law_cell_at (K : PySem.W.Frag) : Sp := fun vs H Q _ => ∃ (a : Addr) (ns : List Int) (k : Int), vs = [.ref a, .int k] ∧ SqL K H a (ns.map V.int) ∧ 0 ≤ k ∧ ∀ c, Q (.int c) H
theorem ok__law_cell_at {f : Addr} {fd : FuncData} (F : Fun K "_law_cell_at" "_law_cell_at" s__law_cell_at f fd) (T : Txt K mg) : FnOk P w K mg base CX0 1 f fd ["_law_script", "_law_k"] (sp__law_cell_at K) := by
  refine F.ok sc__law_cell_at (fun vs H Q E h => ?_) (fun cdv A outer s H vs Q E hr h => ?_)
  · obtain ⟨a, ns, k, rfl, _⟩ := h
    rfl
  · obtain ⟨a, ns, k, rfl, hS, hk, q⟩ := h
    refine ⟨_, (pss_cons (ps_if (pt_cmpR op_lt (pv 1) (pe_callB call_len_seq (by rfl) T.b_len (by decide +kernel) (pa_cons (pv 0) pa_nil)) (nomark _)) (pss_one (ps_ret (pe_ix ix_list (pv 0) (pv 1) (fun _ _ => rfl)))) pss_nil)
      (pss_one (ps_ret pe_int))), ?_⟩
    refine ⟨_, rfl, _, rfl, a, _, rfl, .inl hS, k, _, rfl, rfl, _, rfl, ite2 (fun e => ?_) (fun _ => q 0)⟩
    have e1 : k < ((ns.map V.int).length : Int) := of_decide_eq_true e
    rw [List.length_map] at e1
    have hj : k.toNat < ns.length := by omega
    have g : (ns.map V.int)[k.toNat]? = some (.int ns[k.toNat]) := by
      rw [List.getElem?_map, List.getElem?_eq_getElem hj]
      rfl
    exact ⟨_, rfl, _, rfl, a, _, k, _, rfl, rfl, hS, at_of (j := k.toNat) (by omega) g, q _⟩
def sp__law_state (K : PySem.W.Frag) : Sp := fun vs H Q _ => ∃ (a : Addr) (ns : List Int) (k : Int), vs = [.ref a, .int k] ∧ SqL K H a (ns.map V.int) ∧ 0 ≤ k ∧ ∀ H' p, Same H H' → H p = none → IsSx H' p → Q (.ref p) H'
theorem ok__law_state {f : Addr} {fd : FuncData} (F : Fun K "_law_state" "_law_state" s__law_state f fd) (T : Txt K mg) (D__law_cell_at : Cl P w K mg base 1 "_law_cell_at" ["_law_script", "_law_k"] (sp__law_cell_at K)) : FnOk P w K mg base CX0 2 f fd ["_law_script", "_law_k"] (sp__law_state K) := by
  refine F.ok sc__law_state (fun vs H Q E h => ?_) (fun cdv A outer s H vs Q E hr h => ?_)
  · obtain ⟨a, ns, k, rfl, _⟩ := h
    rfl
  · obtain ⟨a, ns, k, rfl, hS, hk, q⟩ := h
    refine ⟨_, (pss_cons (ps_set (i := 2) sc__law_state.nd rfl (Or.inl rfl) (pe_own D__law_cell_at (hr.mono (by omega)) (by rfl) (pa_cons (pv 0) (pa_cons (pv 1) pa_nil))))
      (pss_cons (ps_if (pt_cmpR op_ge (pv 2) (pe_op op_pow pe_int pe_int) (nomark _)) (pss_one (ps_ret (pe_lst (pa_cons (pe_op op_sub (pv 2) (pe_op op_pow pe_int pe_int)) (pa_cons pe_bl pa_nil))))) pss_nil)
      (pss_one (ps_ret (pe_lst (pa_cons (pe_op op_modN (pv 2) pe_int) (pa_cons pe_bl pa_nil))))))), ?_⟩
    refine ⟨_, rfl, _, rfl, a, ns, k, rfl, hS, hk, fun c => ?_⟩
    refine ⟨_, rfl, 10, 18, rfl, rfl, ⟨by decide, by decide, by decide⟩, _, _, rfl, rfl, _, rfl, ite2 (fun e => ?_) (fun e => ?_)⟩
    · have e1 := of_decide_eq_true e
      refine ⟨_, rfl, 10, 18, rfl, rfl, ⟨by decide, by decide, by decide⟩, _, _, rfl, rfl, (by show 2 ≤ sizeLine; decide), fun p np => ?_⟩
      exact q _ p (same_upd np) np ⟨_, _, upd_same, by omega, fun z => Bool.noConfusion z⟩
    · refine ⟨_, rfl, _, _, rfl, rfl, (by show (2147483647 : Int) ≠ 0; decide), (by show 2 ≤ sizeLine; decide), fun p np => ?_⟩
      exact q _ p (same_upd np) np ⟨_, _, upd_same, (fm (by decide)).1, fun _ => (fm (by decide)).2⟩
def sp__law_take (K : PySem.W.Frag) : Sp := fun vs H Q _ => ∃ (st : Addr) (n : Int), vs = [.ref st, .int n] ∧ IsSx H st ∧ 0 < n ∧ n < 1073741824 ∧ ∀ r H', 0 ≤ r → r < n → Gx st H H' → Q (.int r) H'
theorem ok__law_take {f : Addr} {fd : FuncData} (F : Fun K "_law_take" "_law_take" s__law_take f fd) (T : Txt K mg) : FnOk P w K mg base CX0 1 f fd ["_law_state_here", "_law_many"] (sp__law_take K) := by
  refine F.ok sc__law_take (fun vs H Q E h => ?_) (fun cdv A outer s H vs Q E hr h => ?_)
  · obtain ⟨st, n, rfl, _⟩ := h
    rfl
  · obtain ⟨st, n, rfl, ⟨a, b, hs, ha, hb⟩, n0, n1, q⟩ := h
    refine ⟨_, (pss_cons (ps_if (pt_val (pe_ix ix_list (pv 0) pe_int (fun _ _ => rfl))) (pss_cons (ps_set (i := 2) sc__law_take.nd rfl (Or.inl rfl) (pe_op op_modN (pe_ix ix_list (pv 0) pe_int (fun _ _ => rfl)) (pv 1)))
      (pss_cons (ps_asg (pe_op op_fdivN (pe_ix ix_list (pv 0) pe_int (fun _ _ => rfl)) (pv 1)) (pg_sub (pv 0) pe_int set_list))
      (pss_one (ps_ret (pv 2))))) pss_nil)
      (pss_cons (ps_asg (pe_op op_modN (pe_op op_add (pe_op op_mul (pe_ix ix_list (pv 0) pe_int (fun _ _ => rfl)) pe_int) pe_int) pe_int) (pg_sub (pv 0) pe_int set_list))
      (pss_cons (ps_set (i := 3) sc__law_take.nd rfl (Or.inl rfl) (pe_op op_modN (pe_op op_add (pe_op op_add (pe_op op_mul (pe_ix ix_list (pv 0) pe_int (fun _ _ => rfl)) (pe_ix ix_list (pv 0) pe_int (fun _ _ => rfl))) (pe_op op_mul pe_int (pe_ix ix_list (pv 0) pe_int (fun _ _ => rfl)))) pe_int) pe_int))
      (pss_cons (ps_set (i := 3) sc__law_take.nd rfl (Or.inl rfl) (pe_op op_modN (pe_op op_add (pe_op op_mul (pv 3) (pv 3)) (pe_op op_mul pe_int (pv 3))) pe_int))
      (pss_one (ps_ret (pe_op op_modN (pe_op op_fdivN (pv 3) pe_int) (pv 1)))))))), ?_⟩
    refine ⟨_, rfl, st, _, 1, _, rfl, rfl, .inl (.inl hs), rfl, b, rfl, ?_⟩
    cases b with
    | true =>
      refine iteT ?_
      refine ⟨_, rfl, st, _, 0, _, rfl, rfl, .inl (.inl hs), rfl, _, rfl, a, n, rfl, rfl, by omega, ?_⟩
      refine ⟨_, rfl, st, _, 0, _, rfl, rfl, .inl (.inl hs), rfl, _, rfl, a, n, rfl, rfl, ⟨by omega, by omega⟩, _, rfl, st, _, 0, 0, rfl, rfl, hs, rfl, ?_⟩
      refine ⟨_, rfl, q _ _ (fm n0).1 (fm n0).2 (gx_set hs ?_ (fun z => Bool.noConfusion z))⟩
      rw [Int.fdiv_eq_ediv_of_nonneg _ (by omega)]
      exact Int.ediv_nonneg ha (by omega)
    | false =>
      have hb1 := hb rfl
      refine iteF ?_
      refine ⟨_, rfl, st, _, 0, _, rfl, rfl, .inl (.inl hs), rfl, a, 48271, rfl, rfl, .inl ⟨by omega, by omega⟩, _, _, rfl, rfl, _, _, rfl, rfl, (by show (2147483647 : Int) ≠ 0; decide), _, rfl, st, _, 0, 0, rfl, rfl, hs, rfl, ?_⟩
      dsimp only
      have f1 := fm (x := a * 48271 + 29) (m := 2147483647) (by decide)
      generalize (a * 48271 + 29).fmod 2147483647 = b1 at f1 ⊢
      obtain ⟨f1a, f1b⟩ := f1
      have hs1 : (upd H st (.lst [.int b1, .bl false])) st = some (.lst [.int b1, .bl false]) := upd_same
      refine ⟨_, rfl, st, _, 0, _, rfl, rfl, .inl (.inl hs1), rfl, _, rfl, st, _, 0, _, rfl, rfl, .inl (.inl hs1), rfl, b1, b1, rfl, rfl, .inl ⟨by omega, by omega⟩, _, rfl, st, _, 0, _, rfl, rfl, .inl (.inl hs1), rfl, 39373, b1, rfl, rfl, .inl ⟨by decide, by decide⟩, _, _, rfl, rfl, _, _, rfl, rfl, _, _, rfl, rfl, (by show (2147483629 : Int) ≠ 0; decide), ?_⟩
      dsimp only
      have f2 := fm (x := b1 * b1 + 39373 * b1 + 7) (m := 2147483629) (by decide)
      generalize (b1 * b1 + 39373 * b1 + 7).fmod 2147483629 = b2 at f2 ⊢
      obtain ⟨f2a, f2b⟩ := f2
      refine ⟨_, rfl, _, rfl, b2, b2, rfl, rfl, .inl ⟨by omega, by omega⟩, _, rfl, 16807, b2, rfl, rfl, .inl ⟨by decide, by decide⟩, _, _, rfl, rfl, _, _, rfl, rfl, (by show (2147483587 : Int) ≠ 0; decide), ?_⟩
      dsimp only
      generalize (b2 * b2 + 16807 * b2).fmod 2147483587 = b3
      refine ⟨_, rfl, b3, 8, rfl, rfl, ⟨by decide, by decide⟩, _, rfl, _, n, rfl, rfl, by omega, ?_⟩
      exact q _ _ (fm n0).1 (fm n0).2 (gx_set hs f1a (fun _ => f1b))
end

section
variable {P : Program} {w : World} {K : PySem.W.Frag} {mg : Str → Option Value} {base : Heap}
def sp__law_row (K : PySem.W.Frag) : Sp := fun vs H Q _ => ∃ (st : Addr), vs = [.ref st] ∧ IsSx H st ∧ ∀ (r : RW) (p : Addr) (H' : Hp), VRow r → Gx st H H' → H' p = some (.tup [.int r.1, .int r.2]) → Q (.ref p) H'
theorem ok__law_row {f : Addr} {fd : FuncData} (F : Fun K "_law_row" "_law_row" s__law_row f fd) (T : Txt K mg) (D__law_take : Cl P w K mg base 1 "_law_take" ["_law_state_here", "_law_many"] (sp__law_take K)) : FnOk P w K mg base CX0 2 f fd ["_law_state_here"] (sp__law_row K) := by
  refine F.ok sc__law_row (fun vs H Q E h => ?_) (fun cdv A outer s H vs Q E hr h => ?_)
  · obtain ⟨st, rfl, _⟩ := h
    rfl
  · obtain ⟨st, rfl, hs, q⟩ := h
    refine ⟨_, (pss_cons (ps_set (i := 1) sc__law_row.nd rfl (Or.inl rfl) (pe_ix ix_list (pe_lst (pa_cons (pe_own D__law_take (hr.mono (by omega)) (by rfl) (pa_cons (pv 0) (pa_cons pe_int pa_nil))) (pa_cons (pe_own D__law_take (hr.mono (by omega)) (by rfl) (pa_cons (pv 0) (pa_cons pe_int pa_nil))) pa_nil))) (pe_own D__law_take (hr.mono (by omega)) (by rfl) (pa_cons (pv 0) (pa_cons pe_int pa_nil))) (fun _ _ => rfl)))
      (pss_one (ps_ret (pe_tup (pa_cons (pv 1) (pa_cons (pe_op op_add pe_int (pe_own D__law_take (hr.mono (by omega)) (by rfl) (pa_cons (pv 0) (pa_cons (pe_ix ix_list (pe_lst (pa_cons pe_int (pa_cons pe_int (pa_cons pe_int pa_nil)))) (pe_own D__law_take (hr.mono (by omega)) (by rfl) (pa_cons (pv 0) (pa_cons pe_int pa_nil))) (fun _ _ => rfl)) pa_nil)))) pa_nil)))))), ?_⟩
    refine ⟨_, rfl, st, 10, rfl, hs, by decide, by decide, fun r1 H1 a1 b1 g1 => ?_⟩
    refine ⟨_, rfl, st, 3, rfl, g1.2.1 hs, by decide, by decide, fun r2 H2 a2 b2 g2 => ?_⟩
    have g12 := g1.trans g2
    refine ⟨(by show 2 ≤ sizeLine; decide), fun p np => ?_⟩
    obtain ⟨s3, e3⟩ := new_at (.lst [.int r1, .int r2]) np
    have np' := sx_ne (g12.2.1 hs) np
    generalize upd H2 p (.lst [.int r1, .int r2]) = H3 at s3 e3 ⊢
    have g13 := g12.trans (gx_same (st := st) s3)
    refine ⟨_, rfl, st, 2, rfl, g13.2.1 hs, by decide, by decide, fun r4 H4 a4 b4 g4 => ?_⟩
    have g14 := g13.trans g4
    obtain ⟨d, d0, d1, ed⟩ : ∃ d : Int, 0 ≤ d ∧ d ≤ 9 ∧ atI [V.int r1, .int r2] r4 = some (.int d) := by
      rcases (by omega : r4 = 0 ∨ r4 = 1) with e | e <;> subst e
      · exact ⟨r1, by omega, by omega, rfl⟩
      · exact ⟨r2, by omega, by omega, rfl⟩
    refine ⟨p, _, _, _, rfl, rfl, .inl (.inl (g4.1 _ _ np' lst_tbl e3)), ed, ?_⟩
    refine ⟨_, rfl, _, rfl, (by show 3 ≤ sizeLine; decide), fun p2 np2 => ?_⟩
    obtain ⟨s5, e5⟩ := new_at (.lst [.int 24, .int 3, .int 6]) np2
    have np2' := sx_ne (g14.2.1 hs) np2
    generalize upd H4 p2 (.lst [.int 24, .int 3, .int 6]) = H5 at s5 e5 ⊢
    have g15 := g14.trans (gx_same (st := st) s5)
    refine ⟨_, rfl, st, 3, rfl, g15.2.1 hs, by decide, by decide, fun r6 H6 a6 b6 g6 => ?_⟩
    have g16 := g15.trans g6
    obtain ⟨m, m0, m1, em⟩ : ∃ m : Int, 0 < m ∧ m ≤ 24 ∧ atI [V.int 24, .int 3, .int 6] r6 = some (.int m) := by
      rcases (by omega : r6 = 0 ∨ r6 = 1 ∨ r6 = 2) with e | e | e <;> subst e
      · exact ⟨24, by omega, by omega, rfl⟩
      · exact ⟨3, by omega, by omega, rfl⟩
      · exact ⟨6, by omega, by omega, rfl⟩
    refine ⟨p2, _, r6, _, rfl, rfl, .inl (.inl (g6.1 _ _ np2' lst_tbl e5)), em, st, m, rfl, g16.2.1 hs, m0, by omega, fun r7 H7 a7 b7 g7 => ?_⟩
    refine ⟨_, _, rfl, rfl, (by show 2 ≤ sizeLine; decide), fun p8 np8 => ?_⟩
    exact q (d, 1 + r7) p8 _ ⟨d0, d1, by show 1 ≤ 1 + r7; omega, by show 1 + r7 ≤ 24; omega⟩ ((g16.trans g7).trans (gx_same (same_upd np8))) upd_same
def sp__law_layer (K : PySem.W.Frag) : Sp := fun vs H Q _ => ∃ (st : Addr) (mo : Int) (en : Bool), vs = [.ref st, .int mo, .bl en] ∧ IsSx H st ∧ 0 ≤ mo ∧ mo ≤ 8 ∧
  ∀ (v : V) (l : LY) (H' : Hp), Gx st H H' → LyAt K H' v l → VLy l → (l.1.length : Int) ≤ mo → (en = true → l.2 = none) → Q v H'
theorem ok__law_layer {f : Addr} {fd : FuncData} (F : Fun K "_law_layer" "_law_layer" s__law_layer f fd) (T : Txt K mg) (D__law_row : Cl P w K mg base 2 "_law_row" ["_law_state_here"] (sp__law_row K)) (D__law_take : Cl P w K mg base 1 "_law_take" ["_law_state_here", "_law_many"] (sp__law_take K)) : FnOk P w K mg base CX0 3 f fd ["_law_state_here", "_law_most", "_law_ended"] (sp__law_layer K) := by
  refine F.ok sc__law_layer (fun vs H Q E h => ?_) (fun cdv A outer s H vs Q E hr h => ?_)
  · obtain ⟨st, mo, en, rfl, _⟩ := h
    rfl
  · obtain ⟨st, mo, en, rfl, hs, mo0, mo1, q⟩ := h
    refine ⟨_, (pss_cons (ps_set (i := 3) sc__law_layer.nd rfl (Or.inl rfl) (pe_callTy call_tuple_of (by rfl) T.b_tuple (by decide +kernel) (pa_cons (pe_lc (own := [("_law_turn", 6)]) (g := (gName 6)) (tt := tYes) (by rfl) sc__law_layer.nd (pi_range1 (by rfl) T.b_range (pa_cons (pe_own D__law_take (hr.mono (by omega)) (by rfl) (pa_cons (pv 0) (pa_cons (pe_op op_add (pv 1) pe_int) pa_nil))) pa_nil)) (blkOk_by (own := [("_law_turn", 6)]) (N := ["_law_state_here", "_law_most", "_law_ended", "_law_rows", "_law_way", "_law_back", "_law_turn"]) (sc := defScope s__law_layer) (by decide +kernel)) (fun _ _ _ _ _ => (pg_name (i := 6) sc__law_layer.nd rfl (Or.inl rfl))) (fun _ _ _ _ _ => pts_nil) (fun _ _ _ _ _ => (pe_own D__law_row (hr.mono (by omega)) (by rfl) (pa_cons (pv 0) pa_nil)))) pa_nil)))
      (pss_cons (ps_par (i := 4) (j := 5) (by rfl) sc__law_layer.nd rfl rfl (by decide) rfl rfl (pa_cons (pe_own D__law_take (hr.mono (by omega)) (by rfl) (pa_cons (pv 0) (pa_cons pe_int pa_nil))) (pa_cons (pe_own D__law_take (hr.mono (by omega)) (by rfl) (pa_cons (pv 0) (pa_cons (pe_callB (call_max2 rfl) (by rfl) T.b_max (by decide +kernel) (pa_cons pe_int (pa_cons (pe_callB call_len_seq (by rfl) T.b_len (by decide +kernel) (pa_cons (pv 3) pa_nil)) pa_nil))) pa_nil))) pa_nil)) (by rfl))
      (pss_one (ps_ret (pe_tup (pa_cons (pv 3) (pa_cons (pe_ifExp (PW.pt (pw_or (pt_truth (pv 2) (by intro _; rfl)) (pw_or (pt_cmpR (op_eqD hr.units) (pv 3) (pe_tup pa_nil) (nomark _)) (pw_or1 (pt_cmpR op_eq (pv 4) pe_int (nomark _)))))) pe_non (pv 5)) pa_nil))))))), ?_⟩
    refine ⟨_, rfl, _, rfl, mo, 1, rfl, rfl, st, mo + 1, rfl, hs, by omega, by omega, fun mn H1 m0 m1 g1 => ?_⟩
    have hs1 := g1.2.1 hs
    refine ⟨mn, rfl, by omega, by omega, fun D hD => ?_⟩
    have nD := sx_ne hs1 hD
    have gD : Gx st H1 (upd H1 D (.lst [])) := gx_same (same_upd hD)
    refine lc_range (lo := 0) (n := mn.toNat) (fun i H' => Gx st H1 H' ∧ ∃ (vs : List V) (rs : List RW), H' D = some (.lst vs) ∧ vs.length = i ∧ Paired (RowAt K H') vs rs ∧ ∀ r ∈ rs, VRow r)
      ⟨gD, [], [], upd_same, rfl, .nil, fun r hr => by cases hr⟩ (fun i H7 hi p7 => ?_) (fun H7 p7 => ?_)
    · obtain ⟨g7, vs, rs, hL, hlen, pd, vr⟩ := p7
      refine ⟨rfl, yes_ok ⟨_, rfl, st, rfl, g7.2.1 hs1, fun r p8 H8 vr8 g8 e8 => ?_⟩⟩
      have hL8 := g8.1 D _ nD lst_tbl hL
      refine ⟨vs, hL8, small1000 (by omega), gx_upd (g7.trans g8) hD nD hL8 _, vs ++ [.ref p8], rs ++ [r], upd_same, ?_, ?_, ?_⟩
      · rw [List.length_append, hlen]
        rfl
      · have k1 : TKeep K H7 (upd H8 D (.lst (vs ++ [.ref p8]))) := fun a xs h => tk_updL hL8 _ _ (g8.sqT (g7.2.1 hs1) h)
        exact Paired.snocP (Paired.mono pd fun _ _ => RowAt.keep k1) ⟨p8, rfl, tk_updL hL8 _ _ (.inl (.inl e8))⟩
      · intro x hx
        rcases List.mem_append.mp hx with z | z
        · exact vr x z
        · rw [List.mem_singleton.mp z]
          exact vr8
    obtain ⟨g7, vs, rs, hL, hlen, pd, vr⟩ := p7
    have hl : vs.length = rs.length := Paired.length pd
    refine ⟨D, vs, rfl, .inl ⟨.inl (.inl hL), fun l nl => ?_⟩⟩
    obtain ⟨s8, e8⟩ := new_at (.tup vs) nl
    generalize upd H7 l (.tup vs) = H8 at s8 e8 ⊢
    have g8 := (g1.trans g7).trans (gx_same (st := st) s8)
    have hr8 : RowsAt K H8 (.ref l) rs := ⟨l, vs, rfl, .inl (.inl e8), Paired.mono pd fun _ _ => RowAt.keep (Same.tk s8)⟩
    refine ⟨_, rfl, st, 2, rfl, g8.2.1 hs, by decide, by decide, fun wy H9 w0 w1 g9 => ?_⟩
    have g19 := g8.trans g9
    have hr9 := hr8.keep (g9.tk (g8.2.1 hs))
    obtain ⟨l', vs', el, hq9, pd9⟩ := id hr9
    cases el
    have hl9 : vs'.length = rs.length := Paired.length pd9
    refine ⟨_, rfl, _, rfl, l, vs', rfl, .inr hq9, _, _, rfl, ?_⟩
    obtain ⟨mx, x0, x1, x2, ex⟩ : ∃ m : Int, 1 ≤ m ∧ m ≤ 8 ∧ (0 < rs.length → m = (rs.length : Int)) ∧ (if (vs'.length : Int) > 1 then (vs'.length : Int) else 1) = m := by
      refine ⟨_, ?_, ?_, ?_, rfl⟩ <;> split <;> omega
    rw [ex]
    refine ⟨st, mx, rfl, g19.2.1 hs, by omega, by omega, fun bk H10 b0 b1 g10 => ⟨_, _, rfl, ?_⟩⟩
    have g110 := g19.trans g10
    have hr10 := hr9.keep (g10.tk (g19.2.1 hs))
    have vR : VRows rs := ⟨by omega, vr⟩
    have done : ∀ (o : Option Int) (H11 : Hp), Same H10 H11 → VBack rs o → (en = true → o = none) → ∀ p, H11 p = none → Q (.ref p) (upd H11 p (.tup [.ref l, bkV o])) := fun o H11 s11 vb he p np => by
      have sp' := same_upd (o := .tup [.ref l, bkV o]) np
      exact q _ (rs, o) _ ((g110.trans (gx_same s11)).trans (gx_same sp')) ⟨p, _, rfl, .inl (.inl upd_same), hr10.keep (Same.tk (s11.trans sp'))⟩ ⟨vR, vb⟩ (by show (rs.length : Int) ≤ mo; omega) he
    refine ⟨_, rfl, _, rfl, _, rfl, ?_⟩
    cases en with
    | true => exact iteT (iteT ⟨(by show 2 ≤ sizeLine; decide), done none H10 (Same.refl _) (fun i e => nomatch e) (fun _ => rfl)⟩)
    | false =>
      refine iteF ⟨_, rfl, (by show 0 ≤ sizeLine; decide), fun t nt => ?_⟩
      obtain ⟨s11, e11⟩ := new_at (.tup []) nt
      generalize upd H10 t (.tup []) = H11 at s11 e11 ⊢
      have dr : Dp K H11 (.ref l) (.tuple (rs.map rwD)) := by
        obtain ⟨l2, vs2, e2, hq2, pd2⟩ := hr10.keep (Same.tk s11)
        cases e2
        exact .tup hq2 (dpAll_of (fun _ _ h => h.dp) pd2)
      refine eq_data (k := 2) dr (.tup (.inl (.inl e11)) .nil) (Sd.tup fun e he => ?_) (Sd.tup fun e he => by cases he) (by decide) fun b hb => ⟨_, rfl, ?_⟩
      · obtain ⟨r, _, rfl⟩ := List.mem_map.mp he
        exact sd_rw r
      cases b with
      | true => exact iteT (iteT ⟨(by show 2 ≤ sizeLine; decide), done none H11 s11 (fun i e => nomatch e) (fun _ => rfl)⟩)
      | false =>
        have ne : 0 < rs.length := by
          rcases Nat.eq_zero_or_pos rs.length with z | z
          · exfalso
            rw [List.length_eq_zero_iff.mp z] at hb
            exact Bool.noConfusion (hb.mpr rfl)
          · exact z
        have := x2 ne
        refine iteF ⟨_, rfl, rfl, _, rfl, ite2 (fun e => ?_) (fun e => ?_)⟩
        · exact ⟨(by show 2 ≤ sizeLine; decide), done none H11 s11 (fun i e => nomatch e) (fun _ => rfl)⟩
        · exact ⟨_, rfl, (by show 2 ≤ sizeLine; decide), done (some bk) H11 s11 (fun i e => by cases e; exact ⟨b0, by omega⟩) (fun z => Bool.noConfusion z)⟩
end

section
variable {P : Program} {w : World} {K : PySem.W.Frag} {mg : Str → Option Value} {base : Heap}
def sp__law_window (K : PySem.W.Frag) : Sp := fun vs H Q _ => ∃ (st : Addr) (mo : Int), vs = [.ref st, .int mo] ∧ IsSx H st ∧ 0 ≤ mo ∧ mo ≤ 8 ∧
  ∀ (v : V) (x y : Int) (ms : List MV) (H' : Hp), Gx st H H' → WinAt K H' v x y ms → VWin x y ms → (ms.length : Int) ≤ mo → Q v H'
theorem ok__law_window {f : Addr} {fd : FuncData} (F : Fun K "_law_window" "_law_window" s__law_window f fd) (T : Txt K mg) (D__law_take : Cl P w K mg base 1 "_law_take" ["_law_state_here", "_law_many"] (sp__law_take K)) : FnOk P w K mg base CX0 2 f fd ["_law_state_here", "_law_most"] (sp__law_window K) := by
  refine F.ok sc__law_window (fun vs H Q E h => ?_) (fun cdv A outer s H vs Q E hr h => ?_)
  · obtain ⟨st, mo, rfl, _⟩ := h
    rfl
  · obtain ⟨st, mo, rfl, hs, mo0, mo1, q⟩ := h
    refine ⟨_, (pss_cons (ps_set (i := 2) sc__law_window.nd rfl (Or.inl rfl) (pe_lst pa_nil))
      (pss_cons (ps_for PassesOwn.never rfl (pi_range1 (by rfl) T.b_range (pa_cons (pe_own D__law_take (hr.mono (by omega)) (by rfl) (pa_cons (pv 0) (pa_cons (pe_op op_add (pv 1) pe_int) pa_nil))) pa_nil)) (pg_name (i := 3) sc__law_window.nd rfl (Or.inl rfl))
        (pss_cons (ps_set (i := 4) sc__law_window.nd rfl (Or.inl rfl) (pe_ix ix_list (pe_lst (pa_cons (pe_own D__law_take (hr.mono (by omega)) (by rfl) (pa_cons (pv 0) (pa_cons pe_int pa_nil))) (pa_cons (pe_own D__law_take (hr.mono (by omega)) (by rfl) (pa_cons (pv 0) (pa_cons pe_int pa_nil))) pa_nil))) (pe_own D__law_take (hr.mono (by omega)) (by rfl) (pa_cons (pv 0) (pa_cons pe_int pa_nil))) (fun _ _ => rfl)))
      (pss_one (ps_expr (pe_bm PySem.F.plainAttrs_list PySem.F.slot_list_append PySem.F.type_list_append mt_append (pv 2) (pa_cons (pe_tup (pa_cons (pe_op op_sub (pe_own D__law_take (hr.mono (by omega)) (by rfl) (pa_cons (pv 0) (pa_cons pe_int pa_nil))) pe_int) (pa_cons (pe_op op_sub (pe_own D__law_take (hr.mono (by omega)) (by rfl) (pa_cons (pv 0) (pa_cons pe_int pa_nil))) pe_int) (pa_cons (pv 4) pa_nil)))) pa_nil))))))
      (pss_one (ps_ret (pe_tup (pa_cons (pe_op op_sub (pe_own D__law_take (hr.mono (by omega)) (by rfl) (pa_cons (pv 0) (pa_cons pe_int pa_nil))) pe_int) (pa_cons (pe_op op_sub (pe_own D__law_take (hr.mono (by omega)) (by rfl) (pa_cons (pv 0) (pa_cons pe_int pa_nil))) pe_int) (pa_cons (pe_callTy call_tuple_of (by rfl) T.b_tuple (by decide +kernel) (pa_cons (pv 2) pa_nil)) pa_nil)))))))), ?_⟩
    refine ⟨Nat.zero_le _, fun F nF => ?_⟩
    have nFs := sx_ne hs nF
    have gF : Gx st H (upd H F (.lst [])) := gx_same (same_upd nF)
    have eF : (upd H F (.lst [])) F = some (.lst []) := upd_same
    generalize upd H F (.lst []) = H0 at gF eF ⊢
    have hs0 := gF.2.1 hs
    refine ⟨_, rfl, _, rfl, mo, 1, rfl, rfl, st, mo + 1, rfl, hs0, by omega, by omega, fun mn H1 m0 m1 g1 => ?_⟩
    have g01 := gF.trans g1
    refine ⟨mn, rfl, by omega, by omega, ?_⟩
    refine for_range (lo := 0) (n := mn.toNat) (fun i σ H' => Gx st H H' ∧ ∃ (y3 y4 : Option V) (vs : List V) (ms : List MV), σ = [some (.ref st), some (.int mo), some (.ref F), y3, y4] ∧ H' F = some (.lst vs) ∧ vs.length = i ∧ Paired (MoveAt K H') vs ms ∧ ∀ m ∈ ms, VMove m)
      ⟨g01, _, _, [], [], rfl, g1.1 _ _ nFs lst_tbl eF, rfl, .nil, fun m hm => by cases hm⟩ ?_ ?_
    · rintro i σ H2 hi ⟨g2, y3, y4, vs, ms, rfl, hF, hlen, pd, vm⟩
      have hs2 := g2.2.1 hs
      refine ⟨_, rfl, st, 25, rfl, hs2, by decide, by decide, fun r3 H3 a3 b3 g3 => ⟨_, rfl, st, 4, rfl, g3.2.1 hs2, by decide, by decide, fun r4 H4 a4 b4 g4 => ?_⟩⟩
      have g34 := g3.trans g4
      refine ⟨(by show 2 ≤ sizeLine; decide), fun p np => ?_⟩
      obtain ⟨s5, e5⟩ := new_at (.lst [.int r3, .int r4]) np
      have np' := sx_ne (g34.2.1 hs2) np
      generalize upd H4 p (.lst [.int r3, .int r4]) = H5 at s5 e5 ⊢
      have g35 := g34.trans (gx_same (st := st) s5)
      refine ⟨_, rfl, st, 2, rfl, g35.2.1 hs2, by decide, by decide, fun r6 H6 a6 b6 g6 => ?_⟩
      have g36 := g35.trans g6
      obtain ⟨n, n0, n1, en⟩ : ∃ n : Int, 0 ≤ n ∧ n ≤ 24 ∧ atI [V.int r3, .int r4] r6 = some (.int n) := by
        rcases (by omega : r6 = 0 ∨ r6 = 1) with e | e <;> subst e
        · exact ⟨r3, by omega, by omega, rfl⟩
        · exact ⟨r4, by omega, by omega, rfl⟩
      refine ⟨p, _, _, _, rfl, rfl, .inl (.inl (g6.1 _ _ np' lst_tbl e5)), en, ?_⟩
      refine ⟨_, rfl, .inl ⟨rfl, _, .inl (.inl (g36.1 _ _ nFs lst_tbl hF))⟩, ?_⟩
      refine ⟨_, rfl, st, 41, rfl, g36.2.1 hs2, by decide, by decide, fun r7 H7 a7 b7 g7 => ⟨_, _, rfl, rfl, ?_⟩⟩
      have g37 := g36.trans g7
      refine ⟨_, rfl, st, 41, rfl, g37.2.1 hs2, by decide, by decide, fun r8 H8 a8 b8 g8 => ⟨_, _, rfl, rfl, _, rfl, (by show 3 ≤ sizeLine; decide), fun q9 nq9 => ?_⟩⟩
      have g38 := g37.trans g8
      obtain ⟨s9, e9⟩ := new_at (.tup [.int (r7 - 20), .int (r8 - 20), .int n]) nq9
      generalize upd H8 q9 (.tup [.int (r7 - 20), .int (r8 - 20), .int n]) = H9 at s9 e9 ⊢
      have g39 := g38.trans (gx_same (st := st) s9)
      have hF9 := g39.1 _ _ nFs lst_tbl hF
      refine ⟨F, _, _, rfl, rfl, hF9, small1000 (by omega), ?_⟩
      have k1 : TKeep K H2 (upd H9 F (.lst (vs ++ [.ref q9]))) := fun a xs h => tk_updL hF9 _ _ (g39.sqT hs2 h)
      refine ⟨gx_upd (g2.trans g39) nF nFs hF9 _, _, _, vs ++ [.ref q9], ms ++ [(r7 - 20, r8 - 20, n)], rfl, upd_same, ?_, ?_, ?_⟩
      · rw [List.length_append, hlen]
        rfl
      · exact Paired.snocP (Paired.mono pd fun _ _ => MoveAt.keep k1) ⟨q9, rfl, tk_updL hF9 _ _ (.inl (.inl e9))⟩
      · intro x hx
        rcases List.mem_append.mp hx with z | z
        · exact vm x z
        · rw [List.mem_singleton.mp z]
          refine ⟨⟨?_, ?_⟩, ⟨?_, ?_⟩, n0, n1⟩
          · show -20 ≤ r7 - 20; omega
          · show r7 - 20 ≤ 20; omega
          · show -20 ≤ r8 - 20; omega
          · show r8 - 20 ≤ 20; omega
    · rintro σ H2 ⟨g2, y3, y4, vs, ms, rfl, hF, hlen, pd, vm⟩
      have hs2 := g2.2.1 hs
      have hl : vs.length = ms.length := Paired.length pd
      refine ⟨_, rfl, st, 41, rfl, hs2, by decide, by decide, fun r3 H3 a3 b3 g3 => ⟨_, _, rfl, rfl, ?_⟩⟩
      refine ⟨_, rfl, st, 41, rfl, g3.2.1 hs2, by decide, by decide, fun r4 H4 a4 b4 g4 => ⟨_, _, rfl, rfl, ?_⟩⟩
      have g34 := g3.trans g4
      have hF4 := g34.1 _ _ nFs lst_tbl hF
      refine ⟨_, rfl, F, vs, rfl, .inl ⟨.inl (.inl hF4), fun l nl => ?_⟩⟩
      obtain ⟨s5, e5⟩ := new_at (.tup vs) nl
      generalize upd H4 l (.tup vs) = H5 at s5 e5 ⊢
      refine ⟨(by show 3 ≤ sizeLine; decide), fun p6 np6 => ?_⟩
      have s6 := same_upd (o := .tup [.int (r3 - 20), .int (r4 - 20), .ref l]) np6
      have k : TKeep K H2 (upd H5 p6 (.tup [.int (r3 - 20), .int (r4 - 20), .ref l])) := (g34.trans (gx_same (st := st) (s5.trans s6))).tk hs2
      refine q _ (r3 - 20) (r4 - 20) ms _ ((g2.trans g34).trans (gx_same (s5.trans s6))) ⟨p6, _, rfl, .inl (.inl upd_same), l, vs, rfl, .inl (.inl (s6 _ _ e5)), Paired.mono pd fun _ _ => MoveAt.keep k⟩ ⟨⟨by omega, by omega⟩, ⟨by omega, by omega⟩, by omega, vm⟩ (by omega)
def sp__law_sheet (K : PySem.W.Frag) : Sp := fun vs H Q _ => ∃ (st : Addr) (n mo : Int) (en : Bool), vs = [.ref st, .int n, .int mo, .bl en] ∧ IsSx H st ∧ 1 ≤ n ∧ n ≤ 4 ∧ 0 ≤ mo ∧ mo ≤ 8 ∧
  ∀ (v : V) (ls : List LY) (x y : Int) (ms : List MV) (H' : Hp), Gx st H H' → ShAt K H' v ls x y ms → VLays ls → VWin x y ms → (ls.length : Int) = n → (∀ l ∈ ls, (l.1.length : Int) ≤ mo) → (ms.length : Int) ≤ mo → (en = true → ∀ l ∈ ls, l.2 = none) → Q v H'
theorem ok__law_sheet {f : Addr} {fd : FuncData} (F : Fun K "_law_sheet" "_law_sheet" s__law_sheet f fd) (T : Txt K mg) (D__law_window : Cl P w K mg base 2 "_law_window" ["_law_state_here", "_law_most"] (sp__law_window K)) (D__law_layer : Cl P w K mg base 3 "_law_layer" ["_law_state_here", "_law_most", "_law_ended"] (sp__law_layer K)) : FnOk P w K mg base CX0 4 f fd ["_law_state_here", "_law_layers", "_law_most", "_law_ended"] (sp__law_sheet K) := by
  refine F.ok sc__law_sheet (fun vs H Q E h => ?_) (fun cdv A outer s H vs Q E hr h => ?_)
  · obtain ⟨st, n, mo, en, rfl, _⟩ := h
    rfl
  · obtain ⟨st, n, mo, en, rfl, hs, n1, n4, mo0, mo8, q⟩ := h
    refine ⟨_, (pss_one (ps_ret (pe_tup (pa_cons (pe_callTy call_tuple_of (by rfl) T.b_tuple (by decide +kernel) (pa_cons (pe_lc (own := [("_law_turn", 4)]) (g := (gName 4)) (tt := tYes) (by rfl) sc__law_sheet.nd (pi_range1 (by rfl) T.b_range (pa_cons (pv 1) pa_nil)) (blkOk_by (own := [("_law_turn", 4)]) (N := ["_law_state_here", "_law_layers", "_law_most", "_law_ended", "_law_turn"]) (sc := defScope s__law_sheet) (by decide +kernel)) (fun _ _ _ _ _ => (pg_name (i := 4) sc__law_sheet.nd rfl (Or.inl rfl))) (fun _ _ _ _ _ => pts_nil) (fun _ _ _ _ _ => (pe_own D__law_layer (hr.mono (by omega)) (by rfl) (pa_cons (pv 0) (pa_cons (pv 2) (pa_cons (pv 3) pa_nil)))))) pa_nil)) (pa_cons (pe_own D__law_window (hr.mono (by omega)) (by rfl) (pa_cons (pv 0) (pa_cons (pv 2) pa_nil))) pa_nil))))), ?_⟩
    refine ⟨_, rfl, n, rfl, by omega, by omega, fun D hD => ?_⟩
    have nD := sx_ne hs hD
    refine lc_range (lo := 0) (n := n.toNat) (fun i H' => Gx st H H' ∧ ∃ (vs : List V) (ls : List LY), H' D = some (.lst vs) ∧ vs.length = i ∧ Paired (LyAt K H') vs ls ∧ ∀ l ∈ ls, VLy l ∧ (l.1.length : Int) ≤ mo ∧ (en = true → l.2 = none))
      ⟨gx_same (same_upd hD), [], [], upd_same, rfl, .nil, fun r hr => by cases hr⟩ (fun i H7 hi p7 => ?_) (fun H7 p7 => ?_)
    · obtain ⟨g7, vs, ls, hL, hlen, pd, vl⟩ := p7
      refine ⟨rfl, yes_ok ⟨_, rfl, _, rfl, _, rfl, st, mo, en, rfl, g7.2.1 hs, mo0, mo8, fun v8 l H8 g8 h8 vl8 ll8 en8 => ?_⟩⟩
      have hL8 := g8.1 D _ nD lst_tbl hL
      refine ⟨vs, hL8, small1000 (by omega), gx_upd (g7.trans g8) hD nD hL8 _, vs ++ [v8], ls ++ [l], upd_same, ?_, ?_, ?_⟩
      · rw [List.length_append, hlen]
        rfl
      · have k1 : TKeep K H7 (upd H8 D (.lst (vs ++ [v8]))) := fun a xs h => tk_updL hL8 _ _ (g8.sqT (g7.2.1 hs) h)
        exact Paired.snocP (Paired.mono pd fun _ _ => LyAt.keep k1) (h8.keep fun a xs h => tk_updL hL8 _ _ h)
      · intro x hx
        rcases List.mem_append.mp hx with z | z
        · exact vl x z
        · rw [List.mem_singleton.mp z]
          exact ⟨vl8, ll8, en8⟩
    · obtain ⟨g7, vs, ls, hL, hlen, pd, vl⟩ := p7
      have hl : vs.length = ls.length := Paired.length pd
      have hs7 := g7.2.1 hs
      refine ⟨D, vs, rfl, .inl ⟨.inl (.inl hL), fun l nl => ?_⟩⟩
      obtain ⟨s8, e8⟩ := new_at (.tup vs) nl
      generalize upd H7 l (.tup vs) = H8 at s8 e8 ⊢
      have g78 := gx_same (st := st) s8
      have hs8 := g78.2.1 hs7
      refine ⟨_, rfl, _, rfl, st, mo, rfl, hs8, mo0, mo8, fun wv x y ms H9 g9 hw vw lm => ⟨(by show 2 ≤ sizeLine; decide), fun p np => ?_⟩⟩
      have sp' := same_upd (o := .tup [.ref l, wv]) np
      have g79 := (g78.trans g9).trans (gx_same (st := st) sp')
      have k : TKeep K H7 (upd H9 p (.tup [.ref l, wv])) := g79.tk hs7
      refine q _ ls x y ms _ (g7.trans g79) ⟨p, _, _, rfl, .inl (.inl upd_same), ⟨l, vs, rfl, ?_, Paired.mono pd fun _ _ => LyAt.keep k⟩, hw.keep (Same.tk sp')⟩ ⟨by omega, by omega, fun l hl => (vl l hl).1⟩ vw (by omega) (fun l hl => (vl l hl).2.1) lm (fun he l hl => (vl l hl).2.2 he)
      exact Same.sqT sp' (g9.sqT hs8 (.inl (.inl e8)))
end

section
variable {P : Program} {w : World} {K : PySem.W.Frag} {mg : Str → Option Value} {base : Heap}
def sp_law (K : PySem.W.Frag) (TS : List (Addr × Str)) : Sp := fun vs H Q _ => ∃ (a : Addr) (ns : List Int), vs = [.ref a] ∧ SqL K H a (ns.map V.int) ∧ ns.length ≤ 63 ∧ LamX.Tabs TS H ∧ ∀ H', Q (.bl true) H'
theorem ok_law {f g cc PP : Addr} {fd fdm : FuncData} {c : Nat → Addr} {LE : Addr} {TS : List (Addr × Str)} (F : FunC K "law" "law" s_law f fd cc) (T : Txt K mg) (TX : ExcN K mg c LE) (MR : Mkr base mg cc PP "law" TS) (Fm : Fun K "_law_met" "_law_met" s__law_met g fdm) (mm : mg "_law_met" = some (.ref g)) (bm : Binds K fdm ["_law_call"] []) (DE : ClE P w K mg base 1 "_law_classes" ["_law_e"] (spCls c)) (D__law_state : Cl P w K mg base 2 "_law_state" ["_law_script", "_law_k"] (sp__law_state K)) (D__law_take : Cl P w K mg base 1 "_law_take" ["_law_state_here", "_law_many"] (sp__law_take K)) (D__law_sheet : Cl P w K mg base 4 "_law_sheet" ["_law_state_here", "_law_layers", "_law_most", "_law_ended"] (sp__law_sheet K)) (D_behind : ClX P w K mg base 8 "behind" ["one", "other"] (sp_behind K c)) (D__law_end : Cl P w K mg base 3 "_law_end" ["_law_sheet_here"] (sp__law_end K)) (D_is_sheet : Cl P w K mg base 6 "is_sheet" ["thing"] (sp_is_sheet K)) (D__law_picture : Cl P w K mg base 3 "_law_picture" ["_law_sheet_here", "_law_moment"] (sp__law_picture K)) (D_picture_at : Cl P w K mg base 8 "picture_at" ["sheet", "moment"] (sp_picture_at K)) : FnOk P w K mg base CX0 11 f fd ["_law_script"] (sp_law K TS) := by
  refine fun_okL F sc_law (fun vs H Q E h => ?_) (fun A outer s H vs Q E hr h => ?_)
  · obtain ⟨a, ns, rfl, _⟩ := h
    rfl
  · obtain ⟨a, ns, rfl, hS, hlen, hT0, q⟩ := h
    refine ⟨_, (pss_cons (ps_for PassesOwn.never rfl (pi_range1 (by rfl) T.b_range (pa_cons (pe_callB (call_max2 rfl) (by rfl) T.b_max (by decide +kernel) (pa_cons pe_int (pa_cons (pe_callB (call_min2 rfl) (by rfl) T.b_min (by decide +kernel) (pa_cons (pe_callB call_len_seq (by rfl) T.b_len (by decide +kernel) (pa_cons (pv 0) pa_nil)) (pa_cons pe_int pa_nil))) pa_nil))) pa_nil)) (pg_name (i := 1) sc_law.nd rfl (Or.inl rfl))
        (pss_cons (ps_set (i := 2) sc_law.nd rfl (Or.inl rfl) (pe_own D__law_state (hr.mono (by omega)) (by rfl) (pa_cons (pv 0) (pa_cons (pv 1) pa_nil))))
      (pss_one (ps_for PassesOwn.never rfl (pi_range1 (by rfl) T.b_range (pa_cons pe_int pa_nil)) (pg_name (i := 3) sc_law.nd rfl (Or.inl rfl))
        (pss_cons (ps_set (i := 4) sc_law.nd rfl (Or.inl rfl) (pe_op op_add pe_int (pe_own D__law_take (hr.mono (by omega)) (by rfl) (pa_cons (pv 2) (pa_cons pe_int pa_nil)))))
      (pss_cons (ps_asg (pe_tup (pa_cons (pe_own D__law_sheet (hr.mono (by omega)) (by rfl) (pa_cons (pv 2) (pa_cons (pv 4) (pa_cons pe_int (pa_cons pe_bl pa_nil))))) (pa_cons (pe_own D__law_sheet (hr.mono (by omega)) (by rfl) (pa_cons (pv 2) (pa_cons (pv 4) (pa_cons pe_int (pa_cons pe_bl pa_nil))))) pa_nil))) (pg_tup (by rfl) (pgs_cons (pg_name (i := 5) sc_law.nd rfl (Or.inr rfl)) (pgs_cons (pg_name (i := 6) sc_law.nd rfl (Or.inr rfl)) pgs_nil))))
      (C8.pss_cut (ps_if (pt_cmpR op_eq (pe_own D__law_take (hr.mono (by omega)) (by rfl) (pa_cons (pv 2) (pa_cons pe_int pa_nil))) pe_int (nomark _)) (pss_one (ps_set (i := 5) sc_law.nd rfl (Or.inr rfl) (pe_tup (pa_cons (pe_op op_repA (pe_tup (pa_cons (pe_tup (pa_cons (pe_tup pa_nil) (pa_cons pe_non pa_nil))) pa_nil)) (pv 4)) (pa_cons (pe_tup (pa_cons pe_int (pa_cons pe_int (pa_cons (pe_tup pa_nil) pa_nil)))) pa_nil))))) pss_nil)
      (pss_cons (ps_set (i := 7) sc_law.nd rfl (Or.inl rfl) (pe_met (k := 8) (met_mk Fm mm bm T TX DE (hr.mono (by omega))) (by rfl) MR.tb rfl MR.hm MR.hu (hr.mono (by omega)) (LamX.lamS_by (sc := defScope s_law) (by decide +kernel)) (fun A outer s H E f c' hr => (pe_ownX D_behind (hr.mono (by omega)) (takes_of rfl rfl rfl rfl) (by rfl) (pa_cons (pv 5) (pa_cons (pv 6) pa_nil))))))
      (pss_one (ps_if (pt_cmpR op_eq (pe_ix ix_tup (pv 7) pe_int (fun _ _ => rfl)) pe_str (nomark _)) (pss_cons (ps_par (i := 8) (j := 9) (by rfl) sc_law.nd rfl rfl (by decide) rfl rfl (pa_cons (pe_ix ix_tup (pv 7) pe_int (fun _ _ => rfl)) (pa_cons (pe_own D__law_end (hr.mono (by omega)) (by rfl) (pa_cons (pv 5) pa_nil)) pa_nil)) (by rfl))
      (pss_cons (ps_if (pt_cmpR op_notB (pe_own D_is_sheet (hr.mono (by omega)) (by rfl) (pa_cons (pv 8) pa_nil)) pe_bl (nomark _)) (pss_one (ps_ret pe_bl)) pss_nil)
      (pss_cons (ps_set (i := 10) sc_law.nd rfl (Or.inl rfl) (pe_op op_add (pv 9) (pe_own D__law_take (hr.mono (by omega)) (by rfl) (pa_cons (pv 2) (pa_cons pe_int pa_nil)))))
      (pss_one (ps_for PassesOwn.never rfl (pi_list (pe_op op_cat (pe_listRg (by rfl) (by rfl) T.b_list (prg_2 (by rfl) T.b_range (pe_callB (call_max2 rfl) (by rfl) T.b_max (by decide +kernel) (pa_cons pe_int (pa_cons (pe_op op_sub (pv 9) pe_int) pa_nil))) (pe_op op_add (pv 9) pe_int))) (pe_lst (pa_cons pe_int (pa_cons (pv 10) (pa_cons (pe_own D__law_take (hr.mono (by omega)) (by rfl) (pa_cons (pv 2) (pa_cons (pe_op op_add (pv 9) pe_int) pa_nil))) pa_nil)))))) (pg_name (i := 11) sc_law.nd rfl (Or.inl rfl))
        (C8.pss_cut (ps_set (i := 12) sc_law.nd rfl (Or.inl rfl) (pe_ifExp (pt_cmpR op_lt (pv 11) (pv 9) (nomark _)) (pe_own D__law_picture (hr.mono (by omega)) (by rfl) (pa_cons (pv 5) (pa_cons (pv 11) pa_nil))) (pe_own D__law_picture (hr.mono (by omega)) (by rfl) (pa_cons (pv 6) (pa_cons (pe_op op_sub (pv 11) (pv 9)) pa_nil)))))
      (pss_one (ps_if (PW.pt (pw_or (pt_cmpR (op_neD hr.units) (pe_own D__law_picture (hr.mono (by omega)) (by rfl) (pa_cons (pv 8) (pa_cons (pv 11) pa_nil))) (pv 12) (nomark _)) (pw_or1 (pt_cmpR (op_neD hr.units) (pe_own D_picture_at (hr.mono (by omega)) (by rfl) (pa_cons (pv 8) (pa_cons (pv 11) pa_nil))) (pv 12) (nomark _))))) (pss_one (ps_ret pe_bl)) pss_nil)))))))) (pss_one (ps_if (pt_cmpR op_ne (pe_ix ix_tup (pv 7) pe_int (fun _ _ => rfl)) pe_str (nomark _)) (pss_one (ps_ret pe_bl)) pss_nil))))))))))))
      (pss_one (ps_ret pe_bl))), ?_⟩
    obtain ⟨c, c0, c1, ec⟩ : ∃ c : Int, 0 ≤ c ∧ c ≤ 2 ∧ (if (if (2 : Int) < ((ns.map V.int).length : Int) then (2 : Int) else ((ns.map V.int).length : Int)) > 1 then (if (2 : Int) < ((ns.map V.int).length : Int) then (2 : Int) else ((ns.map V.int).length : Int)) else (1 : Int)) = c := by
      refine ⟨_, ?_, ?_, rfl⟩ <;> (repeat' split) <;> omega
    refine ⟨_, rfl, a, _, rfl, .inl hS, _, _, rfl, _, _, rfl, c, ?_, by omega, by omega, ?_⟩
    · rw [ec]
    refine for_range (lo := 0) (n := c.toNat) (fun i σ H' => Go TS H H' ∧ ∃ y1 y2 y3 y4 y5 y6 y7 y8 y9 y10 y11 y12, σ = [some (.ref a), y1, y2, y3, y4, y5, y6, y7, y8, y9, y10, y11, y12])
      ⟨⟨LamX.ExtN.refl _, hT0⟩, none, none, none, none, none, none, none, none, none, none, none, none, rfl⟩ ?_ (fun _ H' _ => q H')
    rintro i σ H0 hi ⟨o0, y1, y2, y3, y4, y5, y6, y7, y8, y9, y10, y11, y12, rfl⟩
    refine ⟨_, rfl, _, rfl, a, ns, _, rfl, o0.sqL hS, by omega, fun H1 st s1 n1 hs1 => ?_⟩
    refine ⟨3, rfl, by decide, by decide, ?_⟩
    refine for_range (lo := 0) (n := 3) (fun j σ H' => Gw TS st H1 H' ∧ ∃ y3 y4 y5 y6 y7 y8 y9 y10 y11 y12, σ = [some (.ref a), some (.int (0 + (i : Int))), some (.ref st), y3, y4, y5, y6, y7, y8, y9, y10, y11, y12])
      ⟨Gw.refl, _, _, _, _, _, _, _, _, _, _, rfl⟩ ?_ (fun σ H' z => by
        obtain ⟨g, z3, z4, z5, z6, z7, z8, z9, z10, z11, z12, rfl⟩ := z
        exact ⟨g.go o0 s1 n1, _, _, _, _, _, _, _, _, _, _, _, _, rfl⟩)
    rintro j σ H2 hj ⟨g2, z3, z4, z5, z6, z7, z8, z9, z10, z11, z12, rfl⟩
    have hs2 := g2.2.1 hs1
    refine ⟨_, rfl, st, 3, rfl, hs2, by decide, by decide, fun r3 H3 a3 b3 g3 => ⟨_, _, rfl, rfl, ?_⟩⟩
    have hs3 := g3.2.1 hs2
    refine ⟨_, rfl, _, rfl, st, 1 + r3, 3, true, rfl, hs3, by omega, by omega, by decide, by decide, fun v1 ls1 x1 w1 ms1 H4 g4 h1 vL1 vw1 n1' _ _ en1 => ?_⟩
    have hs4 := g4.2.1 hs3
    refine ⟨_, rfl, _, rfl, st, 1 + r3, 3, false, rfl, hs4, by omega, by omega, by decide, by decide, fun v2 ls2 x2 w2 ms2 H5 g5 h2 vL2 vw2 n2' _ _ _ => ⟨(by show 2 ≤ sizeLine; decide), fun pt npt => ?_⟩⟩
    have hs5 := g5.2.1 hs4
    have s6 := same_upd (o := .tup [v1, v2]) npt
    have e6 : (upd H5 pt (.tup [v1, v2])) pt = some (.tup [v1, v2]) := upd_same
    generalize upd H5 pt (.tup [v1, v2]) = H6 at s6 e6 ⊢
    have g26 := ((g3.trans g4).trans g5).trans (gx_same (st := st) s6)
    have hs6 := g26.2.1 hs2
    have h1' := (h1.keep (g5.tk hs4)).keep (Same.tk s6)
    have h2' := h2.keep (Same.tk s6)
    refine ⟨pt, _, rfl, .inl (.inl e6), rfl, _, _, rfl, _, _, rfl, rfl, ?_⟩
    refine ⟨fun σ' H' => Gx st H6 H' ∧ ∃ u lsA xA yA msA, σ' = [some (.ref a), some (.int (0 + (i : Int))), some (.ref st), some (.int (0 + (j : Int))), some (.int (1 + r3)), some u, some v2, z7, z8, z9, z10, z11, z12] ∧ ShAt K H' u lsA xA yA msA ∧ VLays lsA ∧ VWin xA yA msA ∧ (lsA.length : Int) = 1 + r3 ∧ ∀ l ∈ lsA, l.2 = none, ?_, ?_⟩
    · refine ⟨_, rfl, st, 4, rfl, hs6, by decide, by decide, fun r7 H7 a7 b7 g7 => ⟨rfl, _, rfl, ite2 (fun _ => ?_) (fun _ => ?_)⟩⟩
      · refine ⟨Nat.zero_le _, fun pa na => ⟨(by show 2 ≤ sizeLine; decide), fun pb nb => ⟨(by show 1 ≤ sizeLine; decide), fun pc nc => ?_⟩⟩⟩
        have sa := same_upd (o := .tup []) na
        have sb := same_upd (o := .tup [.ref pa, .non]) nb
        have sc := same_upd (o := .tup [.ref pb]) nc
        have ea := (sb.trans sc) _ _ (upd_same (H := H7) (a := pa) (o := .tup []))
        have eb := sc _ _ (upd_same (H := upd H7 pa (.tup [])) (a := pb) (o := .tup [.ref pa, .non]))
        have ecc : (upd (upd (upd H7 pa (.tup [])) pb (.tup [.ref pa, .non])) pc (.tup [.ref pb])) pc = some (.tup [.ref pb]) := upd_same
        generalize upd (upd (upd H7 pa (.tup [])) pb (.tup [.ref pa, .non])) pc (.tup [.ref pb]) = H8 at sc ea eb ecc ⊢
        have sabc := sa.trans (sb.trans sc)
        refine ⟨_, rfl, pc, 1 + r3, [.ref pb], rfl, rfl, .inl (.inl ecc), (by simp), (by show 1 ≤ 1000; decide), by omega, by omega, fun H9 pd' s9 h9 => ?_⟩
        have hly : LyAt K H9 (.ref pb) ([], none) := ⟨pb, _, rfl, Same.sqT s9 (.inl (.inl eb)), pa, [], rfl, Same.sqT s9 (.inl (.inl ea)), .nil⟩
        have hls : LaysAt K H9 (.ref pd') (List.replicate (1 + r3).toNat ([], none)) := ⟨pd', _, rfl, h9, paired_rep hly _⟩
        refine ⟨Nat.zero_le _, fun pe ne => ⟨(by show 3 ≤ sizeLine; decide), fun pf nf => ⟨(by show 2 ≤ sizeLine; decide), fun pn nn => ?_⟩⟩⟩
        have se := same_upd (o := .tup []) ne
        have sf := same_upd (o := .tup [.int 1, .int 2, .ref pe]) nf
        have sn := same_upd (o := .tup [.ref pd', .ref pf]) nn
        have ee := (sf.trans sn) _ _ (upd_same (H := H9) (a := pe) (o := .tup []))
        have ef := sn _ _ (upd_same (H := upd H9 pe (.tup [])) (a := pf) (o := .tup [.int 1, .int 2, .ref pe]))
        have sefn := se.trans (sf.trans sn)
        refine ⟨g7.trans (gx_same (sabc.trans (s9.trans sefn))), .ref pn, List.replicate (1 + r3).toNat ([], none), 1, 2, [], rfl, ⟨pn, _, _, rfl, .inl (.inl upd_same), hls.keep (Same.tk sefn), ⟨pf, _, rfl, .inl (.inl ef), pe, [], rfl, .inl (.inl ee), .nil⟩⟩, ⟨?_, ?_, fun l hl => ?_⟩, ⟨⟨by omega, by omega⟩, ⟨by omega, by omega⟩, Nat.zero_le _, fun m hm => by simp at hm⟩, ?_, fun l hl => ?_⟩
        · rw [List.length_replicate]
          omega
        · rw [List.length_replicate]
          omega
        · rw [(List.mem_replicate.mp hl).2]
          exact ⟨⟨Nat.zero_le _, fun r hr => by simp at hr⟩, fun i e => (nomatch e)⟩
        · rw [List.length_replicate]
          omega
        · rw [(List.mem_replicate.mp hl).2]
      · exact ⟨g7, v1, ls1, x1, w1, ms1, rfl, h1'.keep (g7.tk hs6), vL1, vw1, n1', en1 rfl⟩
    rintro σ H7 ⟨g7, u, lsA, xA, yA, msA, rfl, hA, vLA, vwA, nA, enA⟩
    have hs7 := g7.2.1 hs6
    have h2A := h2'.keep (g7.tk hs6)
    have gA := g2.trans (g26.trans g7).l
    have hsA := gA.2.1 hs1
    have hTA := gA.2.2 (o0.t.ext s1)
    clear h1 h2 h1' h2' g3 g4 g5 s6 e6 g26 g7
    have elA : lsA.length = ls2.length := by omega
    refine ⟨hTA, fun Hd ed td => ?_⟩
    have gd := gw_ext (st := st) ed td
    have kd := gd.tk (K := K) hsA
    have hAd := hA.keep kd
    have h2d := h2A.keep kd
    refine ⟨_, rfl, _, rfl, u, v2, lsA, ls2, xA, yA, x2, w2, msA, ms2, rfl, hAd, vLA, vwA, h2d, vL2, vw2, fun o He io se => ?_⟩
    have bn := bo_no elA enA io
    cases o with
    | un => exact absurd rfl bn.1
    | en => exact absurd rfl bn.2
    | mn n =>
      intro d nd ed'
      refine ⟨14, by decide, rfl, fun dd e => ⟨_, by cases e; exact ed'⟩, fun z => absurd z (by decide), fun _ => ⟨d, _, _, _, rfl, ed', rfl, rfl, fun Hf p q' sf npd eq ep => ?_⟩, fun z => absurd z (by decide)⟩
      have gf := gA.trans (gd.trans (gw_same (TS := TS) (se.trans sf)))
      have hP : SqT K Hf p [.str "many", .ref q'] := .inl (.inl ep)
      refine ⟨_, rfl, p, _, 0, _, rfl, rfl, hP, rfl, rfl, _, rfl, ite2 (fun e => ?_) (fun _ => ?_)⟩
      · exact absurd e (by decide)
      · refine ⟨_, rfl, p, _, 0, _, rfl, rfl, hP, rfl, rfl, _, rfl, ite2 (fun e => ?_) (fun _ => ?_)⟩
        · exact absurd e (by decide)
        · exact ⟨gf, _, _, _, _, _, _, _, _, _, _, rfl⟩
    | ok bl ms =>
      intro v hv
      refine ⟨(by show 2 ≤ sizeLine; decide), fun p np => ?_⟩
      have sp' := same_upd (o := .tup [.str "told", v]) np
      have ep : (upd He p (.tup [.str "told", v])) p = some (.tup [.str "told", v]) := upd_same
      generalize upd He p (.tup [.str "told", v]) = Hf at sp' ep ⊢
      have hP : SqT K Hf p [.str "told", v] := .inl (.inl ep)
      have sF := se.trans sp'
      have hvF := hv.keep (Same.tk sp')
      have hAF := hAd.keep (Same.tk sF)
      have h2F := h2d.keep (Same.tk sF)
      obtain ⟨L, hL, vLB, vwB, hpic⟩ := bo_ok vLA vwA vL2 vw2 io
      obtain ⟨L0, L1, _, _⟩ := shLen_bd vLA vwA hL
      have gF := gA.trans (gd.trans (gw_same (TS := TS) sF))
      have hsF := gF.2.1 hs1
      clear hAd h2d hv hA h2A
      refine ⟨_, rfl, p, _, 0, _, rfl, rfl, hP, rfl, rfl, _, rfl, ite2 (fun _ => ?_) (fun e => absurd (decide_eq_true rfl) e)⟩
      refine ⟨_, rfl, p, _, 1, _, rfl, rfl, hP, rfl, _, rfl, u, lsA, xA, yA, msA, rfl, hAF, vLA, vwA, fun H8 r s8 hr8 => ⟨_, _, rfl, ?_⟩⟩
      have er := hr8.uniq hL
      subst er
      refine ⟨_, rfl, v, bl, xA, yA, ms, rfl, hvF.keep (Same.tk s8), vLB, vwB, fun H9 s9 => ⟨true, true, rfl, rfl, _, rfl, ite2 (fun e => absurd e (by decide)) (fun _ => ?_)⟩⟩
      have s89 := s8.trans s9
      have hs9 := (gx_same (st := st) s89).2.1 hsF
      refine ⟨_, rfl, _, rfl, st, 300, rfl, hs9, by decide, by decide, fun r10 H10 a10 b10 g10 => ⟨_, _, rfl, rfl, ?_⟩⟩
      have hs10 := g10.2.1 hs9
      -- the moments
      obtain ⟨lo', hlo0, hlo1, elo⟩ : ∃ m : Int, 0 ≤ m ∧ m ≤ 192 ∧ (if L - 4 > 0 then L - 4 else (0 : Int)) = m := by
        refine ⟨_, ?_, ?_, rfl⟩ <;> split <;> omega
      refine ⟨_, rfl, _, _, rfl, rfl, _, _, rfl, _, rfl, _, _, rfl, rfl, lo', L + 5, ?_, rfl, RgOk.of_le hlo0 (by omega) (by omega) (by omega), fun p11 np11 => ?_⟩
      · rw [← elo]
      obtain ⟨s11, e11⟩ := new_at (.lst (rgV lo' (L + 5))) np11
      have np11' := sx_ne hs10 np11
      generalize upd H10 p11 (.lst (rgV lo' (L + 5))) = H11 at s11 e11 ⊢
      have hs11 := (gx_same (st := st) s11).2.1 hs10
      refine ⟨_, rfl, _, rfl, _, rfl, _, _, rfl, rfl, st, L + 1, rfl, hs11, by omega, by omega, fun r12 H12 a12 b12 g12 => ⟨(by show 3 ≤ sizeLine; decide), fun p13 np13 => ?_⟩⟩
      have hs12 := g12.2.1 hs11
      obtain ⟨s13, e13⟩ := new_at (.lst [.int 0, .int (L + r10), .int r12]) np13
      generalize upd H12 p13 (.lst [.int 0, .int (L + r10), .int r12]) = H13 at s13 e13 ⊢
      have lrg : (rgV lo' (L + 5)).length ≤ 300 := by rw [rgV_length]; omega
      refine ⟨p11, p13, _, _, rfl, rfl, s13 _ _ (g12.1 _ _ np11' lst_tbl e11), e13, Nat.le_of_lt (small1000 (by show (rgV lo' (L + 5)).length + 3 ≤ 1000; omega)), fun pm npm => ?_⟩
      obtain ⟨s14, e14⟩ := new_at (.lst (rgV lo' (L + 5) ++ [.int 0, .int (L + r10), .int r12])) npm
      generalize upd H13 pm (.lst (rgV lo' (L + 5) ++ [.int 0, .int (L + r10), .int r12])) = H14 at s14 e14 ⊢
      have gM : Gx st Hf H14 := (((gx_same (st := st) s89).trans g10).trans ((gx_same (st := st) s11).trans g12)).trans (gx_same (st := st) (s13.trans s14))
      have kM : TKeep K Hf H14 := gM.tk hsF
      have hvM := hvF.keep kM
      have hAM := hAF.keep kM
      have h2M := h2F.keep kM
      have hall : ∀ z ∈ rgV lo' (L + 5) ++ [.int 0, .int (L + r10), .int r12], ∃ t : Int, z = .int t ∧ 0 ≤ t ∧ t ≤ 1000 := by
        intro z hz
        rcases List.mem_append.mp hz with z1 | z1
        · obtain ⟨t, rfl, t0, t1⟩ := rgV_mem z1
          exact ⟨t, rfl, by omega, by omega⟩
        · simp only [List.mem_cons, List.not_mem_nil, or_false] at z1
          rcases z1 with rfl | rfl | rfl
          · exact ⟨0, rfl, by decide, by decide⟩
          · exact ⟨_, rfl, by omega, by omega⟩
          · exact ⟨_, rfl, by omega, by omega⟩
      clear hvF hAF h2F s13 e13 e11 s11 g12 g10 s89 s8 s9
      refine ⟨pm, rfl, ⟨_, .inl (.inl e14)⟩, for_list (K := K) (a := pm) (xs := rgV lo' (L + 5) ++ [.int 0, .int (L + r10), .int r12]) (fun l σ H' => Same H14 H' ∧ ∃ y11 y12, σ = [some (.ref a), some (.int (0 + (i : Int))), some (.ref st), some (.int (0 + (j : Int))), some (.int (1 + r3)), some u, some v2, some (.ref p), some v, some (.int L), some (.int (L + r10)), y11, y12])
        ⟨Same.refl _, _, _, rfl⟩ (fun l σ H' _ z => .inl (.inl (z.1 _ _ e14))) ?_ ?_⟩
      · rintro l x σ Hg hx ⟨sg, y11, y12, rfl⟩
        obtain ⟨t, rfl, t0, t1⟩ := hall x (List.mem_of_getElem? hx)
        refine ⟨fun σ' H' => Same Hg H' ∧ ∃ dv, σ' = [some (.ref a), some (.int (0 + (i : Int))), some (.ref st), some (.int (0 + (j : Int))), some (.int (1 + r3)), some u, some v2, some (.ref p), some v, some (.int L), some (.int (L + r10)), some (.int t), some dv] ∧ PicAt K H' dv (pic bl xA yA ms t), ?_, ?_⟩
        · refine ⟨_, rfl, _, rfl, t, L, rfl, rfl, _, rfl, ite2 (fun c => ?_) (fun c => ?_)⟩
          · have c1 : t < L := of_decide_eq_true c
            refine ⟨_, rfl, _, rfl, u, lsA, xA, yA, msA, t, rfl, hAM.keep (Same.tk sg), vLA, vwA, t0, fun Hh dv sh hd => ⟨sh, dv, rfl, ?_⟩⟩
            rw [hpic t t0, if_pos c1]
            exact hd
          · have c1 : ¬ t < L := fun z => c (decide_eq_true z)
            refine ⟨_, rfl, _, rfl, _, rfl, t, L, rfl, rfl, v2, ls2, x2, w2, ms2, t - L, rfl, h2M.keep (Same.tk sg), vL2, vw2, by omega, fun Hh dv sh hd => ⟨sh, dv, rfl, ?_⟩⟩
            rw [hpic t t0, if_neg c1]
            exact hd
        rintro σ Hh ⟨sh, dv, rfl, hd⟩
        have sgh := sg.trans sh
        refine ⟨_, rfl, _, rfl, v, bl, xA, yA, ms, t, rfl, hvM.keep (Same.tk sgh), vLB, vwB, t0, fun Hi dv2 si hd2 => ⟨_, rfl, ne_eqd hd2.dp (hd.keep (Same.tk si)).dp ⟨_, sd_pic _, by decide⟩ ⟨_, rfl, iteF ?_⟩⟩⟩
        refine ⟨_, rfl, _, rfl, v, bl, xA, yA, ms, t, rfl, hvM.keep (Same.tk (sgh.trans si)), vLB, vwB, t0, by omega, fun Hj dv3 sj hd3 => ⟨_, rfl, ne_eqd hd3.dp (hd.keep (Same.tk (si.trans sj))).dp ⟨_, sd_pic _, by decide⟩ ⟨_, rfl, iteF ?_⟩⟩⟩
        exact ⟨(sgh.trans si).trans sj, _, _, rfl⟩
      · rintro σ Hg ⟨sg, y11, y12, rfl⟩
        exact ⟨gF.trans (gM.l.trans (gw_same sg)), _, _, _, _, _, _, _, _, _, _, rfl⟩
end

theorem all_mk {l : PySem.W.OpenLaw} {w : World} {K : PySem.W.Frag} {h : Heap} {mg : Str → Option Value} {fa : Addr} {q : Program} (X : K.In h) (G : h.Ns mainGlobals mg) (hfa : mg "law" = some (.ref fa)) (TQ : TabsIn q K h)
    {f0 f1 f2 f3 f4 f5 f6 f7 f8 f9 f10 f11 f12 f13 f14 f15 f16 f17 f18 f19 f20 f21 f22 f23 f24 f25 f26 f27 f28 f29 f30 f31 f32 f33 f34 f35 f36 f37 f38 f39 f40 f41 f42 f43 f44 f45 f46 f47 f48 f49 f50 f51 f52 C0 C1 C2 C3 C4 C5 C6 C7 C8 C9 C10 C11 C12 C13 C14 C15 LE cc52 PP52 : Addr} {od0 an0 od1 an1 od2 an2 od3 an3 od4 an4 od5 an5 od6 an6 od7 an7 od8 an8 od9 an9 od10 an10 od11 an11 od12 an12 od13 an13 od14 an14 od15 an15 od16 an16 od17 an17 od18 an18 od19 an19 od20 an20 od21 an21 od22 an22 od23 an23 od24 an24 od25 an25 od26 an26 od27 an27 od28 an28 od29 an29 od30 an30 od31 an31 od32 an32 od33 an33 od34 an34 od35 an35 od36 an36 od37 an37 od38 an38 od39 an39 od40 an40 od41 an41 od42 an42 od43 an43 od44 an44 od45 an45 od46 an46 od47 an47 od48 an48 od49 an49 od50 an50 od51 an51 od52 an52 dc_52 : Option Addr} {sl0 sl1 sl2 sl3 sl4 sl5 sl6 sl7 sl8 sl9 sl10 sl11 sl12 sl13 sl14 sl15 sl16 sl17 sl18 sl19 sl20 sl21 sl22 sl23 sl24 sl25 sl26 sl27 sl28 sl29 sl30 sl31 sl32 sl33 sl34 sl35 sl36 sl37 sl38 sl39 sl40 sl41 sl42 sl43 sl44 sl45 sl46 sl47 sl48 sl49 sl50 sl51 sl52 slc52 : Array (Option Value)} {oc0 kV0 dc0 pm0 ct0 cd0 oc1 kV1 dc1 pm1 ct1 cd1 oc2 kV2 dc2 pm2 ct2 cd2 oc3 kV3 dc3 pm3 ct3 cd3 oc4 kV4 dc4 pm4 ct4 cd4 oc5 kV5 dc5 pm5 ct5 cd5 oc6 kV6 dc6 pm6 ct6 cd6 oc7 kV7 dc7 pm7 ct7 cd7 oc8 kV8 dc8 pm8 ct8 cd8 oc9 kV9 dc9 pm9 ct9 cd9 oc10 kV10 dc10 pm10 ct10 cd10 oc11 kV11 dc11 pm11 ct11 cd11 oc12 kV12 dc12 pm12 ct12 cd12 oc13 kV13 dc13 pm13 ct13 cd13 oc14 kV14 dc14 pm14 ct14 cd14 oc15 kV15 dc15 pm15 ct15 cd15 oc16 kV16 dc16 pm16 ct16 cd16 oc17 kV17 dc17 pm17 ct17 cd17 oc18 kV18 dc18 pm18 ct18 cd18 oc19 kV19 dc19 pm19 ct19 cd19 oc20 kV20 dc20 pm20 ct20 cd20 oc21 kV21 dc21 pm21 ct21 cd21 oc22 kV22 dc22 pm22 ct22 cd22 oc23 kV23 dc23 pm23 ct23 cd23 oc24 kV24 dc24 pm24 ct24 cd24 oc25 kV25 dc25 pm25 ct25 cd25 oc26 kV26 dc26 pm26 ct26 cd26 oc27 kV27 dc27 pm27 ct27 cd27 oc28 kV28 dc28 pm28 ct28 cd28 oc29 kV29 dc29 pm29 ct29 cd29 oc30 kV30 dc30 pm30 ct30 cd30 oc31 kV31 dc31 pm31 ct31 cd31 oc32 kV32 dc32 pm32 ct32 cd32 oc33 kV33 dc33 pm33 ct33 cd33 oc34 kV34 dc34 pm34 ct34 cd34 oc35 kV35 dc35 pm35 ct35 cd35 oc36 kV36 dc36 pm36 ct36 cd36 oc37 kV37 dc37 pm37 ct37 cd37 oc38 kV38 dc38 pm38 ct38 cd38 oc39 kV39 dc39 pm39 ct39 cd39 oc40 kV40 dc40 pm40 ct40 cd40 oc41 kV41 dc41 pm41 ct41 cd41 oc42 kV42 dc42 pm42 ct42 cd42 oc43 kV43 dc43 pm43 ct43 cd43 oc44 kV44 dc44 pm44 ct44 cd44 oc45 kV45 dc45 pm45 ct45 cd45 oc46 kV46 dc46 pm46 ct46 cd46 oc47 kV47 dc47 pm47 ct47 cd47 oc48 kV48 dc48 pm48 ct48 cd48 oc49 kV49 dc49 pm49 ct49 cd49 oc50 kV50 dc50 pm50 ct50 cd50 oc51 kV51 dc51 pm51 ct51 cd51 oc52 kV52 dc52 pm52 ct52 ec52 : Value} {vc52 : Array Value} {t0 t1 t2 t3 t4 t5 t6 t7 : Tok}
    (a0 : PySem.W.nsIn K mainGlobals "is_whole_from" = some (some (.ref f0))) (l0 : K.lookup f0 = some ⟨oc0, od0, .func (PySem.W.fnOf "is_whole_from" "is_whole_from" (defArgs s_is_whole_from) (defBody s_is_whole_from) (defScope s_is_whole_from) .none kV0 dc0 pm0 an0 cd0 ct0), sl0⟩) (c0 : PySem.W.codeIn K cd0 "is_whole_from" = true) (k0 : PySem.W.keepIn K (.ref f0) = true)
    (a1 : PySem.W.nsIn K mainGlobals "is_whole" = some (some (.ref f1))) (l1 : K.lookup f1 = some ⟨oc1, od1, .func (PySem.W.fnOf "is_whole" "is_whole" (defArgs s_is_whole) (defBody s_is_whole) (defScope s_is_whole) .none kV1 dc1 pm1 an1 cd1 ct1), sl1⟩) (c1 : PySem.W.codeIn K cd1 "is_whole" = true) (k1 : PySem.W.keepIn K (.ref f1) = true)
    (a2 : PySem.W.nsIn K mainGlobals "need_moment" = some (some (.ref f2))) (l2 : K.lookup f2 = some ⟨oc2, od2, .func (PySem.W.fnOf "need_moment" "need_moment" (defArgs s_need_moment) (defBody s_need_moment) (defScope s_need_moment) .none kV2 dc2 pm2 an2 cd2 ct2), sl2⟩) (c2 : PySem.W.codeIn K cd2 "need_moment" = true) (k2 : PySem.W.keepIn K (.ref f2) = true)
    (a3 : PySem.W.nsIn K mainGlobals "need_at_most" = some (some (.ref f3))) (l3 : K.lookup f3 = some ⟨oc3, od3, .func (PySem.W.fnOf "need_at_most" "need_at_most" (defArgs s_need_at_most) (defBody s_need_at_most) (defScope s_need_at_most) .none kV3 dc3 pm3 an3 cd3 ct3), sl3⟩) (c3 : PySem.W.codeIn K cd3 "need_at_most" = true) (k3 : PySem.W.keepIn K (.ref f3) = true)
    (a4 : PySem.W.nsIn K mainGlobals "is_tuple" = some (some (.ref f4))) (l4 : K.lookup f4 = some ⟨oc4, od4, .func (PySem.W.fnOf "is_tuple" "is_tuple" (defArgs s_is_tuple) (defBody s_is_tuple) (defScope s_is_tuple) .none kV4 dc4 pm4 an4 cd4 ct4), sl4⟩) (c4 : PySem.W.codeIn K cd4 "is_tuple" = true) (k4 : PySem.W.keepIn K (.ref f4) = true)
    (a5 : PySem.W.nsIn K mainGlobals "is_drawing" = some (some (.ref f5))) (l5 : K.lookup f5 = some ⟨oc5, od5, .func (PySem.W.fnOf "is_drawing" "is_drawing" (defArgs s_is_drawing) (defBody s_is_drawing) (defScope s_is_drawing) .none kV5 dc5 pm5 an5 cd5 ct5), sl5⟩) (c5 : PySem.W.codeIn K cd5 "is_drawing" = true) (k5 : PySem.W.keepIn K (.ref f5) = true)
    (a6 : PySem.W.nsIn K mainGlobals "is_hold" = some (some (.ref f6))) (l6 : K.lookup f6 = some ⟨oc6, od6, .func (PySem.W.fnOf "is_hold" "is_hold" (defArgs s_is_hold) (defBody s_is_hold) (defScope s_is_hold) .none kV6 dc6 pm6 an6 cd6 ct6), sl6⟩) (c6 : PySem.W.codeIn K cd6 "is_hold" = true) (k6 : PySem.W.keepIn K (.ref f6) = true)
    (a7 : PySem.W.nsIn K mainGlobals "is_row" = some (some (.ref f7))) (l7 : K.lookup f7 = some ⟨oc7, od7, .func (PySem.W.fnOf "is_row" "is_row" (defArgs s_is_row) (defBody s_is_row) (defScope s_is_row) .none kV7 dc7 pm7 an7 cd7 ct7), sl7⟩) (c7 : PySem.W.codeIn K cd7 "is_row" = true) (k7 : PySem.W.keepIn K (.ref f7) = true)
    (a8 : PySem.W.nsIn K mainGlobals "is_layer" = some (some (.ref f8))) (l8 : K.lookup f8 = some ⟨oc8, od8, .func (PySem.W.fnOf "is_layer" "is_layer" (defArgs s_is_layer) (defBody s_is_layer) (defScope s_is_layer) .none kV8 dc8 pm8 an8 cd8 ct8), sl8⟩) (c8 : PySem.W.codeIn K cd8 "is_layer" = true) (k8 : PySem.W.keepIn K (.ref f8) = true)
    (a9 : PySem.W.nsIn K mainGlobals "is_way" = some (some (.ref f9))) (l9 : K.lookup f9 = some ⟨oc9, od9, .func (PySem.W.fnOf "is_way" "is_way" (defArgs s_is_way) (defBody s_is_way) (defScope s_is_way) .none kV9 dc9 pm9 an9 cd9 ct9), sl9⟩) (c9 : PySem.W.codeIn K cd9 "is_way" = true) (k9 : PySem.W.keepIn K (.ref f9) = true)
    (a10 : PySem.W.nsIn K mainGlobals "is_many" = some (some (.ref f10))) (l10 : K.lookup f10 = some ⟨oc10, od10, .func (PySem.W.fnOf "is_many" "is_many" (defArgs s_is_many) (defBody s_is_many) (defScope s_is_many) .none kV10 dc10 pm10 an10 cd10 ct10), sl10⟩) (c10 : PySem.W.codeIn K cd10 "is_many" = true) (k10 : PySem.W.keepIn K (.ref f10) = true)
    (a11 : PySem.W.nsIn K mainGlobals "is_move" = some (some (.ref f11))) (l11 : K.lookup f11 = some ⟨oc11, od11, .func (PySem.W.fnOf "is_move" "is_move" (defArgs s_is_move) (defBody s_is_move) (defScope s_is_move) .none kV11 dc11 pm11 an11 cd11 ct11), sl11⟩) (c11 : PySem.W.codeIn K cd11 "is_move" = true) (k11 : PySem.W.keepIn K (.ref f11) = true)
    (a12 : PySem.W.nsIn K mainGlobals "is_window" = some (some (.ref f12))) (l12 : K.lookup f12 = some ⟨oc12, od12, .func (PySem.W.fnOf "is_window" "is_window" (defArgs s_is_window) (defBody s_is_window) (defScope s_is_window) .none kV12 dc12 pm12 an12 cd12 ct12), sl12⟩) (c12 : PySem.W.codeIn K cd12 "is_window" = true) (k12 : PySem.W.keepIn K (.ref f12) = true)
    (a13 : PySem.W.nsIn K mainGlobals "is_sheet" = some (some (.ref f13))) (l13 : K.lookup f13 = some ⟨oc13, od13, .func (PySem.W.fnOf "is_sheet" "is_sheet" (defArgs s_is_sheet) (defBody s_is_sheet) (defScope s_is_sheet) .none kV13 dc13 pm13 an13 cd13 ct13), sl13⟩) (c13 : PySem.W.codeIn K cd13 "is_sheet" = true) (k13 : PySem.W.keepIn K (.ref f13) = true)
    (a14 : PySem.W.nsIn K mainGlobals "need_sheet" = some (some (.ref f14))) (l14 : K.lookup f14 = some ⟨oc14, od14, .func (PySem.W.fnOf "need_sheet" "need_sheet" (defArgs s_need_sheet) (defBody s_need_sheet) (defScope s_need_sheet) .none kV14 dc14 pm14 an14 cd14 ct14), sl14⟩) (c14 : PySem.W.codeIn K cd14 "need_sheet" = true) (k14 : PySem.W.keepIn K (.ref f14) = true)
    (a15 : PySem.W.nsIn K mainGlobals "need_as_many_layers" = some (some (.ref f15))) (l15 : K.lookup f15 = some ⟨oc15, od15, .func (PySem.W.fnOf "need_as_many_layers" "need_as_many_layers" (defArgs s_need_as_many_layers) (defBody s_need_as_many_layers) (defScope s_need_as_many_layers) .none kV15 dc15 pm15 an15 cd15 ct15), sl15⟩) (c15 : PySem.W.codeIn K cd15 "need_as_many_layers" = true) (k15 : PySem.W.keepIn K (.ref f15) = true)
    (a16 : PySem.W.nsIn K mainGlobals "need_length" = some (some (.ref f16))) (l16 : K.lookup f16 = some ⟨oc16, od16, .func (PySem.W.fnOf "need_length" "need_length" (defArgs s_need_length) (defBody s_need_length) (defScope s_need_length) .none kV16 dc16 pm16 an16 cd16 ct16), sl16⟩) (c16 : PySem.W.codeIn K cd16 "need_length" = true) (k16 : PySem.W.keepIn K (.ref f16) = true)
    (a17 : PySem.W.nsIn K mainGlobals "held" = some (some (.ref f17))) (l17 : K.lookup f17 = some ⟨oc17, od17, .func (PySem.W.fnOf "held" "held" (defArgs s_held) (defBody s_held) (defScope s_held) .none kV17 dc17 pm17 an17 cd17 ct17), sl17⟩) (c17 : PySem.W.codeIn K cd17 "held" = true) (k17 : PySem.W.keepIn K (.ref f17) = true)
    (a18 : PySem.W.nsIn K mainGlobals "length_of" = some (some (.ref f18))) (l18 : K.lookup f18 = some ⟨oc18, od18, .func (PySem.W.fnOf "length_of" "length_of" (defArgs s_length_of) (defBody s_length_of) (defScope s_length_of) .none kV18 dc18 pm18 an18 cd18 ct18), sl18⟩) (c18 : PySem.W.codeIn K cd18 "length_of" = true) (k18 : PySem.W.keepIn K (.ref f18) = true)
    (a19 : PySem.W.nsIn K mainGlobals "moved" = some (some (.ref f19))) (l19 : K.lookup f19 = some ⟨oc19, od19, .func (PySem.W.fnOf "moved" "moved" (defArgs s_moved) (defBody s_moved) (defScope s_moved) .none kV19 dc19 pm19 an19 cd19 ct19), sl19⟩) (c19 : PySem.W.codeIn K cd19 "moved" = true) (k19 : PySem.W.keepIn K (.ref f19) = true)
    (a20 : PySem.W.nsIn K mainGlobals "full_length" = some (some (.ref f20))) (l20 : K.lookup f20 = some ⟨oc20, od20, .func (PySem.W.fnOf "full_length" "full_length" (defArgs s_full_length) (defBody s_full_length) (defScope s_full_length) .none kV20 dc20 pm20 an20 cd20 ct20), sl20⟩) (c20 : PySem.W.codeIn K cd20 "full_length" = true) (k20 : PySem.W.keepIn K (.ref f20) = true)
    (a21 : PySem.W.nsIn K mainGlobals "filling" = some (some (.ref f21))) (l21 : K.lookup f21 = some ⟨oc21, od21, .func (PySem.W.fnOf "filling" "filling" (defArgs s_filling) (defBody s_filling) (defScope s_filling) .none kV21 dc21 pm21 an21 cd21 ct21), sl21⟩) (c21 : PySem.W.codeIn K cd21 "filling" = true) (k21 : PySem.W.keepIn K (.ref f21) = true)
    (a22 : PySem.W.nsIn K mainGlobals "rows_for" = some (some (.ref f22))) (l22 : K.lookup f22 = some ⟨oc22, od22, .func (PySem.W.fnOf "rows_for" "rows_for" (defArgs s_rows_for) (defBody s_rows_for) (defScope s_rows_for) .none kV22 dc22 pm22 an22 cd22 ct22), sl22⟩) (c22 : PySem.W.codeIn K cd22 "rows_for" = true) (k22 : PySem.W.keepIn K (.ref f22) = true)
    (a23 : PySem.W.nsIn K mainGlobals "layer_behind" = some (some (.ref f23))) (l23 : K.lookup f23 = some ⟨oc23, od23, .func (PySem.W.fnOf "layer_behind" "layer_behind" (defArgs s_layer_behind) (defBody s_layer_behind) (defScope s_layer_behind) .none kV23 dc23 pm23 an23 cd23 ct23), sl23⟩) (c23 : PySem.W.codeIn K cd23 "layer_behind" = true) (k23 : PySem.W.keepIn K (.ref f23) = true)
    (a24 : PySem.W.nsIn K mainGlobals "moves_for" = some (some (.ref f24))) (l24 : K.lookup f24 = some ⟨oc24, od24, .func (PySem.W.fnOf "moves_for" "moves_for" (defArgs s_moves_for) (defBody s_moves_for) (defScope s_moves_for) .none kV24 dc24 pm24 an24 cd24 ct24), sl24⟩) (c24 : PySem.W.codeIn K cd24 "moves_for" = true) (k24 : PySem.W.keepIn K (.ref f24) = true)
    (a25 : PySem.W.nsIn K mainGlobals "window_behind" = some (some (.ref f25))) (l25 : K.lookup f25 = some ⟨oc25, od25, .func (PySem.W.fnOf "window_behind" "window_behind" (defArgs s_window_behind) (defBody s_window_behind) (defScope s_window_behind) .none kV25 dc25 pm25 an25 cd25 ct25), sl25⟩) (c25 : PySem.W.codeIn K cd25 "window_behind" = true) (k25 : PySem.W.keepIn K (.ref f25) = true)
    (a26 : PySem.W.nsIn K mainGlobals "behind" = some (some (.ref f26))) (l26 : K.lookup f26 = some ⟨oc26, od26, .func (PySem.W.fnOf "behind" "behind" (defArgs s_behind) (defBody s_behind) (defScope s_behind) .none kV26 dc26 pm26 an26 cd26 ct26), sl26⟩) (c26 : PySem.W.codeIn K cd26 "behind" = true) (k26 : PySem.W.keepIn K (.ref f26) = true)
    (a27 : PySem.W.nsIn K mainGlobals "first_time" = some (some (.ref f27))) (l27 : K.lookup f27 = some ⟨oc27, od27, .func (PySem.W.fnOf "first_time" "first_time" (defArgs s_first_time) (defBody s_first_time) (defScope s_first_time) .none kV27 dc27 pm27 an27 cd27 ct27), sl27⟩) (c27 : PySem.W.codeIn K cd27 "first_time" = true) (k27 : PySem.W.keepIn K (.ref f27) = true)
    (a28 : PySem.W.nsIn K mainGlobals "drawing_of" = some (some (.ref f28))) (l28 : K.lookup f28 = some ⟨oc28, od28, .func (PySem.W.fnOf "drawing_of" "drawing_of" (defArgs s_drawing_of) (defBody s_drawing_of) (defScope s_drawing_of) .none kV28 dc28 pm28 an28 cd28 ct28), sl28⟩) (c28 : PySem.W.codeIn K cd28 "drawing_of" = true) (k28 : PySem.W.keepIn K (.ref f28) = true)
    (a29 : PySem.W.nsIn K mainGlobals "common_divisor" = some (some (.ref f29))) (l29 : K.lookup f29 = some ⟨oc29, od29, .func (PySem.W.fnOf "common_divisor" "common_divisor" (defArgs s_common_divisor) (defBody s_common_divisor) (defScope s_common_divisor) .none kV29 dc29 pm29 an29 cd29 ct29), sl29⟩) (c29 : PySem.W.codeIn K cd29 "common_divisor" = true) (k29 : PySem.W.keepIn K (.ref f29) = true)
    (a30 : PySem.W.nsIn K mainGlobals "lowest" = some (some (.ref f30))) (l30 : K.lookup f30 = some ⟨oc30, od30, .func (PySem.W.fnOf "lowest" "lowest" (defArgs s_lowest) (defBody s_lowest) (defScope s_lowest) .none kV30 dc30 pm30 an30 cd30 ct30), sl30⟩) (c30 : PySem.W.codeIn K cd30 "lowest" = true) (k30 : PySem.W.keepIn K (.ref f30) = true)
    (a31 : PySem.W.nsIn K mainGlobals "on_the_way" = some (some (.ref f31))) (l31 : K.lookup f31 = some ⟨oc31, od31, .func (PySem.W.fnOf "on_the_way" "on_the_way" (defArgs s_on_the_way) (defBody s_on_the_way) (defScope s_on_the_way) .none kV31 dc31 pm31 an31 cd31 ct31), sl31⟩) (c31 : PySem.W.codeIn K cd31 "on_the_way" = true) (k31 : PySem.W.keepIn K (.ref f31) = true)
    (a32 : PySem.W.nsIn K mainGlobals "place_of" = some (some (.ref f32))) (l32 : K.lookup f32 = some ⟨oc32, od32, .func (PySem.W.fnOf "place_of" "place_of" (defArgs s_place_of) (defBody s_place_of) (defScope s_place_of) .none kV32 dc32 pm32 an32 cd32 ct32), sl32⟩) (c32 : PySem.W.codeIn K cd32 "place_of" = true) (k32 : PySem.W.keepIn K (.ref f32) = true)
    (a33 : PySem.W.nsIn K mainGlobals "picture_of" = some (some (.ref f33))) (l33 : K.lookup f33 = some ⟨oc33, od33, .func (PySem.W.fnOf "picture_of" "picture_of" (defArgs s_picture_of) (defBody s_picture_of) (defScope s_picture_of) .none kV33 dc33 pm33 an33 cd33 ct33), sl33⟩) (c33 : PySem.W.codeIn K cd33 "picture_of" = true) (k33 : PySem.W.keepIn K (.ref f33) = true)
    (a34 : PySem.W.nsIn K mainGlobals "picture_at" = some (some (.ref f34))) (l34 : K.lookup f34 = some ⟨oc34, od34, .func (PySem.W.fnOf "picture_at" "picture_at" (defArgs s_picture_at) (defBody s_picture_at) (defScope s_picture_at) .none kV34 dc34 pm34 an34 cd34 ct34), sl34⟩) (c34 : PySem.W.codeIn K cd34 "picture_at" = true) (k34 : PySem.W.keepIn K (.ref f34) = true)
    (a35 : PySem.W.nsIn K mainGlobals "_law_cell_at" = some (some (.ref f35))) (l35 : K.lookup f35 = some ⟨oc35, od35, .func (PySem.W.fnOf "_law_cell_at" "_law_cell_at" (defArgs s__law_cell_at) (defBody s__law_cell_at) (defScope s__law_cell_at) .none kV35 dc35 pm35 an35 cd35 ct35), sl35⟩) (c35 : PySem.W.codeIn K cd35 "_law_cell_at" = true) (k35 : PySem.W.keepIn K (.ref f35) = true)
    (a36 : PySem.W.nsIn K mainGlobals "_law_state" = some (some (.ref f36))) (l36 : K.lookup f36 = some ⟨oc36, od36, .func (PySem.W.fnOf "_law_state" "_law_state" (defArgs s__law_state) (defBody s__law_state) (defScope s__law_state) .none kV36 dc36 pm36 an36 cd36 ct36), sl36⟩) (c36 : PySem.W.codeIn K cd36 "_law_state" = true) (k36 : PySem.W.keepIn K (.ref f36) = true)
    (a37 : PySem.W.nsIn K mainGlobals "_law_take" = some (some (.ref f37))) (l37 : K.lookup f37 = some ⟨oc37, od37, .func (PySem.W.fnOf "_law_take" "_law_take" (defArgs s__law_take) (defBody s__law_take) (defScope s__law_take) .none kV37 dc37 pm37 an37 cd37 ct37), sl37⟩) (c37 : PySem.W.codeIn K cd37 "_law_take" = true) (k37 : PySem.W.keepIn K (.ref f37) = true)
    (a38 : PySem.W.nsIn K mainGlobals "_law_row" = some (some (.ref f38))) (l38 : K.lookup f38 = some ⟨oc38, od38, .func (PySem.W.fnOf "_law_row" "_law_row" (defArgs s__law_row) (defBody s__law_row) (defScope s__law_row) .none kV38 dc38 pm38 an38 cd38 ct38), sl38⟩) (c38 : PySem.W.codeIn K cd38 "_law_row" = true) (k38 : PySem.W.keepIn K (.ref f38) = true)
    (a39 : PySem.W.nsIn K mainGlobals "_law_layer" = some (some (.ref f39))) (l39 : K.lookup f39 = some ⟨oc39, od39, .func (PySem.W.fnOf "_law_layer" "_law_layer" (defArgs s__law_layer) (defBody s__law_layer) (defScope s__law_layer) .none kV39 dc39 pm39 an39 cd39 ct39), sl39⟩) (c39 : PySem.W.codeIn K cd39 "_law_layer" = true) (k39 : PySem.W.keepIn K (.ref f39) = true)
    (a40 : PySem.W.nsIn K mainGlobals "_law_window" = some (some (.ref f40))) (l40 : K.lookup f40 = some ⟨oc40, od40, .func (PySem.W.fnOf "_law_window" "_law_window" (defArgs s__law_window) (defBody s__law_window) (defScope s__law_window) .none kV40 dc40 pm40 an40 cd40 ct40), sl40⟩) (c40 : PySem.W.codeIn K cd40 "_law_window" = true) (k40 : PySem.W.keepIn K (.ref f40) = true)
    (a41 : PySem.W.nsIn K mainGlobals "_law_sheet" = some (some (.ref f41))) (l41 : K.lookup f41 = some ⟨oc41, od41, .func (PySem.W.fnOf "_law_sheet" "_law_sheet" (defArgs s__law_sheet) (defBody s__law_sheet) (defScope s__law_sheet) .none kV41 dc41 pm41 an41 cd41 ct41), sl41⟩) (c41 : PySem.W.codeIn K cd41 "_law_sheet" = true) (k41 : PySem.W.keepIn K (.ref f41) = true)
    (a42 : PySem.W.nsIn K mainGlobals "_law_length" = some (some (.ref f42))) (l42 : K.lookup f42 = some ⟨oc42, od42, .func (PySem.W.fnOf "_law_length" "_law_length" (defArgs s__law_length) (defBody s__law_length) (defScope s__law_length) .none kV42 dc42 pm42 an42 cd42 ct42), sl42⟩) (c42 : PySem.W.codeIn K cd42 "_law_length" = true) (k42 : PySem.W.keepIn K (.ref f42) = true)
    (a43 : PySem.W.nsIn K mainGlobals "_law_layer_end" = some (some (.ref f43))) (l43 : K.lookup f43 = some ⟨oc43, od43, .func (PySem.W.fnOf "_law_layer_end" "_law_layer_end" (defArgs s__law_layer_end) (defBody s__law_layer_end) (defScope s__law_layer_end) .none kV43 dc43 pm43 an43 cd43 ct43), sl43⟩) (c43 : PySem.W.codeIn K cd43 "_law_layer_end" = true) (k43 : PySem.W.keepIn K (.ref f43) = true)
    (a44 : PySem.W.nsIn K mainGlobals "_law_window_end" = some (some (.ref f44))) (l44 : K.lookup f44 = some ⟨oc44, od44, .func (PySem.W.fnOf "_law_window_end" "_law_window_end" (defArgs s__law_window_end) (defBody s__law_window_end) (defScope s__law_window_end) .none kV44 dc44 pm44 an44 cd44 ct44), sl44⟩) (c44 : PySem.W.codeIn K cd44 "_law_window_end" = true) (k44 : PySem.W.keepIn K (.ref f44) = true)
    (a45 : PySem.W.nsIn K mainGlobals "_law_end" = some (some (.ref f45))) (l45 : K.lookup f45 = some ⟨oc45, od45, .func (PySem.W.fnOf "_law_end" "_law_end" (defArgs s__law_end) (defBody s__law_end) (defScope s__law_end) .none kV45 dc45 pm45 an45 cd45 ct45), sl45⟩) (c45 : PySem.W.codeIn K cd45 "_law_end" = true) (k45 : PySem.W.keepIn K (.ref f45) = true)
    (a46 : PySem.W.nsIn K mainGlobals "_law_drawing" = some (some (.ref f46))) (l46 : K.lookup f46 = some ⟨oc46, od46, .func (PySem.W.fnOf "_law_drawing" "_law_drawing" (defArgs s__law_drawing) (defBody s__law_drawing) (defScope s__law_drawing) .none kV46 dc46 pm46 an46 cd46 ct46), sl46⟩) (c46 : PySem.W.codeIn K cd46 "_law_drawing" = true) (k46 : PySem.W.keepIn K (.ref f46) = true)
    (a47 : PySem.W.nsIn K mainGlobals "_law_fraction" = some (some (.ref f47))) (l47 : K.lookup f47 = some ⟨oc47, od47, .func (PySem.W.fnOf "_law_fraction" "_law_fraction" (defArgs s__law_fraction) (defBody s__law_fraction) (defScope s__law_fraction) .none kV47 dc47 pm47 an47 cd47 ct47), sl47⟩) (c47 : PySem.W.codeIn K cd47 "_law_fraction" = true) (k47 : PySem.W.keepIn K (.ref f47) = true)
    (a48 : PySem.W.nsIn K mainGlobals "_law_stands" = some (some (.ref f48))) (l48 : K.lookup f48 = some ⟨oc48, od48, .func (PySem.W.fnOf "_law_stands" "_law_stands" (defArgs s__law_stands) (defBody s__law_stands) (defScope s__law_stands) .none kV48 dc48 pm48 an48 cd48 ct48), sl48⟩) (c48 : PySem.W.codeIn K cd48 "_law_stands" = true) (k48 : PySem.W.keepIn K (.ref f48) = true)
    (a49 : PySem.W.nsIn K mainGlobals "_law_picture" = some (some (.ref f49))) (l49 : K.lookup f49 = some ⟨oc49, od49, .func (PySem.W.fnOf "_law_picture" "_law_picture" (defArgs s__law_picture) (defBody s__law_picture) (defScope s__law_picture) .none kV49 dc49 pm49 an49 cd49 ct49), sl49⟩) (c49 : PySem.W.codeIn K cd49 "_law_picture" = true) (k49 : PySem.W.keepIn K (.ref f49) = true)
    (a50 : PySem.W.nsIn K mainGlobals "_law_met" = some (some (.ref f50))) (l50 : K.lookup f50 = some ⟨oc50, od50, .func (PySem.W.fnOf "_law_met" "_law_met" (defArgs s__law_met) (defBody s__law_met) (defScope s__law_met) .none kV50 dc50 pm50 an50 cd50 ct50), sl50⟩) (c50 : PySem.W.codeIn K cd50 "_law_met" = true) (k50 : PySem.W.keepIn K (.ref f50) = true)
    (a51 : PySem.W.nsIn K mainGlobals "_law_classes" = some (some (.ref f51))) (l51 : K.lookup f51 = some ⟨oc51, od51, .func (PySem.W.fnOf "_law_classes" "_law_classes" (defArgs s__law_classes) (defBody s__law_classes) (defScope s__law_classes) .none kV51 dc51 pm51 an51 cd51 ct51), sl51⟩) (c51 : PySem.W.codeIn K cd51 "_law_classes" = true) (k51 : PySem.W.keepIn K (.ref f51) = true)
    (a52 : PySem.W.nsIn K mainGlobals "law" = some (some (.ref f52))) (l52 : K.lookup f52 = some ⟨oc52, od52, .func (PySem.W.fnOf "law" "law" (defArgs s_law) (defBody s_law) (defScope s_law) .none kV52 dc52 pm52 an52 (.ref cc52) ct52), sl52⟩) (c52 : PySem.W.codeIn K (.ref cc52) "law" = true) (k52 : PySem.W.keepIn K (.ref f52) = true)
    (lc52 : K.lookup cc52 = some ⟨ec52, dc_52, .fields vc52, slc52⟩) (v1152 : vc52[11]? = some (.ref PP52)) (tq52 : ((recsOf q).find? fun e => e.name == ("law" : Str)).isSome = true) (tt52 : PySem.W.tabIn K "law" = some (cc52, PP52)) (tn52 : K.lookup PP52 = none)
    (z_ValueError : PySem.W.nsIn K mainGlobals "ValueError" = some none)
    (z_len : PySem.W.nsIn K mainGlobals "len" = some none)
    (z_isinstance : PySem.W.nsIn K mainGlobals "isinstance" = some none)
    (z_max : PySem.W.nsIn K mainGlobals "max" = some none)
    (z_min : PySem.W.nsIn K mainGlobals "min" = some none)
    (z_sum : PySem.W.nsIn K mainGlobals "sum" = some none)
    (z_all : PySem.W.nsIn K mainGlobals "all" = some none)
    (z_tuple : PySem.W.nsIn K mainGlobals "tuple" = some none)
    (z_list : PySem.W.nsIn K mainGlobals "list" = some none)
    (z_abs : PySem.W.nsIn K mainGlobals "abs" = some none)
    (z_range : PySem.W.nsIn K mainGlobals "range" = some none)
    (z_zip : PySem.W.nsIn K mainGlobals "zip" = some none)
    (z_bool : PySem.W.nsIn K mainGlobals "bool" = some none)
    (z_int : PySem.W.nsIn K mainGlobals "int" = some none)
    (z_divmod : PySem.W.nsIn K mainGlobals "divmod" = some none)
    (v_LAST_MOMENT : PySem.W.nsIn K mainGlobals "LAST_MOMENT" = some (some (.int 1000000000 t0)))
    (v_MOST_DRAWING : PySem.W.nsIn K mainGlobals "MOST_DRAWING" = some (some (.int 9 t1)))
    (v_MOST_HOLD : PySem.W.nsIn K mainGlobals "MOST_HOLD" = some (some (.int 24 t2)))
    (v_MOST_ROWS : PySem.W.nsIn K mainGlobals "MOST_ROWS" = some (some (.int 8 t3)))
    (v_MOST_WAY : PySem.W.nsIn K mainGlobals "MOST_WAY" = some (some (.int 20 t4)))
    (v_MOST_MANY : PySem.W.nsIn K mainGlobals "MOST_MANY" = some (some (.int 24 t5)))
    (v_MOST_MOVES : PySem.W.nsIn K mainGlobals "MOST_MOVES" = some (some (.int 8 t6)))
    (v_MOST_LAYERS : PySem.W.nsIn K mainGlobals "MOST_LAYERS" = some (some (.int 4 t7)))
    (x0 : PySem.W.nsIn K mainGlobals "NoLayer" = some (some (.ref C0)))
    (x1 : PySem.W.nsIn K mainGlobals "NoWindow" = some (some (.ref C1)))
    (x2 : PySem.W.nsIn K mainGlobals "NoSheet" = some (some (.ref C2)))
    (x3 : PySem.W.nsIn K mainGlobals "NoMoment" = some (some (.ref C3)))
    (x4 : PySem.W.nsIn K mainGlobals "NoRow" = some (some (.ref C4)))
    (x5 : PySem.W.nsIn K mainGlobals "NoNumber" = some (some (.ref C5)))
    (x6 : PySem.W.nsIn K mainGlobals "NoDrawings" = some (some (.ref C6)))
    (x7 : PySem.W.nsIn K mainGlobals "Unlike" = some (some (.ref C7)))
    (x8 : PySem.W.nsIn K mainGlobals "Endless" = some (some (.ref C8)))
    (x9 : PySem.W.nsIn K mainGlobals "Squeezed" = some (some (.ref C9)))
    (x10 : PySem.W.nsIn K mainGlobals "NoPaper" = some (some (.ref C10)))
    (x11 : PySem.W.nsIn K mainGlobals "NoDeed" = some (some (.ref C11)))
    (x12 : PySem.W.nsIn K mainGlobals "NoText" = some (some (.ref C12)))
    (x13 : PySem.W.nsIn K mainGlobals "NoWords" = some (some (.ref C13)))
    (x14 : PySem.W.nsIn K mainGlobals "TooMany" = some (some (.ref C14)))
    (x15 : PySem.W.nsIn K mainGlobals "Leaned" = some (some (.ref C15)))
    (xL : PySem.W.nsIn K mainGlobals "LanternError" = some (some (.ref LE)))
    (xb : excTB K (fun i => [C0, C1, C2, C3, C4, C5, C6, C7, C8, C9, C10, C11, C12, C13, C14, C15].getD i 0) LE = true) (nm1 : PySem.W.findIn K (.ref C14) "many" = some none) (nm2 : PySem.W.findIn K (.ref C14) "most" = some none) (nm3 : PySem.W.findIn K (.ref C15) "numbers" = some none)
    {nmTooMany qnTooMany : Str} {NTooMany fITooMany : Addr} {bsTooMany bmTooMany subTooMany : List Value} {snTooMany : List Str} {abTooMany : Bool} {colTooMany : Option Bool} {ddTooMany odTooMany anTooMany : Option Addr} {m0TooMany m1TooMany m2TooMany m3TooMany m5TooMany : Option Value} {ocTooMany kVTooMany dcTooMany pmTooMany cdTooMany ctTooMany : Value} {slTooMany : Array (Option Value)}
    (xoTooMany : K.lookup C14 = some (excClassObj nmTooMany qnTooMany C14 NTooMany bsTooMany bmTooMany true snTooMany subTooMany abTooMany colTooMany ddTooMany m0TooMany m1TooMany m2TooMany m3TooMany m5TooMany "ValueError.__new__")) (xrTooMany : PySem.HandSPX.refsVE bmTooMany = true) (saTooMany : PySem.W.findIn K (.ref C14) "__setattr__" = some (some (.builtin "object.__setattr__"))) (iITooMany : PySem.W.findIn K (.ref C14) "__init__" = some (some (.ref fITooMany))) (tITooMany : PySem.W.typeIn K (.ref fITooMany) = some (.type "function"))
    (lITooMany : K.lookup fITooMany = some ⟨ocTooMany, odTooMany, .func (PySem.W.fnOf "__init__" "TooMany.__init__" (defArgs s_TooMany_init) (defBody s_TooMany_init) (defScope s_TooMany_init) .none kVTooMany dcTooMany pmTooMany anTooMany cdTooMany ctTooMany), slTooMany⟩) (cITooMany : PySem.W.codeIn K cdTooMany "TooMany.__init__" = true) (kITooMany : PySem.W.keepIn K (.ref fITooMany) = true) :
    LamX.LawAtS l w K CX0 11 63 "_law_script" mg fa h := by
  have e := hfa.symm.trans (PySem.W.mg_of X G a52)
  cases e
  have T : Txt K mg := ⟨PySem.W.mg_none_of X G z_ValueError, PySem.W.mg_none_of X G z_len, PySem.W.mg_none_of X G z_isinstance, PySem.W.mg_none_of X G z_max, PySem.W.mg_none_of X G z_min, PySem.W.mg_none_of X G z_sum, PySem.W.mg_none_of X G z_all, PySem.W.mg_none_of X G z_tuple, PySem.W.mg_none_of X G z_list, PySem.W.mg_none_of X G z_abs, PySem.W.mg_none_of X G z_range, PySem.W.mg_none_of X G z_zip, PySem.W.mg_none_of X G z_bool, PySem.W.mg_none_of X G z_int, PySem.W.mg_none_of X G z_divmod, ⟨_, PySem.W.mg_of X G v_LAST_MOMENT⟩, ⟨_, PySem.W.mg_of X G v_MOST_DRAWING⟩, ⟨_, PySem.W.mg_of X G v_MOST_HOLD⟩, ⟨_, PySem.W.mg_of X G v_MOST_ROWS⟩, ⟨_, PySem.W.mg_of X G v_MOST_WAY⟩, ⟨_, PySem.W.mg_of X G v_MOST_MANY⟩, ⟨_, PySem.W.mg_of X G v_MOST_MOVES⟩, ⟨_, PySem.W.mg_of X G v_MOST_LAYERS⟩⟩
  have gX : ∀ i n, clsN[i]? = some n → mg n = some (.ref ((fun i => [C0, C1, C2, C3, C4, C5, C6, C7, C8, C9, C10, C11, C12, C13, C14, C15].getD i 0) i)) := fun i n hn => match i, hn with
    | 0, h => by cases (show some ("NoLayer" : Str) = some n from h); exact PySem.W.mg_of X G x0
    | 1, h => by cases (show some ("NoWindow" : Str) = some n from h); exact PySem.W.mg_of X G x1
    | 2, h => by cases (show some ("NoSheet" : Str) = some n from h); exact PySem.W.mg_of X G x2
    | 3, h => by cases (show some ("NoMoment" : Str) = some n from h); exact PySem.W.mg_of X G x3
    | 4, h => by cases (show some ("NoRow" : Str) = some n from h); exact PySem.W.mg_of X G x4
    | 5, h => by cases (show some ("NoNumber" : Str) = some n from h); exact PySem.W.mg_of X G x5
    | 6, h => by cases (show some ("NoDrawings" : Str) = some n from h); exact PySem.W.mg_of X G x6
    | 7, h => by cases (show some ("Unlike" : Str) = some n from h); exact PySem.W.mg_of X G x7
    | 8, h => by cases (show some ("Endless" : Str) = some n from h); exact PySem.W.mg_of X G x8
    | 9, h => by cases (show some ("Squeezed" : Str) = some n from h); exact PySem.W.mg_of X G x9
    | 10, h => by cases (show some ("NoPaper" : Str) = some n from h); exact PySem.W.mg_of X G x10
    | 11, h => by cases (show some ("NoDeed" : Str) = some n from h); exact PySem.W.mg_of X G x11
    | 12, h => by cases (show some ("NoText" : Str) = some n from h); exact PySem.W.mg_of X G x12
    | 13, h => by cases (show some ("NoWords" : Str) = some n from h); exact PySem.W.mg_of X G x13
    | 14, h => by cases (show some ("TooMany" : Str) = some n from h); exact PySem.W.mg_of X G x14
    | 15, h => by cases (show some ("Leaned" : Str) = some n from h); exact PySem.W.mg_of X G x15
    | k + 16, h => by simp [clsN] at h
  have TX : ExcN K mg (fun i => [C0, C1, C2, C3, C4, C5, C6, C7, C8, C9, C10, C11, C12, C13, C14, C15].getD i 0) LE := ⟨excT_of xb, gX, PySem.W.mg_of X G xL, nm1, nm2, nm3⟩
  refine ⟨(PySem.W.fnOf "law" "law" (defArgs s_law) (defBody s_law) (defScope s_law) .none kV52 dc52 pm52 an52 (.ref cc52) ct52), [(cc52, PP52)], sp_law K [(PP52, qLam "law")], ?_, ?_, ?_, fun s v => .of_eq rfl, fun H a ns hl _ hT hS => ⟨a, ns, rfl, hS, hl, ?_, fun _ => rfl⟩, fun base kb gb tb => ?_⟩
  · intro p hp
    simp only [List.mem_cons, List.not_mem_nil, or_false] at hp
    rcases hp with rfl
    · exact (TQ _ _ _ tq52 tt52).2
  · intro p hp
    simp only [List.mem_cons, List.not_mem_nil, or_false] at hp
    rcases hp with rfl
    · exact tn52
  · intro p hp
    simp only [List.mem_cons, List.not_mem_nil, or_false] at hp
    rcases hp with rfl
    · exact (TQ _ _ _ tq52 tt52).1
  · intro p hp
    simp only [List.mem_cons, List.not_mem_nil, or_false] at hp
    rcases hp with rfl
    · exact LamX.TabS.nil (hT (cc52, PP52) (by simp))
  have FITooMany := fun_mk (st := s_TooMany_init) lITooMany cITooMany kITooMany
  have bITooMany := FITooMany.binds (ps := ["self", "many", "most"]) fun _ _ _ _ _ _ us hl => match us, hl with | [_, _, _], _ => rfl
  have TITooMany : IniT l.prog w K mg base ((fun i => [C0, C1, C2, C3, C4, C5, C6, C7, C8, C9, C10, C11, C12, C13, C14, C15].getD i 0) 14) 3 (sp_TooMany_init (fun i => [C0, C1, C2, C3, C4, C5, C6, C7, C8, C9, C10, C11, C12, C13, C14, C15].getD i 0) K) := ⟨fITooMany, _, _, ⟨⟨_, _, _, _, _, _, _, _, _, _, _, _, _, _, _, xoTooMany, xrTooMany⟩, saTooMany, (TX.e 14 (by decide)).hs, TX.ty 14 (by decide), TX.kp 14 (by decide)⟩, iITooMany, tITooMany, ok_TooMany_init FITooMany, bITooMany⟩
  have F0 := fun_mk (st := s_is_whole_from) l0 c0 k0
  have b0 := F0.binds (ps := ["thing", "least"]) fun _ _ _ _ _ _ us hl => match us, hl with | [_, _], _ => rfl
  have D_is_whole_from : Cl l.prog w K mg base 1 "is_whole_from" ["thing", "least"] (sp_is_whole_from K) := ⟨_, _, ok_is_whole_from F0 T , k0, b0, PySem.W.mg_of X G a0⟩
  have F1 := fun_mk (st := s_is_whole) l1 c1 k1
  have b1 := F1.binds (ps := ["thing", "least", "most"]) fun _ _ _ _ _ _ us hl => match us, hl with | [_, _, _], _ => rfl
  have D_is_whole : Cl l.prog w K mg base 2 "is_whole" ["thing", "least", "most"] (sp_is_whole K) := ⟨_, _, ok_is_whole F1 T D_is_whole_from, k1, b1, PySem.W.mg_of X G a1⟩
  have F2 := fun_mk (st := s_need_moment) l2 c2 k2
  have b2 := F2.binds (ps := ["thing"]) fun _ _ _ _ _ _ us hl => match us, hl with | [_], _ => rfl
  have D_need_moment : Cl l.prog w K mg base 3 "need_moment" ["thing"] (sp_need_moment K) := ⟨_, _, ok_need_moment F2 T D_is_whole, k2, b2, PySem.W.mg_of X G a2⟩
  have F3 := fun_mk (st := s_need_at_most) l3 c3 k3
  have b3 := F3.binds (ps := ["many", "most"]) fun _ _ _ _ _ _ us hl => match us, hl with | [_, _], _ => rfl
  have D_need_at_most : ClX l.prog w K mg base 3 "need_at_most" ["many", "most"] (sp_need_at_most K (fun i => [C0, C1, C2, C3, C4, C5, C6, C7, C8, C9, C10, C11, C12, C13, C14, C15].getD i 0)) := ⟨_, _, ok_need_at_most F3 T TX TITooMany , k3, b3, PySem.W.mg_of X G a3⟩
  have F4 := fun_mk (st := s_is_tuple) l4 c4 k4
  have b4 := F4.binds (ps := ["thing", "least", "most"]) fun _ _ _ _ _ _ us hl => match us, hl with | [_, _, _], _ => rfl
  have D_is_tuple : Cl l.prog w K mg base 1 "is_tuple" ["thing", "least", "most"] (sp_is_tuple K) := ⟨_, _, ok_is_tuple F4 T , k4, b4, PySem.W.mg_of X G a4⟩
  have F5 := fun_mk (st := s_is_drawing) l5 c5 k5
  have b5 := F5.binds (ps := ["thing"]) fun _ _ _ _ _ _ us hl => match us, hl with | [_], _ => rfl
  have D_is_drawing : Cl l.prog w K mg base 3 "is_drawing" ["thing"] (sp_is_drawing K) := ⟨_, _, ok_is_drawing F5 T D_is_whole, k5, b5, PySem.W.mg_of X G a5⟩
  have F6 := fun_mk (st := s_is_hold) l6 c6 k6
  have b6 := F6.binds (ps := ["thing"]) fun _ _ _ _ _ _ us hl => match us, hl with | [_], _ => rfl
  have D_is_hold : Cl l.prog w K mg base 3 "is_hold" ["thing"] (sp_is_hold K) := ⟨_, _, ok_is_hold F6 T D_is_whole, k6, b6, PySem.W.mg_of X G a6⟩
  have F7 := fun_mk (st := s_is_row) l7 c7 k7
  have b7 := F7.binds (ps := ["thing"]) fun _ _ _ _ _ _ us hl => match us, hl with | [_], _ => rfl
  have D_is_row : Cl l.prog w K mg base 4 "is_row" ["thing"] (sp_is_row K) := ⟨_, _, ok_is_row F7 T D_is_tuple D_is_drawing D_is_hold, k7, b7, PySem.W.mg_of X G a7⟩
  have F8 := fun_mk (st := s_is_layer) l8 c8 k8
  have b8 := F8.binds (ps := ["thing"]) fun _ _ _ _ _ _ us hl => match us, hl with | [_], _ => rfl
  have D_is_layer : Cl l.prog w K mg base 5 "is_layer" ["thing"] (sp_is_layer K) := ⟨_, _, ok_is_layer F8 T D_is_tuple D_is_row D_is_whole, k8, b8, PySem.W.mg_of X G a8⟩
  have F9 := fun_mk (st := s_is_way) l9 c9 k9
  have b9 := F9.binds (ps := ["thing"]) fun _ _ _ _ _ _ us hl => match us, hl with | [_], _ => rfl
  have D_is_way : Cl l.prog w K mg base 3 "is_way" ["thing"] (sp_is_way K) := ⟨_, _, ok_is_way F9 T D_is_whole, k9, b9, PySem.W.mg_of X G a9⟩
  have F10 := fun_mk (st := s_is_many) l10 c10 k10
  have b10 := F10.binds (ps := ["thing"]) fun _ _ _ _ _ _ us hl => match us, hl with | [_], _ => rfl
  have D_is_many : Cl l.prog w K mg base 3 "is_many" ["thing"] (sp_is_many K) := ⟨_, _, ok_is_many F10 T D_is_whole, k10, b10, PySem.W.mg_of X G a10⟩
  have F11 := fun_mk (st := s_is_move) l11 c11 k11
  have b11 := F11.binds (ps := ["thing"]) fun _ _ _ _ _ _ us hl => match us, hl with | [_], _ => rfl
  have D_is_move : Cl l.prog w K mg base 4 "is_move" ["thing"] (sp_is_move K) := ⟨_, _, ok_is_move F11 T D_is_tuple D_is_way D_is_many, k11, b11, PySem.W.mg_of X G a11⟩
  have F12 := fun_mk (st := s_is_window) l12 c12 k12
  have b12 := F12.binds (ps := ["thing"]) fun _ _ _ _ _ _ us hl => match us, hl with | [_], _ => rfl
  have D_is_window : Cl l.prog w K mg base 5 "is_window" ["thing"] (sp_is_window K) := ⟨_, _, ok_is_window F12 T D_is_tuple D_is_way D_is_move, k12, b12, PySem.W.mg_of X G a12⟩
  have F13 := fun_mk (st := s_is_sheet) l13 c13 k13
  have b13 := F13.binds (ps := ["thing"]) fun _ _ _ _ _ _ us hl => match us, hl with | [_], _ => rfl
  have D_is_sheet : Cl l.prog w K mg base 6 "is_sheet" ["thing"] (sp_is_sheet K) := ⟨_, _, ok_is_sheet F13 T D_is_tuple D_is_window D_is_layer, k13, b13, PySem.W.mg_of X G a13⟩
  have F14 := fun_mk (st := s_need_sheet) l14 c14 k14
  have b14 := F14.binds (ps := ["thing"]) fun _ _ _ _ _ _ us hl => match us, hl with | [_], _ => rfl
  have D_need_sheet : Cl l.prog w K mg base 7 "need_sheet" ["thing"] (sp_need_sheet K) := ⟨_, _, ok_need_sheet F14 T D_is_sheet, k14, b14, PySem.W.mg_of X G a14⟩
  have F15 := fun_mk (st := s_need_as_many_layers) l15 c15 k15
  have b15 := F15.binds (ps := ["one", "other"]) fun _ _ _ _ _ _ us hl => match us, hl with | [_, _], _ => rfl
  have D_need_as_many_layers : ClX l.prog w K mg base 1 "need_as_many_layers" ["one", "other"] (sp_need_as_many_layers K (fun i => [C0, C1, C2, C3, C4, C5, C6, C7, C8, C9, C10, C11, C12, C13, C14, C15].getD i 0)) := ⟨_, _, ok_need_as_many_layers F15 T TX  , k15, b15, PySem.W.mg_of X G a15⟩
  have F16 := fun_mk (st := s_need_length) l16 c16 k16
  have b16 := F16.binds (ps := ["length"]) fun _ _ _ _ _ _ us hl => match us, hl with | [_], _ => rfl
  have D_need_length : ClX l.prog w K mg base 1 "need_length" ["length"] (sp_need_length K (fun i => [C0, C1, C2, C3, C4, C5, C6, C7, C8, C9, C10, C11, C12, C13, C14, C15].getD i 0)) := ⟨_, _, ok_need_length F16 T TX  , k16, b16, PySem.W.mg_of X G a16⟩
  have F17 := fun_mk (st := s_held) l17 c17 k17
  have b17 := F17.binds (ps := ["rows"]) fun _ _ _ _ _ _ us hl => match us, hl with | [_], _ => rfl
  have D_held : Cl l.prog w K mg base 1 "held" ["rows"] (sp_held K) := ⟨_, _, ok_held F17 T , k17, b17, PySem.W.mg_of X G a17⟩
  have F18 := fun_mk (st := s_length_of) l18 c18 k18
  have b18 := F18.binds (ps := ["layer"]) fun _ _ _ _ _ _ us hl => match us, hl with | [_], _ => rfl
  have D_length_of : Cl l.prog w K mg base 2 "length_of" ["layer"] (sp_length_of K) := ⟨_, _, ok_length_of F18 T D_held, k18, b18, PySem.W.mg_of X G a18⟩
  have F19 := fun_mk (st := s_moved) l19 c19 k19
  have b19 := F19.binds (ps := ["window"]) fun _ _ _ _ _ _ us hl => match us, hl with | [_], _ => rfl
  have D_moved : Cl l.prog w K mg base 1 "moved" ["window"] (sp_moved K) := ⟨_, _, ok_moved F19 T , k19, b19, PySem.W.mg_of X G a19⟩
  have F20 := fun_mk (st := s_full_length) l20 c20 k20
  have b20 := F20.binds (ps := ["sheet"]) fun _ _ _ _ _ _ us hl => match us, hl with | [_], _ => rfl
  have D_full_length : Cl l.prog w K mg base 3 "full_length" ["sheet"] (sp_full_length K) := ⟨_, _, ok_full_length F20 T D_length_of D_moved, k20, b20, PySem.W.mg_of X G a20⟩
  have F21 := fun_mk (st := s_filling) l21 c21 k21
  have b21 := F21.binds (ps := ["many", "most"]) fun _ _ _ _ _ _ us hl => match us, hl with | [_, _], _ => rfl
  have D_filling : Cl l.prog w K mg base 1 "filling" ["many", "most"] (sp_filling K) := ⟨_, _, ok_filling F21 T , k21, b21, PySem.W.mg_of X G a21⟩
  have F22 := fun_mk (st := s_rows_for) l22 c22 k22
  have b22 := F22.binds (ps := ["rows", "length"]) fun _ _ _ _ _ _ us hl => match us, hl with | [_, _], _ => rfl
  have D_rows_for : Cl l.prog w K mg base 2 "rows_for" ["rows", "length"] (sp_rows_for K) := ⟨_, _, ok_rows_for F22 T D_filling D_held, k22, b22, PySem.W.mg_of X G a22⟩
  have F23 := fun_mk (st := s_layer_behind) l23 c23 k23
  have b23 := F23.binds (ps := ["one", "other", "length"]) fun _ _ _ _ _ _ us hl => match us, hl with | [_, _, _], _ => rfl
  have D_layer_behind : Cl l.prog w K mg base 3 "layer_behind" ["one", "other", "length"] (sp_layer_behind K) := ⟨_, _, ok_layer_behind F23 T D_rows_for, k23, b23, PySem.W.mg_of X G a23⟩
  have F24 := fun_mk (st := s_moves_for) l24 c24 k24
  have b24 := F24.binds (ps := ["window", "length"]) fun _ _ _ _ _ _ us hl => match us, hl with | [_, _], _ => rfl
  have D_moves_for : Cl l.prog w K mg base 2 "moves_for" ["window", "length"] (sp_moves_for K) := ⟨_, _, ok_moves_for F24 T D_filling D_moved, k24, b24, PySem.W.mg_of X G a24⟩
  have F25 := fun_mk (st := s_window_behind) l25 c25 k25
  have b25 := F25.binds (ps := ["one", "other", "length"]) fun _ _ _ _ _ _ us hl => match us, hl with | [_, _, _], _ => rfl
  have D_window_behind : Cl l.prog w K mg base 3 "window_behind" ["one", "other", "length"] (sp_window_behind K) := ⟨_, _, ok_window_behind F25 T D_moves_for, k25, b25, PySem.W.mg_of X G a25⟩
  have F26 := fun_mk (st := s_behind) l26 c26 k26
  have b26 := F26.binds (ps := ["one", "other"]) fun _ _ _ _ _ _ us hl => match us, hl with | [_, _], _ => rfl
  have D_behind : ClX l.prog w K mg base 8 "behind" ["one", "other"] (sp_behind K (fun i => [C0, C1, C2, C3, C4, C5, C6, C7, C8, C9, C10, C11, C12, C13, C14, C15].getD i 0)) := ⟨_, _, ok_behind F26 T TX  D_need_sheet D_need_as_many_layers D_full_length D_need_length D_layer_behind D_window_behind D_need_at_most, k26, b26, PySem.W.mg_of X G a26⟩
  have F27 := fun_mk (st := s_first_time) l27 c27 k27
  have b27 := F27.binds (ps := ["rows", "back", "moment"]) fun _ _ _ _ _ _ us hl => match us, hl with | [_, _, _], _ => rfl
  have D_first_time : Cl l.prog w K mg base 2 "first_time" ["rows", "back", "moment"] (sp_first_time K) := ⟨_, _, ok_first_time F27 T D_held, k27, b27, PySem.W.mg_of X G a27⟩
  have F28 := fun_mk (st := s_drawing_of) l28 c28 k28
  have b28 := F28.binds (ps := ["layer", "moment"]) fun _ _ _ _ _ _ us hl => match us, hl with | [_, _], _ => rfl
  have D_drawing_of : Cl l.prog w K mg base 3 "drawing_of" ["layer", "moment"] (sp_drawing_of K) := ⟨_, _, ok_drawing_of F28 T D_first_time, k28, b28, PySem.W.mg_of X G a28⟩
  have F29 := fun_mk (st := s_common_divisor) l29 c29 k29
  have b29 := F29.binds (ps := ["one", "other"]) fun _ _ _ _ _ _ us hl => match us, hl with | [_, _], _ => rfl
  have D_common_divisor : Cl l.prog w K mg base 1 "common_divisor" ["one", "other"] (sp_common_divisor K) := ⟨_, _, ok_common_divisor F29 T , k29, b29, PySem.W.mg_of X G a29⟩
  have F30 := fun_mk (st := s_lowest) l30 c30 k30
  have b30 := F30.binds (ps := ["top", "bottom"]) fun _ _ _ _ _ _ us hl => match us, hl with | [_, _], _ => rfl
  have D_lowest : Cl l.prog w K mg base 2 "lowest" ["top", "bottom"] (sp_lowest K) := ⟨_, _, ok_lowest F30 T D_common_divisor, k30, b30, PySem.W.mg_of X G a30⟩
  have F31 := fun_mk (st := s_on_the_way) l31 c31 k31
  have b31 := F31.binds (ps := ["start", "goal", "step", "many"]) fun _ _ _ _ _ _ us hl => match us, hl with | [_, _, _, _], _ => rfl
  have D_on_the_way : Cl l.prog w K mg base 3 "on_the_way" ["start", "goal", "step", "many"] (sp_on_the_way K) := ⟨_, _, ok_on_the_way F31 T D_lowest, k31, b31, PySem.W.mg_of X G a31⟩
  have F32 := fun_mk (st := s_place_of) l32 c32 k32
  have b32 := F32.binds (ps := ["window", "moment"]) fun _ _ _ _ _ _ us hl => match us, hl with | [_, _], _ => rfl
  have D_place_of : Cl l.prog w K mg base 4 "place_of" ["window", "moment"] (sp_place_of K) := ⟨_, _, ok_place_of F32 T D_on_the_way, k32, b32, PySem.W.mg_of X G a32⟩
  have F33 := fun_mk (st := s_picture_of) l33 c33 k33
  have b33 := F33.binds (ps := ["sheet", "moment"]) fun _ _ _ _ _ _ us hl => match us, hl with | [_, _], _ => rfl
  have D_picture_of : Cl l.prog w K mg base 5 "picture_of" ["sheet", "moment"] (sp_picture_of K) := ⟨_, _, ok_picture_of F33 T D_drawing_of D_place_of, k33, b33, PySem.W.mg_of X G a33⟩
  have F34 := fun_mk (st := s_picture_at) l34 c34 k34
  have b34 := F34.binds (ps := ["sheet", "moment"]) fun _ _ _ _ _ _ us hl => match us, hl with | [_, _], _ => rfl
  have D_picture_at : Cl l.prog w K mg base 8 "picture_at" ["sheet", "moment"] (sp_picture_at K) := ⟨_, _, ok_picture_at F34 T D_need_sheet D_need_moment D_picture_of, k34, b34, PySem.W.mg_of X G a34⟩
  have F35 := fun_mk (st := s__law_cell_at) l35 c35 k35
  have b35 := F35.binds (ps := ["_law_script", "_law_k"]) fun _ _ _ _ _ _ us hl => match us, hl with | [_, _], _ => rfl
  have D__law_cell_at : Cl l.prog w K mg base 1 "_law_cell_at" ["_law_script", "_law_k"] (sp__law_cell_at K) := ⟨_, _, ok__law_cell_at F35 T , k35, b35, PySem.W.mg_of X G a35⟩
  have F36 := fun_mk (st := s__law_state) l36 c36 k36
  have b36 := F36.binds (ps := ["_law_script", "_law_k"]) fun _ _ _ _ _ _ us hl => match us, hl with | [_, _], _ => rfl
  have D__law_state : Cl l.prog w K mg base 2 "_law_state" ["_law_script", "_law_k"] (sp__law_state K) := ⟨_, _, ok__law_state F36 T D__law_cell_at, k36, b36, PySem.W.mg_of X G a36⟩
  have F37 := fun_mk (st := s__law_take) l37 c37 k37
  have b37 := F37.binds (ps := ["_law_state_here", "_law_many"]) fun _ _ _ _ _ _ us hl => match us, hl with | [_, _], _ => rfl
  have D__law_take : Cl l.prog w K mg base 1 "_law_take" ["_law_state_here", "_law_many"] (sp__law_take K) := ⟨_, _, ok__law_take F37 T , k37, b37, PySem.W.mg_of X G a37⟩
  have F38 := fun_mk (st := s__law_row) l38 c38 k38
  have b38 := F38.binds (ps := ["_law_state_here"]) fun _ _ _ _ _ _ us hl => match us, hl with | [_], _ => rfl
  have D__law_row : Cl l.prog w K mg base 2 "_law_row" ["_law_state_here"] (sp__law_row K) := ⟨_, _, ok__law_row F38 T D__law_take, k38, b38, PySem.W.mg_of X G a38⟩
  have F39 := fun_mk (st := s__law_layer) l39 c39 k39
  have b39 := F39.binds (ps := ["_law_state_here", "_law_most", "_law_ended"]) fun _ _ _ _ _ _ us hl => match us, hl with | [_, _, _], _ => rfl
  have D__law_layer : Cl l.prog w K mg base 3 "_law_layer" ["_law_state_here", "_law_most", "_law_ended"] (sp__law_layer K) := ⟨_, _, ok__law_layer F39 T D__law_row D__law_take, k39, b39, PySem.W.mg_of X G a39⟩
  have F40 := fun_mk (st := s__law_window) l40 c40 k40
  have b40 := F40.binds (ps := ["_law_state_here", "_law_most"]) fun _ _ _ _ _ _ us hl => match us, hl with | [_, _], _ => rfl
  have D__law_window : Cl l.prog w K mg base 2 "_law_window" ["_law_state_here", "_law_most"] (sp__law_window K) := ⟨_, _, ok__law_window F40 T D__law_take, k40, b40, PySem.W.mg_of X G a40⟩
  have F41 := fun_mk (st := s__law_sheet) l41 c41 k41
  have b41 := F41.binds (ps := ["_law_state_here", "_law_layers", "_law_most", "_law_ended"]) fun _ _ _ _ _ _ us hl => match us, hl with | [_, _, _, _], _ => rfl
  have D__law_sheet : Cl l.prog w K mg base 4 "_law_sheet" ["_law_state_here", "_law_layers", "_law_most", "_law_ended"] (sp__law_sheet K) := ⟨_, _, ok__law_sheet F41 T D__law_window D__law_layer, k41, b41, PySem.W.mg_of X G a41⟩
  have F42 := fun_mk (st := s__law_length) l42 c42 k42
  have b42 := F42.binds (ps := ["_law_rows"]) fun _ _ _ _ _ _ us hl => match us, hl with | [_], _ => rfl
  have D__law_length : Cl l.prog w K mg base 1 "_law_length" ["_law_rows"] (sp__law_length K) := ⟨_, _, ok__law_length F42 T , k42, b42, PySem.W.mg_of X G a42⟩
  have F43 := fun_mk (st := s__law_layer_end) l43 c43 k43
  have b43 := F43.binds (ps := ["_law_layer_here"]) fun _ _ _ _ _ _ us hl => match us, hl with | [_], _ => rfl
  have D__law_layer_end : Cl l.prog w K mg base 2 "_law_layer_end" ["_law_layer_here"] (sp__law_layer_end K) := ⟨_, _, ok__law_layer_end F43 T D__law_length, k43, b43, PySem.W.mg_of X G a43⟩
  have F44 := fun_mk (st := s__law_window_end) l44 c44 k44
  have b44 := F44.binds (ps := ["_law_window_here"]) fun _ _ _ _ _ _ us hl => match us, hl with | [_], _ => rfl
  have D__law_window_end : Cl l.prog w K mg base 1 "_law_window_end" ["_law_window_here"] (sp__law_window_end K) := ⟨_, _, ok__law_window_end F44 T , k44, b44, PySem.W.mg_of X G a44⟩
  have F45 := fun_mk (st := s__law_end) l45 c45 k45
  have b45 := F45.binds (ps := ["_law_sheet_here"]) fun _ _ _ _ _ _ us hl => match us, hl with | [_], _ => rfl
  have D__law_end : Cl l.prog w K mg base 3 "_law_end" ["_law_sheet_here"] (sp__law_end K) := ⟨_, _, ok__law_end F45 T D__law_layer_end D__law_window_end, k45, b45, PySem.W.mg_of X G a45⟩
  have F46 := fun_mk (st := s__law_drawing) l46 c46 k46
  have b46 := F46.binds (ps := ["_law_layer_here", "_law_moment"]) fun _ _ _ _ _ _ us hl => match us, hl with | [_, _], _ => rfl
  have D__law_drawing : Cl l.prog w K mg base 2 "_law_drawing" ["_law_layer_here", "_law_moment"] (sp__law_drawing K) := ⟨_, _, ok__law_drawing F46 T D__law_length, k46, b46, PySem.W.mg_of X G a46⟩
  have F47 := fun_mk (st := s__law_fraction) l47 c47 k47
  have b47 := F47.binds (ps := ["_law_top", "_law_bottom"]) fun _ _ _ _ _ _ us hl => match us, hl with | [_, _], _ => rfl
  have D__law_fraction : Cl l.prog w K mg base 1 "_law_fraction" ["_law_top", "_law_bottom"] (sp__law_fraction K) := ⟨_, _, ok__law_fraction F47 T , k47, b47, PySem.W.mg_of X G a47⟩
  have F48 := fun_mk (st := s__law_stands) l48 c48 k48
  have b48 := F48.binds (ps := ["_law_window_here", "_law_moment"]) fun _ _ _ _ _ _ us hl => match us, hl with | [_, _], _ => rfl
  have D__law_stands : Cl l.prog w K mg base 2 "_law_stands" ["_law_window_here", "_law_moment"] (sp__law_stands K) := ⟨_, _, ok__law_stands F48 T D__law_fraction, k48, b48, PySem.W.mg_of X G a48⟩
  have F49 := fun_mk (st := s__law_picture) l49 c49 k49
  have b49 := F49.binds (ps := ["_law_sheet_here", "_law_moment"]) fun _ _ _ _ _ _ us hl => match us, hl with | [_, _], _ => rfl
  have D__law_picture : Cl l.prog w K mg base 3 "_law_picture" ["_law_sheet_here", "_law_moment"] (sp__law_picture K) := ⟨_, _, ok__law_picture F49 T D__law_drawing D__law_stands, k49, b49, PySem.W.mg_of X G a49⟩
  have F50 := fun_mk (st := s__law_met) l50 c50 k50
  have b50 := F50.binds (ps := ["_law_call"]) fun _ _ _ _ _ _ us hl => match us, hl with | [_], _ => rfl
  have F51 := fun_mk (st := s__law_classes) l51 c51 k51
  have b51 := F51.binds (ps := ["_law_e"]) fun _ _ _ _ _ _ us hl => match us, hl with | [_], _ => rfl
  have DE : ClE l.prog w K mg base 1 "_law_classes" ["_law_e"] (spCls (fun i => [C0, C1, C2, C3, C4, C5, C6, C7, C8, C9, C10, C11, C12, C13, C14, C15].getD i 0)) := ⟨_, _, ok__law_classes F51 T TX, k51, b51, PySem.W.mg_of X G a51⟩
  have F52 := funC_mk (st := s_law) l52 c52
  have F52b := fun_mk (st := s_law) l52 c52 k52
  have MR52 : Mkr base mg cc52 PP52 "law" [(PP52, qLam "law")] := ⟨tb (cc52, PP52) (by simp), by simp, fun p hp e => by
    simp only [List.mem_cons, List.not_mem_nil, or_false] at hp
    rcases hp with rfl
    · rfl⟩
  exact ok_law F52 T TX MR52 F50 (PySem.W.mg_of X G a50) b50 DE D__law_state D__law_take D__law_sheet D_behind D__law_end D_is_sheet D__law_picture D_picture_at

end Lan
open PySem PySem.W PyProof.Rows
set_option maxRecDepth 100000 in
set_option maxHeartbeats 0 in
theorem PySem.Challenge.cw_lanternrows_k42_whole_shown_behind_one_a_holds : PySem.Challenge.rw_lanternrows_k42_whole_shown_behind_one_a.Holds := by
  w_on; o_law; k_head; (case hw => w_witness2)
  k_fill
  refine Lan.walk_ofL (l := PySem.Challenge.rw_lanternrows_k42_whole_shown_behind_one_a) (n := 63) (k := 11) (x := "_law_script") rfl (by decide) rfl ⟨rfl, by decide, by decide⟩ (fun w h Y => PySem.W.km_in_of Y) ?F
  case F =>
    intro w mg fa h KX G hmg TQ
    refine' Lan.all_mk KX G hmg TQ ?a0 ?l0 ?c0 ?k0 ?a1 ?l1 ?c1 ?k1 ?a2 ?l2 ?c2 ?k2 ?a3 ?l3 ?c3 ?k3 ?a4 ?l4 ?c4 ?k4 ?a5 ?l5 ?c5 ?k5 ?a6 ?l6 ?c6 ?k6 ?a7 ?l7 ?c7 ?k7 ?a8 ?l8 ?c8 ?k8 ?a9 ?l9 ?c9 ?k9 ?a10 ?l10 ?c10 ?k10 ?a11 ?l11 ?c11 ?k11 ?a12 ?l12 ?c12 ?k12 ?a13 ?l13 ?c13 ?k13 ?a14 ?l14 ?c14 ?k14 ?a15 ?l15 ?c15 ?k15 ?a16 ?l16 ?c16 ?k16 ?a17 ?l17 ?c17 ?k17 ?a18 ?l18 ?c18 ?k18 ?a19 ?l19 ?c19 ?k19 ?a20 ?l20 ?c20 ?k20 ?a21 ?l21 ?c21 ?k21 ?a22 ?l22 ?c22 ?k22 ?a23 ?l23 ?c23 ?k23 ?a24 ?l24 ?c24 ?k24 ?a25 ?l25 ?c25 ?k25 ?a26 ?l26 ?c26 ?k26 ?a27 ?l27 ?c27 ?k27 ?a28 ?l28 ?c28 ?k28 ?a29 ?l29 ?c29 ?k29 ?a30 ?l30 ?c30 ?k30 ?a31 ?l31 ?c31 ?k31 ?a32 ?l32 ?c32 ?k32 ?a33 ?l33 ?c33 ?k33 ?a34 ?l34 ?c34 ?k34 ?a35 ?l35 ?c35 ?k35 ?a36 ?l36 ?c36 ?k36 ?a37 ?l37 ?c37 ?k37 ?a38 ?l38 ?c38 ?k38 ?a39 ?l39 ?c39 ?k39 ?a40 ?l40 ?c40 ?k40 ?a41 ?l41 ?c41 ?k41 ?a42 ?l42 ?c42 ?k42 ?a43 ?l43 ?c43 ?k43 ?a44 ?l44 ?c44 ?k44 ?a45 ?l45 ?c45 ?k45 ?a46 ?l46 ?c46 ?k46 ?a47 ?l47 ?c47 ?k47 ?a48 ?l48 ?c48 ?k48 ?a49 ?l49 ?c49 ?k49 ?a50 ?l50 ?c50 ?k50 ?a51 ?l51 ?c51 ?k51 ?a52 ?l52 ?c52 ?k52 ?lc52 ?v1152 ?tq52 ?tt52 ?tn52 ?z_ValueError ?z_len ?z_isinstance ?z_max ?z_min ?z_sum ?z_all ?z_tuple ?z_list ?z_abs ?z_range ?z_zip ?z_bool ?z_int ?z_divmod ?v_LAST_MOMENT ?v_MOST_DRAWING ?v_MOST_HOLD ?v_MOST_ROWS ?v_MOST_WAY ?v_MOST_MANY ?v_MOST_MOVES ?v_MOST_LAYERS ?x0 ?x1 ?x2 ?x3 ?x4 ?x5 ?x6 ?x7 ?x8 ?x9 ?x10 ?x11 ?x12 ?x13 ?x14 ?x15 ?xL ?xb ?nm1 ?nm2 ?nm3 ?xoTooMany ?xrTooMany ?saTooMany ?iITooMany ?tITooMany ?lITooMany ?cITooMany ?kITooMany
    (case a0 => k_is)
    (case l0 => k_is)
    (case c0 => k_is)
    (case k0 => k_is)
    (case a1 => k_is)
    (case l1 => k_is)
    (case c1 => k_is)
    (case k1 => k_is)
    (case a2 => k_is)
    (case l2 => k_is)
    (case c2 => k_is)
    (case k2 => k_is)
    (case a3 => k_is)
    (case l3 => k_is)
    (case c3 => k_is)
    (case k3 => k_is)
    (case a4 => k_is)
    (case l4 => k_is)
    (case c4 => k_is)
    (case k4 => k_is)
    (case a5 => k_is)
    (case l5 => k_is)
    (case c5 => k_is)
    (case k5 => k_is)
    (case a6 => k_is)
    (case l6 => k_is)
    (case c6 => k_is)
    (case k6 => k_is)
    (case a7 => k_is)
    (case l7 => k_is)
    (case c7 => k_is)
    (case k7 => k_is)
    (case a8 => k_is)
    (case l8 => k_is)
    (case c8 => k_is)
    (case k8 => k_is)
    (case a9 => k_is)
    (case l9 => k_is)
    (case c9 => k_is)
    (case k9 => k_is)
    (case a10 => k_is)
    (case l10 => k_is)
    (case c10 => k_is)
    (case k10 => k_is)
    (case a11 => k_is)
    (case l11 => k_is)
    (case c11 => k_is)
    (case k11 => k_is)
    (case a12 => k_is)
    (case l12 => k_is)
    (case c12 => k_is)
    (case k12 => k_is)
    (case a13 => k_is)
    (case l13 => k_is)
    (case c13 => k_is)
    (case k13 => k_is)
    (case a14 => k_is)
    (case l14 => k_is)
    (case c14 => k_is)
    (case k14 => k_is)
    (case a15 => k_is)
    (case l15 => k_is)
    (case c15 => k_is)
    (case k15 => k_is)
    (case a16 => k_is)
    (case l16 => k_is)
    (case c16 => k_is)
    (case k16 => k_is)
    (case a17 => k_is)
    (case l17 => k_is)
    (case c17 => k_is)
    (case k17 => k_is)
    (case a18 => k_is)
    (case l18 => k_is)
    (case c18 => k_is)
    (case k18 => k_is)
    (case a19 => k_is)
    (case l19 => k_is)
    (case c19 => k_is)
    (case k19 => k_is)
    (case a20 => k_is)
    (case l20 => k_is)
    (case c20 => k_is)
    (case k20 => k_is)
    (case a21 => k_is)
    (case l21 => k_is)
    (case c21 => k_is)
    (case k21 => k_is)
    (case a22 => k_is)
    (case l22 => k_is)
    (case c22 => k_is)
    (case k22 => k_is)
    (case a23 => k_is)
    (case l23 => k_is)
    (case c23 => k_is)
    (case k23 => k_is)
    (case a24 => k_is)
    (case l24 => k_is)
    (case c24 => k_is)
    (case k24 => k_is)
    (case a25 => k_is)
    (case l25 => k_is)
    (case c25 => k_is)
    (case k25 => k_is)
    (case a26 => k_is)
    (case l26 => k_is)
    (case c26 => k_is)
    (case k26 => k_is)
    (case a27 => k_is)
    (case l27 => k_is)
    (case c27 => k_is)
    (case k27 => k_is)
    (case a28 => k_is)
    (case l28 => k_is)
    (case c28 => k_is)
    (case k28 => k_is)
    (case a29 => k_is)
    (case l29 => k_is)
    (case c29 => k_is)
    (case k29 => k_is)
    (case a30 => k_is)
    (case l30 => k_is)
    (case c30 => k_is)
    (case k30 => k_is)
    (case a31 => k_is)
    (case l31 => k_is)
    (case c31 => k_is)
    (case k31 => k_is)
    (case a32 => k_is)
    (case l32 => k_is)
    (case c32 => k_is)
    (case k32 => k_is)
    (case a33 => k_is)
    (case l33 => k_is)
    (case c33 => k_is)
    (case k33 => k_is)
    (case a34 => k_is)
    (case l34 => k_is)
    (case c34 => k_is)
    (case k34 => k_is)
    (case a35 => k_is)
    (case l35 => k_is)
    (case c35 => k_is)
    (case k35 => k_is)
    (case a36 => k_is)
    (case l36 => k_is)
    (case c36 => k_is)
    (case k36 => k_is)
    (case a37 => k_is)
    (case l37 => k_is)
    (case c37 => k_is)
    (case k37 => k_is)
    (case a38 => k_is)
    (case l38 => k_is)
    (case c38 => k_is)
    (case k38 => k_is)
    (case a39 => k_is)
    (case l39 => k_is)
    (case c39 => k_is)
    (case k39 => k_is)
    (case a40 => k_is)
    (case l40 => k_is)
    (case c40 => k_is)
    (case k40 => k_is)
    (case a41 => k_is)
    (case l41 => k_is)
    (case c41 => k_is)
    (case k41 => k_is)
    (case a42 => k_is)
    (case l42 => k_is)
    (case c42 => k_is)
    (case k42 => k_is)
    (case a43 => k_is)
    (case l43 => k_is)
    (case c43 => k_is)
    (case k43 => k_is)
    (case a44 => k_is)
    (case l44 => k_is)
    (case c44 => k_is)
    (case k44 => k_is)
    (case a45 => k_is)
    (case l45 => k_is)
    (case c45 => k_is)
    (case k45 => k_is)
    (case a46 => k_is)
    (case l46 => k_is)
    (case c46 => k_is)
    (case k46 => k_is)
    (case a47 => k_is)
    (case l47 => k_is)
    (case c47 => k_is)
    (case k47 => k_is)
    (case a48 => k_is)
    (case l48 => k_is)
    (case c48 => k_is)
    (case k48 => k_is)
    (case a49 => k_is)
    (case l49 => k_is)
    (case c49 => k_is)
    (case k49 => k_is)
    (case a50 => k_is)
    (case l50 => k_is)
    (case c50 => k_is)
    (case k50 => k_is)
    (case a51 => k_is)
    (case l51 => k_is)
    (case c51 => k_is)
    (case k51 => k_is)
    (case a52 => k_is)
    (case l52 => k_is)
    (case c52 => k_is)
    (case k52 => k_is)
    (case lc52 => k_is)
    (case v1152 => rfl)
    (case tq52 => kernel_rfl)
    (case tt52 => kernel_rfl)
    (case tn52 => kernel_rfl)
    (case z_ValueError => k_is)
    (case z_len => k_is)
    (case z_isinstance => k_is)
    (case z_max => k_is)
    (case z_min => k_is)
    (case z_sum => k_is)
    (case z_all => k_is)
    (case z_tuple => k_is)
    (case z_list => k_is)
    (case z_abs => k_is)
    (case z_range => k_is)
    (case z_zip => k_is)
    (case z_bool => k_is)
    (case z_int => k_is)
    (case z_divmod => k_is)
    (case v_LAST_MOMENT => k_is)
    (case v_MOST_DRAWING => k_is)
    (case v_MOST_HOLD => k_is)
    (case v_MOST_ROWS => k_is)
    (case v_MOST_WAY => k_is)
    (case v_MOST_MANY => k_is)
    (case v_MOST_MOVES => k_is)
    (case v_MOST_LAYERS => k_is)
    (case x0 => k_is)
    (case x1 => k_is)
    (case x2 => k_is)
    (case x3 => k_is)
    (case x4 => k_is)
    (case x5 => k_is)
    (case x6 => k_is)
    (case x7 => k_is)
    (case x8 => k_is)
    (case x9 => k_is)
    (case x10 => k_is)
    (case x11 => k_is)
    (case x12 => k_is)
    (case x13 => k_is)
    (case x14 => k_is)
    (case x15 => k_is)
    (case xL => k_is)
    (case xb => kernel_rfl)
    (case nm1 => k_is)
    (case nm2 => k_is)
    (case nm3 => k_is)
    (case xoTooMany => k_is)
    (case xrTooMany => decide +kernel)
    (case saTooMany => k_is)
    (case iITooMany => k_is)
    (case tITooMany => k_is)
    (case lITooMany => k_is)
    (case cITooMany => k_is)
    (case kITooMany => k_is)
