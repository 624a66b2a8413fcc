import PyProof.Rows.All
import Wide.All
import OpenK.AllK
import Wide.FinOn
import HandS.ForMost
import HandS.IsInst
import HandS.TupAny
import HandS.TupMul
import HandS.Conv
import HandS.Style
import HandS.Flow
import HandS.Codes
import HandS.Zip
import KE.GoesNew
import HandS.Lambda
import HandS.EndTab
import HandS.ExcInit
import HandS.ExcField
import HandS.ExcIs
import HandS.HotCalls
import HandS.TryOnly
import HandS.WordsExc
import HandS.ExcOwn
import HandS.Small
import HandS.FStr
import KE.KExcIs
import HandS.SetFor
import HandS.Strs
import KE.KDictZip
import HandS.SortKw
import KE.DataMinMax
import HandS.Flt
import HandS.RaiseMore
import PySem.Challenge.RW_lanternrows_k08_drawings_folded
set_option Elab.async false
set_option linter.all false
set_option maxRecDepth 100000
set_option maxHeartbeats 4000000
namespace Lan
open PySem PySem.Spec PyProof.Rows L2
/-! ### short rules -/
def bkV : Option Int → V
  | none => .non
  | some i => .int i
structure Cl (P : Program) (w : World) (K : PySem.W.Frag) (mg : Str → Option Value) (base : Heap) (k : Nat) (x : Str) (ps : List Str) (sp : Sp) : Prop where
  ex : ∃ (f : Addr) (fd : FuncData), FnOk P w K mg base CX0 k f fd ps sp ∧ PySem.W.keepIn K (.ref f) = true ∧ Binds K fd ps [] ∧ mg x = some (.ref f)
section
variable {X : Cx}
theorem pe_gint {x : Str} {pos : Pos} {n : Int} (hg : Gl X x) (h : ∃ t, X.mg x = some (.int n t)) (hd : (x == ("__debug__" : Str)) = false := by decide) : PE X (.Name x pos) (tC (.int n)) := by
  obtain ⟨t, h⟩ := h
  exact pe_glob hg h ⟨_, rfl⟩ hd
theorem pe_own {k : Nat} {x : Str} {ps : List Str} {sp : Sp} {e : Expr} {es : List Expr} {t : TA} {p pos : Pos} (C : Cl X.prog X.w X.K X.mg X.base k x ps sp) (hr : Room k X.A) (hg : Gl X x) (ha : PA X (e :: es) t)
    (hdb : (x == ("__debug__" : Str)) = false := by decide) (he : starEach (e :: es) X.env = (false, eval e X.env) :: starEach es X.env := by rfl) (hpl : (backTo pos (starEach es X.env)).any (·.1) = false := by rfl) :
    PE X (.Call (.Name x p) (e :: es) [] pos) (tCall sp [] E0 t) := by
  obtain ⟨f, fd, F, hk, hb, hm⟩ := C.ex
  exact pe_call F hr hg hm hk hb .nil pass0 ha hdb he hpl
def tPartN (t : TE) : TO := fun σ H Q => t σ H fun x H1 => ∃ o : Option Int, x = bkV o ∧ Q o H1
theorem po_opt {e : Expr} {te : TE} (h : PE X e te) : PO X (some e) (tPartN te) := by
  refine ⟨fun pins s σ H Q I hw => ?_⟩
  rw [evalPart_some]
  refine thn (h.run pins s σ H _ I hw) fun u s1 ⟨x, H1, I1, r1, q1⟩ => ?_
  obtain ⟨o, rfl, q⟩ := q1
  cases o with
  | none =>
    cases r1
    exact ⟨none, H1, I1, .none, q⟩
  | some i =>
    obtain ⟨t, rfl⟩ := r1
    exact ⟨some i, H1, I1, .int i t, q⟩
end
/-! ### heaps -/
theorem same_upd {H : Hp} {p : Addr} {o : HO} (h : H p = none) : Same H (upd H p o) := fun b x e => by
  rw [upd_ne (ne_of_none e h)]
  exact e
theorem new_at {H : Hp} {p : Addr} (o : HO) (h : H p = none) : Same H (upd H p o) ∧ (upd H p o) p = some o := ⟨same_upd h, upd_same⟩
theorem Same.sqT {K : PySem.W.Frag} {H H' : Hp} {a : Addr} {xs : List V} (e : Same H H') (h : SqT K H a xs) : SqT K H' a xs := by
  rcases h with (h | ⟨o, h⟩) | h
  · exact .inl (.inl (e _ _ h))
  · exact .inl (.inr ⟨o, e _ _ h⟩)
  · exact .inr h
def IsSt (H : Hp) (st : Addr) : Prop := ∃ a b : Int, H st = some (.lst [.int a, .int b]) ∧ 0 ≤ a ∧ 0 ≤ b ∧ b < 2147483647
/-- all but the state at st stands, and st holds a state as before -/
def Gr (st : Addr) (H H' : Hp) : Prop := (∀ b o, b ≠ st → H b = some o → H' b = some o) ∧ (IsSt H st → IsSt H' st)
theorem Gr.refl {st : Addr} {H : Hp} : Gr st H H := ⟨fun _ _ _ h => h, id⟩
theorem Gr.trans {st : Addr} {H H1 H2 : Hp} (a : Gr st H H1) (b : Gr st H1 H2) : Gr st H H2 := ⟨fun c o n h => b.1 c o n (a.1 c o n h), fun h => b.2 (a.2 h)⟩
theorem gr_same {st : Addr} {H H' : Hp} (s : Same H H') : Gr st H H' := ⟨fun b o _ h => s b o h, fun ⟨a, b, h, r⟩ => ⟨a, b, s _ _ h, r⟩⟩
theorem gr_set {st : Addr} {H : Hp} {a b : Int} (h0 : 0 ≤ a) (h1 : 0 ≤ b) (h2 : b < 2147483647) : Gr st H (upd H st (.lst [.int a, .int b])) :=
  ⟨fun c o n h => by rw [upd_ne n]; exact h, fun _ => ⟨a, b, upd_same, h0, h1, h2⟩⟩
theorem Gr.sqT {st : Addr} {K : PySem.W.Frag} {H H' : Hp} {a : Addr} {xs : List V} (g : Gr st H H') (s : IsSt H st) (h : SqT K H a xs) : SqT K H' a xs := by
  obtain ⟨u, v, hs, _⟩ := s
  rcases h with (h | ⟨o, h⟩) | h
  · exact .inl (.inl (g.1 _ _ (ne_of h hs (by intro z; cases z)) h))
  · exact .inl (.inr ⟨o, g.1 _ _ (ne_of h hs (by intro z; cases z)) h⟩)
  · exact .inr h
/-- behind a state that was not there before -/
theorem Gr.same {st : Addr} {H H1 H2 : Hp} (g : Gr st H1 H2) (s : Same H H1) (n : H st = none) : Same H H2 := fun b o h => g.1 b o (ne_of_none h n) (s b o h)
theorem tyT {K : PySem.W.Frag} {H : Hp} {a : Addr} {xs : List V} (h : SqT K H a xs) : TyX K H (.ref a) (.type "tuple") := by
  rcases h with (h | ⟨o, h⟩) | ⟨o, its, n, h, c, _⟩
  · exact .base (.tup h)
  · exact .fTuple h
  · exact .kTuple h c
theorem yes_ok {σ : L2.St} {H : Hp} {te : TE} {R : VK} {Z : Hp → Prop} (h : te σ H R) : tYes σ H (fun b H3 => if b = true then te σ H3 R else Z H3) := by
  show if true = true then te σ H R else Z H
  rw [if_pos rfl]
  exact h
/-! ### comprehensions that make one value an item and leave the heap -/
theorem lcmap_tup {K : PySem.W.Frag} {a : Addr} {xs : List V} {g : TG} {tt : TT} {te : TE} {vs : List Nat} {σ : L2.St} {H1 : Hp} {D : Addr} {Qd : Hp → Prop} (ys : List V) (hl : ys.length = xs.length) (hz : xs.length ≤ 1000) (hS : SqT K H1 a xs) (hD : H1 D = none)
    (hs : ∀ (i : Nat) (x y : V) (H : Hp) (R : V → Hp → Prop) (Z : Hp → Prop), xs[i]? = some x → ys[i]? = some y → Same H1 H → (∀ H4, Same H H4 → R y H4) → g x (wipe σ vs) H fun σ2 H2 => wipe σ2 vs = wipe σ vs ∧ tt σ2 H2 fun b H3 => if b = true then te σ2 H3 R else Z H3)
    (hd : ∀ H, Same H1 H → H D = some (.lst ys) → Qd H) :
    ∃ W : Nat → Nat → Hp → Prop, (∃ m, W 0 m (upd H1 D (.lst []))) ∧ ∀ i m H, W i m H →
      ((Itt K a).stop i H ∧ Qd H) ∨ ((Itt K a).go i H ∧ ∃ Nx : Hp → Prop, (∀ H', Nx H' → ∃ m', m' < m ∧ W (i + 1) m' H') ∧ ∀ x H', (Itt K a).yld i H x H' → g x (wipe σ vs) H' fun σ2 H2 => wipe σ2 vs = wipe σ vs ∧ tt σ2 H2 fun b H3 =>
        if b = true then te σ2 H3 fun y H4 => ∃ acc, H4 D = some (.lst acc) ∧ acc.length < sizeLine ∧ Nx (upd H4 D (.lst (acc ++ [y]))) else Nx H3) := by
  refine lc_tup (K := K) (a := a) (xs := xs) (fun i H => Same H1 H ∧ H D = some (.lst (ys.take i))) ⟨same_upd hD, upd_same⟩ (fun i H _ p => Same.sqT p.1 hS) (fun i x H hx p => ?_) (fun H p => ?_)
  · have hi : i < xs.length := (List.getElem?_eq_some_iff.mp hx).1
    obtain ⟨y, hy⟩ : ∃ y, ys[i]? = some y := ⟨_, List.getElem?_eq_getElem (by omega)⟩
    refine hs i x y H _ _ hx hy p.1 (fun H4 s4 => ⟨ys.take i, s4 _ _ p.2, ?_, ?_, ?_⟩)
    · rw [List.length_take]
      exact Nat.lt_of_le_of_lt (Nat.min_le_left _ _) (small1000 (by omega))
    · intro b o e
      rw [upd_ne (ne_of_none e hD)]
      exact s4 _ _ (p.1 _ _ e)
    · rw [upd_same, List.take_add_one, hy]
      rfl
  · refine hd H p.1 ?_
    rw [p.2, List.take_of_length_le (by omega)]
/-! ### paired lists -/
theorem Paired.mono {α β : Type} {F G : α → β → Prop} {l₁ : List α} {l₂ : List β} (p : Paired F l₁ l₂) (f : ∀ a b, F a b → G a b) : Paired G l₁ l₂ := Paired.mapP p f
theorem Paired.takeP {α β : Type} {F : α → β → Prop} : ∀ {l₁ : List α} {l₂ : List β} (n : Nat), Paired F l₁ l₂ → Paired F (l₁.take n) (l₂.take n)
  | _, _, 0, _ => .nil
  | _, _, _ + 1, .nil => .nil
  | _, _, n + 1, .cons r t => .cons r (Paired.takeP n t)
theorem Paired.dropP {α β : Type} {F : α → β → Prop} : ∀ {l₁ : List α} {l₂ : List β} (n : Nat), Paired F l₁ l₂ → Paired F (l₁.drop n) (l₂.drop n)
  | _, _, 0, p => p
  | _, _, _ + 1, .nil => .nil
  | _, _, n + 1, .cons _ t => Paired.dropP n t
theorem Paired.at {α β : Type} {F : α → β → Prop} : ∀ {l₁ : List α} {l₂ : List β} {i : Nat} {x : α}, Paired F l₁ l₂ → l₁[i]? = some x → ∃ y, l₂[i]? = some y ∧ F x y
  | _, _, i, x, .nil, h => by simp at h
  | _, _, 0, x, .cons (a := a) r t, h => by
    have e : _ = x := Option.some.inj h
    subst e
    exact ⟨_, rfl, r⟩
  | _, _, i + 1, x, .cons r t, h => Paired.at (i := i) t h
theorem Paired.at2 {α β : Type} {F : α → β → Prop} : ∀ {l₁ : List α} {l₂ : List β} {i : Nat} {y : β}, Paired F l₁ l₂ → l₂[i]? = some y → ∃ x, l₁[i]? = some x ∧ F x y
  | _, _, i, y, .nil, h => by simp at h
  | _, _, 0, y, .cons r t, h => by
    have e : _ = y := Option.some.inj h
    subst e
    exact ⟨_, rfl, r⟩
  | _, _, i + 1, y, .cons r t, h => Paired.at2 (i := i) t h
theorem Paired.snocP {α β : Type} {F : α → β → Prop} : ∀ {l₁ : List α} {l₂ : List β} {x : α} {y : β}, Paired F l₁ l₂ → F x y → Paired F (l₁ ++ [x]) (l₂ ++ [y])
  | _, _, _, _, .nil, h => .cons h .nil
  | _, _, _, _, .cons r t, h => .cons r (Paired.snocP t h)
/-! ### rows, layers as they lie in the heap -/
abbrev RW := Int × Int
def RowAt (K : PySem.W.Frag) (H : Hp) (v : V) (r : RW) : Prop := ∃ p, v = .ref p ∧ SqT K H p [.int r.1, .int r.2]
def RowsAt (K : PySem.W.Frag) (H : Hp) (v : V) (rs : List RW) : Prop := ∃ p vs, v = .ref p ∧ SqT K H p vs ∧ Paired (RowAt K H) vs rs
def LayAt (K : PySem.W.Frag) (H : Hp) (v : V) (rs : List RW) (bk : Option Int) : Prop := ∃ p rv, v = .ref p ∧ SqT K H p [rv, bkV bk] ∧ RowsAt K H rv rs
def VRow (r : RW) : Prop := 0 ≤ r.1 ∧ r.1 ≤ 9 ∧ 1 ≤ r.2 ∧ r.2 ≤ 24
def VRows (rs : List RW) : Prop := rs.length ≤ 8 ∧ ∀ r ∈ rs, VRow r
def VBack (rs : List RW) (bk : Option Int) : Prop := ∀ i, bk = some i → 0 ≤ i ∧ i < rs.length
abbrev TKeep (K : PySem.W.Frag) (H H' : Hp) : Prop := ∀ a xs, SqT K H a xs → SqT K H' a xs
theorem Same.tk {K : PySem.W.Frag} {H H' : Hp} (s : Same H H') : TKeep K H H' := fun _ _ h => Same.sqT s h
theorem Gr.tk {st : Addr} {K : PySem.W.Frag} {H H' : Hp} (g : Gr st H H') (s : IsSt H st) : TKeep K H H' := fun _ _ h => g.sqT s h
theorem RowAt.keep {K : PySem.W.Frag} {H H' : Hp} {v : V} {r : RW} (k : TKeep K H H') : RowAt K H v r → RowAt K H' v r := fun ⟨p, e, h⟩ => ⟨p, e, k _ _ h⟩
theorem RowsAt.keep {K : PySem.W.Frag} {H H' : Hp} {v : V} {rs : List RW} (k : TKeep K H H') : RowsAt K H v rs → RowsAt K H' v rs := fun ⟨p, vs, e, h, q⟩ => ⟨p, vs, e, k _ _ h, Paired.mono q fun _ _ => RowAt.keep k⟩
theorem LayAt.keep {K : PySem.W.Frag} {H H' : Hp} {v : V} {rs : List RW} {bk : Option Int} (k : TKeep K H H') : LayAt K H v rs bk → LayAt K H' v rs bk := fun ⟨p, rv, e, h, q⟩ => ⟨p, rv, e, k _ _ h, q.keep k⟩
/-! ### what a layer shows -/
def tot (rs : List RW) : Int := (rs.map (·.2)).sum
theorem tot_nil : tot [] = 0 := rfl
theorem tot_cons (r : RW) (rs : List RW) : tot (r :: rs) = r.2 + tot rs := by
  unfold tot
  rw [List.map_cons, List.sum_cons]
theorem tot_append (rs qs : List RW) : tot (rs ++ qs) = tot rs + tot qs := by
  induction rs with
  | nil => simp [tot_nil]
  | cons r t ih =>
    rw [List.cons_append, tot_cons, tot_cons, ih]
    omega
theorem tot_split (rs : List RW) (k : Nat) : tot rs = tot (rs.take k) + tot (rs.drop k) := by
  rw [← tot_append, List.take_append_drop]
theorem tot_nonneg : ∀ {rs : List RW}, (∀ r ∈ rs, VRow r) → (rs.length : Int) ≤ tot rs ∧ tot rs ≤ 24 * rs.length
  | [], _ => by
    rw [tot_nil]
    exact ⟨Int.le_refl _, Int.le_refl _⟩
  | r :: t, h => by
    have h1 := h r (List.mem_cons_self ..)
    have ih := tot_nonneg (rs := t) fun q hq => h q (List.mem_cons_of_mem _ hq)
    rw [tot_cons, List.length_cons]
    obtain ⟨_, _, h3, h4⟩ := h1
    obtain ⟨i1, i2⟩ := ih
    constructor <;> omega
def walk : List RW → Int → Int
  | [], _ => 0
  | r :: t, m => if m < r.2 then r.1 else walk t (m - r.2)
def near (rs : List RW) (bk : Option Int) (m : Int) : Int := match bk with
  | none => m
  | some b => if m < tot (rs.take b.toNat) then m else tot (rs.take b.toNat) + (m - tot (rs.take b.toNat)) % tot (rs.drop b.toNat)
def shown (rs : List RW) (bk : Option Int) (m : Int) : Int := walk rs (near rs bk m)
theorem walk_out : ∀ (rs : List RW) (m : Int), tot rs ≤ m → (∀ r ∈ rs, VRow r) → walk rs m = 0
  | [], _, _, _ => rfl
  | r :: t, m, h, v => by
    have v1 := v r (List.mem_cons_self ..)
    have vt : ∀ q ∈ t, VRow q := fun q hq => v q (List.mem_cons_of_mem _ hq)
    have t0 := (tot_nonneg vt).1
    rw [tot_cons] at h
    unfold walk
    rw [if_neg (by omega)]
    exact walk_out t _ (by omega) vt
theorem walk_at : ∀ (rs : List RW) (p : Nat) (r : RW) (j : Int), rs[p]? = some r → (∀ r ∈ rs, VRow r) → 0 ≤ j → j < r.2 → walk rs (tot (rs.take p) + j) = r.1
  | [], p, r, j, h, _, _, _ => by simp at h
  | q :: t, 0, r, j, h, _, h0, h1 => by
    have e : q = r := Option.some.inj h
    subst e
    rw [List.take_zero, tot_nil]
    unfold walk
    rw [if_pos (by omega)]
  | q :: t, p + 1, r, j, h, v, h0, h1 => by
    have vq := v q (List.mem_cons_self ..)
    have vt : ∀ q ∈ t, VRow q := fun q hq => v q (List.mem_cons_of_mem _ hq)
    have tp : 0 ≤ tot (t.take p) := by
      have := (tot_nonneg (rs := t.take p) fun q hq => vt q (List.mem_of_mem_take hq)).1
      omega
    rw [List.take_succ_cons, tot_cons]
    unfold walk
    rw [if_neg (by omega), show q.2 + tot (t.take p) + j - q.2 = tot (t.take p) + j by omega]
    exact walk_at t p r j h vt h0 h1
theorem tot_take_le {rs : List RW} (v : ∀ r ∈ rs, VRow r) {p : Nat} {r : RW} (h : rs[p]? = some r) : tot (rs.take p) + r.2 ≤ tot rs := by
  have hp : p < rs.length := (List.getElem?_eq_some_iff.mp h).1
  have e : rs.take (p + 1) = rs.take p ++ [r] := by
    rw [List.take_add_one, h]
    rfl
  have s := tot_split rs (p + 1)
  rw [e, tot_append] at s
  have e1 : tot [r] = r.2 := by
    rw [tot_cons, tot_nil]
    omega
  have := (tot_nonneg (rs := rs.drop (p + 1)) fun q hq => v q (List.mem_of_mem_drop hq)).1
  omega
/-- the j-th picture of the row p, behind k more rounds -/
theorem shown_at {rs : List RW} {bk : Option Int} (v : ∀ r ∈ rs, VRow r) (vb : VBack rs bk) {p k : Nat} {r : RW} {j c : Int} (h : rs[p]? = some r) (h0 : 0 ≤ j) (h1 : j < r.2)
    (hc : ∀ b, bk = some b → c = tot (rs.drop b.toNat)) (hk : 0 < k → ∃ b, bk = some b ∧ b ≤ p) : shown rs bk (tot (rs.take p) + k * c + j) = r.1 := by
  have w := walk_at rs p r j h v h0 h1
  have tp : 0 ≤ tot (rs.take p) := by
    have := (tot_nonneg (rs := rs.take p) fun q hq => v q (List.mem_of_mem_take hq)).1
    omega
  unfold shown near
  cases bk with
  | none =>
    have k0 : k = 0 := by
      rcases Nat.eq_zero_or_pos k with z | z
      · exact z
      · obtain ⟨b, e, _⟩ := hk z
        cases e
    subst k0
    dsimp only
    rw [show tot (rs.take p) + ((0 : Nat) : Int) * c + j = tot (rs.take p) + j by simp]
    exact w
  | some b =>
    have hb := vb b rfl
    have ec := hc b rfl
    have s := tot_split rs b.toNat
    have le := tot_take_le v h
    rw [← ec] at s
    dsimp only
    rw [← ec]
    have cpos : 0 < c := by
      have := (tot_nonneg (rs := rs.drop b.toNat) fun q hq => v q (List.mem_of_mem_drop hq)).1
      rw [← ec, List.length_drop] at this
      omega
    rcases Nat.eq_zero_or_pos k with z | z
    · subst z
      rw [show tot (rs.take p) + ((0 : Nat) : Int) * c + j = tot (rs.take p) + j by simp]
      by_cases hm : tot (rs.take p) + j < tot (rs.take b.toNat)
      · rw [if_pos hm]
        exact w
      · rw [if_neg hm, Int.emod_eq_of_lt (by omega) (by omega)]
        rw [show tot (rs.take b.toNat) + (tot (rs.take p) + j - tot (rs.take b.toNat)) = tot (rs.take p) + j by omega]
        exact w
    · obtain ⟨b', e, hbp⟩ := hk z
      have e' : b = b' := Option.some.inj e
      subst e'
      have bp : b.toNat ≤ p := by omega
      have tb : tot (rs.take b.toNat) ≤ tot (rs.take p) := by
        have e1 : rs.take b.toNat = (rs.take p).take b.toNat := by
          rw [List.take_take, Nat.min_eq_left bp]
        have s1 := tot_split (rs.take p) b.toNat
        rw [← e1] at s1
        have := (tot_nonneg (rs := (rs.take p).drop b.toNat) fun q hq => v q (List.mem_of_mem_take (List.mem_of_mem_drop hq))).1
        omega
      have kc : 0 ≤ (k : Int) * c := Int.mul_nonneg (by omega) (by omega)
      rw [if_neg (by omega)]
      rw [show tot (rs.take p) + (k : Int) * c + j - tot (rs.take b.toNat) = (tot (rs.take p) + j - tot (rs.take b.toNat)) + c * k by rw [Int.mul_comm c]; omega, Int.add_mul_emod_self_left, Int.emod_eq_of_lt (by omega) (by omega)]
      rw [show tot (rs.take b.toNat) + (tot (rs.take p) + j - tot (rs.take b.toNat)) = tot (rs.take p) + j by omega]
      exact w
theorem shown_end {rs : List RW} (v : ∀ r ∈ rs, VRow r) {m : Int} (h : tot rs ≤ m) : shown rs none m = 0 := walk_out rs m h v
/-- a great moment is as the one so many whole rounds ahead -/
theorem shown_far {rs : List RW} {bk : Option Int} (v : ∀ r ∈ rs, VRow r) (vb : VBack rs bk) {m s : Int} (hs : s = match bk with | none => 1 | some b => tot (rs.drop b.toNat)) (h : tot rs ≤ m) :
    shown rs bk (tot rs + (m - tot rs) % s) = shown rs bk m := by
  cases bk with
  | none =>
    dsimp only at hs
    subst hs
    rw [shown_end v h, shown_end v (by omega)]
  | some b =>
    dsimp only at hs
    have hb := vb b rfl
    have e := tot_split rs b.toNat
    have spos : 0 < s := by
      have := (tot_nonneg (rs := rs.drop b.toNat) fun q hq => v q (List.mem_of_mem_drop hq)).1
      rw [← hs, List.length_drop] at this
      omega
    have hm := Int.emod_nonneg (m - tot rs) (show s ≠ 0 by omega)
    unfold shown near
    dsimp only
    rw [← hs] at e ⊢
    rw [if_neg (by omega), if_neg (by omega)]
    congr 2
    rw [show tot rs + (m - tot rs) % s - tot (rs.take b.toNat) = (m - tot rs) % s + s * 1 by omega, Int.add_mul_emod_self_left, Int.emod_emod,
      show m - tot (rs.take b.toNat) = (m - tot rs) + s * 1 by omega, Int.add_mul_emod_self_left]
theorem shown_walk_none (rs : List RW) (m : Int) : shown rs none m = walk rs m := rfl
/-! ### slices -/
theorem cut_to (xs : List V) (k : Nat) : cutV xs none (some (k : Int)) = xs.take k := by
  unfold cutV
  rw [HT.sIx_none, HT.sIx_nat, List.drop_zero, Nat.sub_zero]
  rcases Nat.le_total k xs.length with h | h
  · rw [Nat.min_eq_left h]
  · rw [Nat.min_eq_right h, List.take_length, List.take_of_length_le h]
theorem cut_from (xs : List V) (k : Nat) : cutV xs (some (k : Int)) none = xs.drop k := by
  unfold cutV
  rw [HT.sIx_none, HT.sIx_nat]
  rcases Nat.le_total k xs.length with h | h
  · rw [Nat.min_eq_left h, List.take_of_length_le (by rw [List.length_drop]; omega)]
  · rw [Nat.min_eq_right h, Nat.sub_self, List.take_zero, List.drop_of_length_le h]
theorem cut_all (xs : List V) : cutV xs none none = xs := by
  unfold cutV
  rw [HT.sIx_none, HT.sIx_none, List.drop_zero, Nat.sub_zero, List.take_length]
theorem cut_whole {xs : List V} {lo hi : Option Int} (h : HT.sIx xs.length 0 lo = 0 ∧ HT.sIx xs.length xs.length hi = xs.length) : cutV xs lo hi = xs := by
  unfold cutV
  rw [h.1, h.2, List.drop_zero, Nat.sub_zero, List.take_length]
theorem sl_rows {K : PySem.W.Frag} {H : Hp} {a : Addr} {xs : List V} {lo hi : Option Int} (rs : List RW) {R : VK} (hS : SqT K H a xs) (hp : Paired (RowAt K H) (cutV xs lo hi) rs) (h : ∀ H' v, Same H H' → RowsAt K H' v rs → R v H') :
    rSlA K (.ref a) lo hi H R := by
  refine ⟨a, xs, rfl, hS, fun w => h H _ (Same.refl _) ⟨a, xs, rfl, hS, ?_⟩, fun _ p np => ?_⟩
  · rw [cut_whole w] at hp
    exact hp
  · have s := same_upd (o := .tup (cutV xs lo hi)) np
    exact h _ _ s ⟨p, _, rfl, .inl (.inl upd_same), Paired.mono hp fun _ _ => RowAt.keep (Same.tk s)⟩
/-! ### windows -/
abbrev MV := Int × Int × Int
def MoveAt (K : PySem.W.Frag) (H : Hp) (v : V) (m : MV) : Prop := ∃ p, v = .ref p ∧ SqT K H p [.int m.1, .int m.2.1, .int m.2.2]
def MovesAt (K : PySem.W.Frag) (H : Hp) (v : V) (ms : List MV) : Prop := ∃ p vs, v = .ref p ∧ SqT K H p vs ∧ Paired (MoveAt K H) vs ms
def WinAt (K : PySem.W.Frag) (H : Hp) (v : V) (x y : Int) (ms : List MV) : Prop := ∃ p mv, v = .ref p ∧ SqT K H p [.int x, .int y, mv] ∧ MovesAt K H mv ms
def VMove (m : MV) : Prop := (-20 ≤ m.1 ∧ m.1 ≤ 20) ∧ (-20 ≤ m.2.1 ∧ m.2.1 ≤ 20) ∧ 0 ≤ m.2.2 ∧ m.2.2 ≤ 24
def VWin (x y : Int) (ms : List MV) : Prop := (-20 ≤ x ∧ x ≤ 20) ∧ (-20 ≤ y ∧ y ≤ 20) ∧ ms.length ≤ 8 ∧ ∀ m ∈ ms, VMove m
theorem MoveAt.keep {K : PySem.W.Frag} {H H' : Hp} {v : V} {m : MV} (k : TKeep K H H') : MoveAt K H v m → MoveAt K H' v m := fun ⟨p, e, h⟩ => ⟨p, e, k _ _ h⟩
theorem MovesAt.keep {K : PySem.W.Frag} {H H' : Hp} {v : V} {ms : List MV} (k : TKeep K H H') : MovesAt K H v ms → MovesAt K H' v ms := fun ⟨p, vs, e, h, q⟩ => ⟨p, vs, e, k _ _ h, Paired.mono q fun _ _ => MoveAt.keep k⟩
theorem WinAt.keep {K : PySem.W.Frag} {H H' : Hp} {v : V} {x y : Int} {ms : List MV} (k : TKeep K H H') : WinAt K H v x y ms → WinAt K H' v x y ms := fun ⟨p, mv, e, h, q⟩ => ⟨p, mv, e, k _ _ h, q.keep k⟩
def mtot (ms : List MV) : Int := (ms.map (·.2.2)).sum
/-! ### sheets -/
abbrev LY := List RW × Option Int
def LyAt (K : PySem.W.Frag) (H : Hp) (v : V) (l : LY) : Prop := LayAt K H v l.1 l.2
def LaysAt (K : PySem.W.Frag) (H : Hp) (v : V) (ls : List LY) : Prop := ∃ p vs, v = .ref p ∧ SqT K H p vs ∧ Paired (LyAt K H) vs ls
def VLy (l : LY) : Prop := VRows l.1 ∧ VBack l.1 l.2
def VLays (ls : List LY) : Prop := 1 ≤ ls.length ∧ ls.length ≤ 4 ∧ ∀ l ∈ ls, VLy l
def ShAt (K : PySem.W.Frag) (H : Hp) (v : V) (ls : List LY) (x y : Int) (ms : List MV) : Prop := ∃ p lv wv, v = .ref p ∧ SqT K H p [lv, wv] ∧ LaysAt K H lv ls ∧ WinAt K H wv x y ms
theorem LyAt.keep {K : PySem.W.Frag} {H H' : Hp} {v : V} {l : LY} (k : TKeep K H H') : LyAt K H v l → LyAt K H' v l := LayAt.keep k
theorem LaysAt.keep {K : PySem.W.Frag} {H H' : Hp} {v : V} {ls : List LY} (k : TKeep K H H') : LaysAt K H v ls → LaysAt K H' v ls := fun ⟨p, vs, e, h, q⟩ => ⟨p, vs, e, k _ _ h, Paired.mono q fun _ _ => LyAt.keep k⟩
theorem ShAt.keep {K : PySem.W.Frag} {H H' : Hp} {v : V} {ls : List LY} {x y : Int} {ms : List MV} (k : TKeep K H H') : ShAt K H v ls x y ms → ShAt K H' v ls x y ms := fun ⟨p, lv, wv, e, h, q, r⟩ => ⟨p, lv, wv, e, k _ _ h, q.keep k, r.keep k⟩
/-! ### places -/
def PlAt (K : PySem.W.Frag) (H : Hp) (v : V) (p : RW × RW) : Prop := ∃ a v1 v2, v = .ref a ∧ SqT K H a [v1, v2] ∧ RowAt K H v1 p.1 ∧ RowAt K H v2 p.2
theorem PlAt.keep {K : PySem.W.Frag} {H H' : Hp} {v : V} {p : RW × RW} (k : TKeep K H H') : PlAt K H v p → PlAt K H' v p := fun ⟨a, v1, v2, e, h, r1, r2⟩ => ⟨a, v1, v2, e, k _ _ h, r1.keep k, r2.keep k⟩
/-! ### pictures -/
abbrev PIC := List Int × (RW × RW)
def PicAt (K : PySem.W.Frag) (H : Hp) (v : V) (c : PIC) : Prop := ∃ a b v2, v = .ref a ∧ SqT K H a [.ref b, v2] ∧ SqT K H b (c.1.map V.int) ∧ PlAt K H v2 c.2
theorem PicAt.keep {K : PySem.W.Frag} {H H' : Hp} {v : V} {c : PIC} (k : TKeep K H H') : PicAt K H v c → PicAt K H' v c := fun ⟨a, b, v2, e, h, h1, h2⟩ => ⟨a, b, v2, e, k _ _ h, k _ _ h1, h2.keep k⟩
/-! ### fractions in lowest terms -/
def lo (t b : Int) : RW := (t / ((Nat.gcd t.natAbs b.natAbs : Nat) : Int), b / ((Nat.gcd t.natAbs b.natAbs : Nat) : Int))
theorem gcd_facts {t b : Int} (hb : 0 < b) : ∃ g t' b' : Int, ((Nat.gcd t.natAbs b.natAbs : Nat) : Int) = g ∧ 0 < g ∧ t = g * t' ∧ b = g * b' ∧ 0 < b' ∧ (lo t b) = (t', b') ∧ g ≤ b ∧ Nat.Coprime b'.natAbs t'.natAbs := by
  have g0 : 0 < Nat.gcd t.natAbs b.natAbs := Nat.gcd_pos_of_pos_right _ (by omega)
  obtain ⟨t', ht⟩ : ((Nat.gcd t.natAbs b.natAbs : Nat) : Int) ∣ t := Int.natAbs_dvd_natAbs.mp (by rw [Int.natAbs_natCast]; exact Nat.gcd_dvd_left _ _)
  obtain ⟨b', hb'⟩ : ((Nat.gcd t.natAbs b.natAbs : Nat) : Int) ∣ b := Int.natAbs_dvd_natAbs.mp (by rw [Int.natAbs_natCast]; exact Nat.gcd_dvd_right _ _)
  have gp : (0 : Int) < ((Nat.gcd t.natAbs b.natAbs : Nat) : Int) := by omega
  have bp : 0 < b' := Int.pos_of_mul_pos_left (a := b') (b := ((Nat.gcd t.natAbs b.natAbs : Nat) : Int)) (by rw [Int.mul_comm, ← hb']; exact hb) gp
  have gle : ((Nat.gcd t.natAbs b.natAbs : Nat) : Int) ≤ b := by
    have := Nat.gcd_le_right t.natAbs (show 0 < b.natAbs by omega)
    omega
  have cop : Nat.gcd b'.natAbs t'.natAbs = 1 := by
    have e1 : t.natAbs = Nat.gcd t.natAbs b.natAbs * t'.natAbs := by
      have := congrArg Int.natAbs ht
      rw [Int.natAbs_mul, Int.natAbs_natCast] at this
      exact this
    have e2 : b.natAbs = Nat.gcd t.natAbs b.natAbs * b'.natAbs := by
      have := congrArg Int.natAbs hb'
      rw [Int.natAbs_mul, Int.natAbs_natCast] at this
      exact this
    have e3 : Nat.gcd (Nat.gcd t.natAbs b.natAbs * t'.natAbs) (Nat.gcd t.natAbs b.natAbs * b'.natAbs) = Nat.gcd t.natAbs b.natAbs * Nat.gcd t'.natAbs b'.natAbs := Nat.gcd_mul_left _ _ _
    rw [← e1, ← e2] at e3
    rw [Nat.gcd_comm]
    exact Nat.eq_of_mul_eq_mul_left g0 (by rw [← e3, Nat.mul_one])
  refine ⟨_, t', b', rfl, gp, ht, hb', bp, ?_, gle, cop⟩
  unfold lo
  congr 1
  · conv => lhs; arg 1; rw [ht]
    exact Int.mul_ediv_cancel_left _ (by omega)
  · conv => lhs; arg 1; rw [hb']
    exact Int.mul_ediv_cancel_left _ (by omega)
theorem lo_mem {t b k : Int} (hb : 0 < b) : t * k % b = 0 ↔ (lo t b).2 ∣ k := by
  obtain ⟨g, t', b', _, gp, et, eb, bp, el, _, cop⟩ := gcd_facts (t := t) hb
  rw [el]
  show _ ↔ b' ∣ k
  constructor
  · intro h
    have h1 := Int.dvd_of_emod_eq_zero h
    rw [et, eb, Int.mul_assoc] at h1
    obtain ⟨c, hc⟩ := h1
    rw [Int.mul_assoc] at hc
    have h2 : b' ∣ t' * k := ⟨c, Int.eq_of_mul_eq_mul_left (by omega) hc⟩
    have h3 := Int.natAbs_dvd_natAbs.mpr h2
    rw [Int.natAbs_mul] at h3
    exact Int.natAbs_dvd_natAbs.mp (Nat.Coprime.dvd_of_dvd_mul_left cop h3)
  · rintro ⟨c, hc⟩
    apply Int.emod_eq_zero_of_dvd
    refine ⟨t' * c, ?_⟩
    rw [et, eb, hc]
    rw [Int.mul_assoc, Int.mul_assoc, Int.mul_left_comm t' b' c]
/-- the numbers from 1 to n that the law looks through -/
def ks (t b : Int) (n : Nat) : List Int := ((List.range n).map fun j => 1 + ((j : Nat) : Int)).filter fun k => decide (t * k % b = 0)
theorem ks_head {t b : Int} (hb : 0 < b) : (ks t b b.toNat)[0]? = some (lo t b).2 := by
  obtain ⟨g, t', b', _, gp, et, eb, bp, el, _, cop⟩ := gcd_facts (t := t) hb
  have hm : ∀ k, t * k % b = 0 ↔ b' ∣ k := fun k => by
    have := lo_mem (t := t) (k := k) hb
    rw [el] at this
    exact this
  rw [el]
  show (ks t b b.toNat)[0]? = some b'
  have ble : b' ≤ b := by
    rw [eb]
    have : 1 * b' ≤ g * b' := Int.mul_le_mul_of_nonneg_right (by omega) (by omega)
    omega
  unfold ks
  rw [List.filter_map, List.getElem?_map, ← List.head?_eq_getElem?, List.head?_filter]
  have e : (List.range b.toNat).find? ((fun k : Int => decide (t * k % b = 0)) ∘ fun j : Nat => 1 + (j : Int)) = some (b'.toNat - 1) := by
    rw [List.find?_range_eq_some]
    refine ⟨?_, List.mem_range.mpr (by omega), fun j hj => ?_⟩
    · show decide (t * (1 + ((b'.toNat - 1 : Nat) : Int)) % b = 0) = true
      rw [decide_eq_true_eq, hm, show 1 + ((b'.toNat - 1 : Nat) : Int) = b' by omega]
      exact Int.dvd_refl _
    · show (!decide (t * (1 + (j : Int)) % b = 0)) = true
      rw [Bool.not_eq_true', decide_eq_false_iff_not, hm]
      intro hd
      have := Int.le_of_dvd (by omega) hd
      omega
  rw [e]
  show some (1 + ((b'.toNat - 1 : Nat) : Int)) = some b'
  congr 1
  omega
theorem lo_top {t b : Int} (hb : 0 < b) : t * (lo t b).2 / b = (lo t b).1 := by
  obtain ⟨g, t', b', _, gp, et, eb, bp, el, _, cop⟩ := gcd_facts (t := t) hb
  rw [el]
  show t * b' / b = t'
  rw [et, show g * t' * b' = b * t' by rw [eb, Int.mul_assoc, Int.mul_assoc, Int.mul_comm t' b']]
  exact Int.mul_ediv_cancel_left _ (by omega)
/-! ### where a window stands -/
def plc (x y : Int) : List MV → Int → RW × RW
  | [], _ => ((x, 1), (y, 1))
  | m :: r, t => if t < m.2.2 then (lo (x * m.2.2 + (m.1 - x) * (t + 1)) m.2.2, lo (y * m.2.2 + (m.2.1 - y) * (t + 1)) m.2.2) else plc m.1 m.2.1 r (t - m.2.2)
theorem way_eq (x g n k : Int) : x * (n - k) + g * k = x * n + (g - x) * k := by
  rw [Int.mul_sub, Int.sub_mul]
  omega
theorem plc_nil (x y t : Int) : plc x y [] t = ((x, 1), (y, 1)) := rfl
theorem plc_cons (x y : Int) (m : MV) (r : List MV) (t : Int) : plc x y (m :: r) t = if t < m.2.2 then (lo (x * m.2.2 + (m.1 - x) * (t + 1)) m.2.2, lo (y * m.2.2 + (m.2.1 - y) * (t + 1)) m.2.2) else plc m.1 m.2.1 r (t - m.2.2) := rfl
theorem mtot_cons (m : MV) (r : List MV) : mtot (m :: r) = m.2.2 + mtot r := by
  unfold mtot
  rw [List.map_cons, List.sum_cons]
theorem mtot_nonneg : ∀ {ms : List MV}, (∀ m ∈ ms, VMove m) → 0 ≤ mtot ms ∧ mtot ms ≤ 24 * ms.length
  | [], _ => ⟨Int.le_refl _, Int.le_refl _⟩
  | m :: r, h => by
    have ih := mtot_nonneg (ms := r) fun q hq => h q (List.mem_cons_of_mem _ hq)
    obtain ⟨_, _, h3, h4⟩ := h m (List.mem_cons_self ..)
    rw [mtot_cons, List.length_cons]
    obtain ⟨i1, i2⟩ := ih
    constructor <;> omega
theorem plc_far : ∀ (ms : List MV) (x y a b : Int), (∀ m ∈ ms, VMove m) → mtot ms ≤ a → mtot ms ≤ b → plc x y ms a = plc x y ms b
  | [], _, _, _, _, _, _, _ => rfl
  | m :: r, x, y, a, b, h, ha, hb => by
    have hr : ∀ q ∈ r, VMove q := fun q hq => h q (List.mem_cons_of_mem _ hq)
    have := (mtot_nonneg hr).1
    rw [mtot_cons] at ha hb
    rw [plc_cons, plc_cons, if_neg (by omega), if_neg (by omega)]
    exact plc_far r _ _ _ _ hr (by omega) (by omega)
def pic (ls : List LY) (x y : Int) (ms : List MV) (m : Int) : PIC := (ls.map (fun l => shown l.1 l.2 m), plc x y ms m)
/-! ### the law's own helpers -/
theorem fm {x m : Int} (h : 0 < m) : 0 ≤ x.fmod m ∧ x.fmod m < m := by
  rw [Int.fmod_eq_emod_of_nonneg x (by omega)]
  exact ⟨Int.emod_nonneg _ (by omega), Int.emod_lt_of_pos _ h⟩
theorem tk_updL {K : PySem.W.Frag} {H : Hp} {D : Addr} {xs ys : List V} (h : H D = some (.lst xs)) : TKeep K H (upd H D (.lst ys)) := by
  intro a zs q
  rcases q with (q | ⟨o, q⟩) | q
  · refine .inl (.inl ?_)
    rw [upd_ne (ne_of q h (by intro z; cases z))]
    exact q
  · refine .inl (.inr ⟨o, ?_⟩)
    rw [upd_ne (ne_of q h (by intro z; cases z))]
    exact q
  · exact .inr q
inductive Fl : V → String → Bool → Prop
  | non : Fl .non "NoneType" false
  | bl (b : Bool) : Fl (.bl b) "bool" true
  | int (i : Int) : Fl (.int i) "int" false
theorem Fl.ty {K : PySem.W.Frag} {H : Hp} {x : V} {t : String} {b : Bool} (f : Fl x t b) : TyX K H x (.type t) := by
  cases f with
  | non => exact .base .non
  | bl b => exact .base (.bl b)
  | int i => exact .base (.int i)
theorem Fl.kit {x : V} {t : String} {b : Bool} (f : Fl x t b) : kitB t "bool" = some b := by
  cases f <;> decide +kernel
theorem Fl.kit2 {K : PySem.W.Frag} {x : V} {t : String} {b : Bool} (f : Fl x t b) : PySem.W.kitAny K (.type t) [.type "tuple", .type "list"] = some false := by
  cases f <;> exact kitAny_cons (kit_ty (r := false) (by decide +kernel)) (fun _ => kitAny_cons (kit_ty (r := false) (by decide +kernel)) (fun _ => kitAny_nil) (fun z => nomatch z)) (fun z => nomatch z)
theorem Fl.scal {x y : V} {t u : String} {b : Bool} (f : Fl x t b) (g : Fl y u b) : L2.scal x y = true := by
  cases f <;> cases g <;> rfl
theorem Fl.ne {x y : V} {t u : String} {b c : Bool} (f : Fl x t b) (g : Fl y u c) (h : b ≠ c) : x ≠ y := by
  cases f <;> cases g <;> first | exact absurd rfl h | (intro z; cases z)
theorem st_ne {H : Hp} {st p : Addr} (s : IsSt H st) (h : H p = none) : p ≠ st := by
  obtain ⟨x, y, hx, _⟩ := s
  exact fun z => by rw [z, hx] at h; cases h
theorem st_neT {H : Hp} {st p : Addr} {xs : List V} (s : IsSt H st) (h : H p = some (.tup xs)) : p ≠ st := by
  obtain ⟨x, y, hx, _⟩ := s
  exact ne_of h hx (by intro z; cases z)
/-! ### the law's own comparison, of equal data -/
theorem tyL {K : PySem.W.Frag} {H : Hp} {a : Addr} {xs : List V} (h : SqL K H a xs) : TyX K H (.ref a) (.type "list") := by
  rcases h with (h | ⟨o, h⟩) | ⟨o, its, n, h, c, _⟩
  · exact .base (.lst h)
  · exact .base (.frz h)
  · exact .kList h c
mutual
theorem Dp.sm {K : PySem.W.Frag} {H H' : Hp} (s : Same H H') : ∀ {v : V} {d : PyData}, Dp K H v d → Dp K H' v d
  | _, _, .non => .non
  | _, _, .bl b => .bl b
  | _, _, .int i => .int i
  | _, _, .str x => .str x
  | _, _, .lst h q => .lst (s.seq h) (DpAll.sm s q)
  | _, _, .tup h q => .tup (Same.sqT s h) (DpAll.sm s q)
theorem DpAll.sm {K : PySem.W.Frag} {H H' : Hp} (s : Same H H') : ∀ {v : List V} {d : List PyData}, DpAll K H v d → DpAll K H' v d
  | _, _, .nil => .nil
  | _, _, .cons h q => .cons (Dp.sm s h) (DpAll.sm s q)
end
theorem DpAll.at {K : PySem.W.Frag} {H : Hp} : ∀ {vs : List V} {ds : List PyData} {i : Nat} {v : V}, DpAll K H vs ds → vs[i]? = some v → ∃ d, ds[i]? = some d ∧ Dp K H v d
  | _, _, i, v, .nil, h => by simp at h
  | _, _, 0, v, .cons a t, h => by
    have e : _ = v := Option.some.inj h
    subst e
    exact ⟨_, rfl, a⟩
  | _, _, i + 1, v, .cons a t, h => DpAll.at (i := i) t h
theorem DpAll.len {K : PySem.W.Frag} {H : Hp} : ∀ {vs : List V} {ds : List PyData}, DpAll K H vs ds → vs.length = ds.length
  | _, _, .nil => rfl
  | _, _, .cons _ t => by rw [List.length_cons, List.length_cons, DpAll.len t]
def flD (d : PyData) : Prop := d = .none ∨ (∃ b, d = .bool b) ∨ ∃ i, d = .int i
def dOk : Nat → PyData → Prop
  | 0, d => flD d
  | n + 1, d => flD d ∨ ∃ ds, (d = .list ds ∨ d = .tuple ds) ∧ ds.length ≤ 1000 ∧ ∀ e ∈ ds, dOk n e
theorem flD.fl {K : PySem.W.Frag} {H : Hp} {x y : V} {d : PyData} (f : flD d) (hx : Dp K H x d) (hy : Dp K H y d) : x = y ∧ ∃ t b, Fl x t b := by
  rcases f with rfl | ⟨b, rfl⟩ | ⟨i, rfl⟩
  · cases hx
    cases hy
    exact ⟨rfl, _, _, .non⟩
  · cases hx
    cases hy
    exact ⟨rfl, _, _, .bl b⟩
  · cases hx
    cases hy
    exact ⟨rfl, _, _, .int i⟩
/-- a comprehension over a zip of two that stand still, each item True -/
theorem lc_zip {J : It} {xs ys : List V} {g : TG} {tt : TT} {te : TE} {vs : List Nat} {σ : L2.St} {H1 : Hp} {D : Addr} {Qd : Hp → Prop} (hl : ys.length = xs.length) (hz : xs.length ≤ 1000) (hD : H1 D = none)
    (st : ∀ H, Same H1 H → J.stop xs.length H) (go : ∀ (i : Nat) (H : Hp), Same H1 H → i < xs.length → J.go i H)
    (yl : ∀ (i : Nat) (H : Hp) (v : V) (H' : Hp), Same H1 H → J.yld i H v H' → ∃ T x y, v = .ref T ∧ H T = none ∧ H' = upd H T (.tup [x, y]) ∧ xs[i]? = some x ∧ ys[i]? = some y)
    (hs : ∀ (i : Nat) (x y : V) (T : Addr) (H : Hp) (R : V → Hp → Prop) (Z : Hp → Prop), xs[i]? = some x → ys[i]? = some y → Same H1 H → H T = some (.tup [x, y]) → (∀ H4, Same H H4 → R (.bl true) H4) →
      g (.ref T) (wipe σ vs) H fun σ2 H2 => wipe σ2 vs = wipe σ vs ∧ tt σ2 H2 fun b H3 => if b = true then te σ2 H3 R else Z H3)
    (hd : ∀ H, Same H1 H → H D = some (.lst ((List.replicate xs.length true).map V.bl)) → Qd H) :
    ∃ W : Nat → Nat → Hp → Prop, (∃ m, W 0 m (upd H1 D (.lst []))) ∧ ∀ i m H, W i m H →
      (J.stop i H ∧ Qd H) ∨ (J.go i H ∧ ∃ Nx : Hp → Prop, (∀ H', Nx H' → ∃ m', m' < m ∧ W (i + 1) m' H') ∧ ∀ x H', J.yld i H x H' → g x (wipe σ vs) H' fun σ2 H2 => wipe σ2 vs = wipe σ vs ∧ tt σ2 H2 fun b H3 =>
        if b = true then te σ2 H3 fun y H4 => ∃ acc, H4 D = some (.lst acc) ∧ acc.length < sizeLine ∧ Nx (upd H4 D (.lst (acc ++ [y]))) else Nx H3) := by
  refine ⟨fun i m H => m = xs.length - i ∧ i ≤ xs.length ∧ Same H1 H ∧ H D = some (.lst ((List.replicate i true).map V.bl)), ⟨xs.length, by simp, Nat.zero_le _, same_upd hD, upd_same⟩, ?_⟩
  rintro i m H ⟨rfl, hi, s1, eD⟩
  by_cases hlt : i < xs.length
  · refine .inr ⟨go i H s1 hlt, fun H' => Same H1 H' ∧ H' D = some (.lst ((List.replicate (i + 1) true).map V.bl)), fun H' p => ⟨xs.length - (i + 1), by omega, rfl, hlt, p⟩, fun v H' hy => ?_⟩
    obtain ⟨T, x, y, rfl, nT, rfl, hx, hy⟩ := yl i H v H' s1 hy
    have sT : Same H (upd H T (.tup [x, y])) := same_upd nT
    refine hs i x y T _ _ _ hx hy (s1.trans sT) upd_same (fun H4 s4 => ⟨_, s4 _ _ (sT _ _ eD), ?_, ?_, ?_⟩)
    · rw [List.length_map, List.length_replicate]
      exact small1000 (by omega)
    · intro b o e
      rw [upd_ne (ne_of_none e hD)]
      exact s4 _ _ (sT _ _ (s1 _ _ e))
    · rw [upd_same, List.replicate_succ', List.map_append]
      rfl
  · have e : i = xs.length := by omega
    subst e
    exact .inl ⟨st H s1, hd H s1 eD⟩
/-! ### a def that is entered where nothing is being shown: repr is known there -/
structure FnG (P : Program) (w : World) (K : PySem.W.Frag) (mg : Str → Option Value) (base : Heap) (k : Nat) (f : Addr) (fd : FuncData) (ps : List Str) (sp : Sp) : Prop where
  len : ∀ vs H Q E, sp vs H Q E → vs.length = ps.length
  run : ∀ (A : Around) (outer : List Env) (s : Shared) (H : Hp) (args : Args) (us : List Value) (vs : List V) (Q : VK) (E : XK), A.guards = some [] → Room k A → Env0 P w K mg base A outer s H → BindsTo s fd args (ps.zip us) →
    Vals vs us → sp vs H Q E → codeAny (model P w) A (.call (.ref f) args) (CR CX0 outer P w H s Q E) s
/-! ### a call goes by the def's body, in whatever context the body is read -/
/-- the def st stands at f, its code object is cdv -/
structure DefAt (K : PySem.W.Frag) (x qual : Str) (st : Stmt) (f : Addr) (fd : FuncData) (cdv : Value) : Prop where
  isFn : ∃ (kV doc pm : Value) (an : Option Addr) (ct : Value), fd = PySem.W.fnOf x qual (defArgs st) (defBody st) (defScope st) .none kV doc pm an cdv ct
  there : ∃ (oc : Value) (od : Option Addr) (osl : Array (Option Value)), K.lookup f = some ⟨oc, od, .func fd, osl⟩
  coded : PySem.W.codeIn K cdv qual = true
/-- what a call's value is, told by how the body ends -/
def given : Flow → Value
  | .ret u => u
  | _ => .none
/-- the state in which a body begins whose parameters ps hold us -/
abbrev Begun (qual : Str) (st : Stmt) (f : Addr) (cdv : Value) (ps : List Str) (us : List Value) (s s1 : Shared) : Prop :=
  InCallC s s.heap.objs.size (bindL (envOfC qual (defScope st) s.heap.objs.size f cdv).kindOf (ps.zip us) fun _ => none) (cellsFrom (s.heap.objs.size + 1) (defScope st).names [])
    (bindC (envOfC qual (defScope st) s.heap.objs.size f cdv).kindOf (ps.zip us) fun _ => none) s1
theorem given_by {X : Cx} {Q : VK} {fl : Flow} {s' : Shared} (none : X.ex = []) (h : SP X [] { nx := fun _ H' => Q .non H', rt := Q } fl s') : CE X.outer X.prog X.w X.H_0 X.s_0 Q (given fl) s' := by
  have told : ∀ {σ : L2.St} {H' : Hp} {v : V}, Inv X [] σ H' s' → RelV v (given fl) → Q v H' → CE X.outer X.prog X.w X.H_0 X.s_0 Q (given fl) s' := fun J rv q => ⟨_, _, J.os, J.bare, none ▸ J.base, J.hok, rv, q⟩
  match fl, h with
  | .ret _, ⟨_, _, _, J, rv, q⟩ => exact told J rv q
  | .next, ⟨_, _, J, q⟩ => exact told (v := .non) J rfl q
  | .brk, ⟨_, _, _, q⟩ | .cont, ⟨_, _, _, q⟩ => exact q.elim
section
variable {P : Program} {w : World} {K : PySem.W.Frag} {mg : Str → Option Value} {base : Heap}
theorem defAt_of {x qual : Str} {st : Stmt} {f : Addr} {fd : FuncData} (F : Fun K x qual st f fd) : ∃ cdv, DefAt K x qual st f fd cdv :=
  let ⟨oc, od, kV, doc, pm, an, cdv, ct, osl, e, l, c⟩ := F.ex
  ⟨cdv, ⟨kV, doc, pm, an, ct, e⟩, ⟨oc, od, osl, l⟩, c⟩
theorem DefAt.call {x qual : Str} {st : Stmt} {f : Addr} {fd : FuncData} {cdv : Value} {N ps : List Str} {A : Around} {outer : List Env} {s : Shared} {H : Hp} {args : Args} {us : List Value} {R : Result → Shared → Prop} (D : DefAt K x qual st f fd cdv) (S : FnScope N ps (defScope st))
    (room : A.depth < recursionLimit) (e0 : Env0 P w K mg base A outer s H) (hb : BindsTo s fd args (ps.zip us))
    (body : ∀ s1, Begun qual st f cdv ps us s s1 → wpAny (model P w) (A.deeper (envOfC qual (defScope st) s.heap.objs.size f cdv)) (execs (defBody st) (envOfC qual (defScope st) s.heap.objs.size f cdv)) (fun fl s' => R (.ok (.ret (given fl))) s')
      (fun e s' => wpAny (model P w) (A.deeper (envOfC qual (defScope st) s.heap.objs.size f cdv)) (leaving (envOfC qual (defScope st) s.heap.objs.size f cdv) e) (fun _ z => R (.error e) z) (fun e' z => R (.error e') z) s') s1) :
    codeAny (model P w) A (.call (.ref f) args) R s := by
  obtain ⟨⟨kV, doc, pm, an, ct, rfl⟩, ⟨oc, od, osl, there⟩, coded⟩ := D
  have stands : ∀ b o, base.get? b = some o → s.heap.get? b = some o := fun b o z => (e0.bs b o z).1
  have kin := e0.mod.kin.keeps stands
  apply codeAny_call_function room (kin f _ there) rfl S.co S.gen rfl (PySem.W.codeRec_of kin coded)
  apply hb
  apply wpAny_newFunctionEnv_cells S.kind
  · exact fun y hy => (S.par y.1 (List.of_mem_zip hy).1).imp id fun c => ⟨c, PySem.W.cellsFrom_some _ _ _ (.inl c)⟩
  · rintro _ rfl s1 begun
    exact ⟨(e0.mod.nolimit.keeps stands).keeps begun.toInCall.keep, codeAny_func (wpAny_mono (body s1 begun) (fun fl _ h => by cases fl <;> exact h) fun _ _ h => h)⟩
theorem fun_okG {x qual : Str} {st : Stmt} {f : Addr} {fd : FuncData} {N ps : List Str} {k : Nat} {sp : Sp} (F : Fun K x qual st f fd) (S : FnScope N ps (defScope st)) (ln : ∀ vs H Q E, sp vs H Q E → vs.length = ps.length)
    (hbody : ∀ (cdv : Value) (A : Around) (outer : List Env) (s : Shared) (H : Hp) (vs : List V) (Q : VK) (E : XK), A.guards = some [] → Room k (A.deeper (envOfC qual (defScope st) s.heap.objs.size f cdv)) → sp vs H Q E →
      ∃ t, PSs (cxOf CX0 P w K mg base N qual (defScope st) f cdv A outer s H E).nox (defBody st) t ∧ t { nx := fun _ H' => Q .non H', rt := Q } (L2.start N vs) H) : FnG P w K mg base (k + 1) f fd ps sp := by
  obtain ⟨cdv, D⟩ := defAt_of F
  refine ⟨ln, fun A outer s H args us vs Q E hgu hr e0 hb r hsp => D.call S hr.depth e0 hb fun s1 begun => ?_⟩
  obtain ⟨t, ht, hq⟩ := hbody cdv A outer s H vs Q E hgu (hr.deeper _) hsp
  exact thn (ht.nox.run [] s1 _ H _ (inv_start S hr.hd e0 (ln _ _ _ _ hsp) r begun) hq) fun _ _ h => given_by rfl h
/-- the law's call from such a promise -/
theorem law_callG {mb : Str → Option Value} {k : Nat} {fa a : Addr} {fd : FuncData} {x : Str} {sp : Sp} {s₁ : Shared} {vs : List Value} {ns : List Int}
    (KX : K.In s₁.heap) (hns : s₁.heap.Ns mainGlobals mg) (hb : s₁.heap.Ns builtinsNs mb) (hbb : ∀ x : Str, x ≠ "__name__" → mb x = bootBuiltins x) (hlim : s₁.heap.NoLimit)
    (hge : s₁.gens = #[]) (ha : s₁.heap.get? a = some { cls := .type "list", data := .seq vs.toArray }) (hi : IntsAre vs ns) (hl : ns.length ≤ sizeLine) (hr : Room k callerA)
    (F : ∀ base : Heap, K.In base → base.Ns mainGlobals mg → FnG P w K mg base k fa fd [x] sp)
    (hbind : ∀ (s : Shared) (u : Value), BindsTo s fd ⟨[u], []⟩ [(x, u)])
    (hsp : ∀ H : Hp, SqL K H a (ns.map V.int) → sp [.ref a] H (fun v _ => v = .bl true) fun _ _ _ => False) :
    codeAny (model P w) callerA (.call (.ref fa) ⟨[.ref a], []⟩)
      (fun r s' => r = .ok (.ret (.bool true)) ∧ OldK s₁.heap s'.heap ∧ s'.os = s₁.os ∧ AllBare s'.gens) s₁ := by
  have rv := vals_ints hi
  have lv := hi.length
  obtain ⟨H, hH⟩ : ∃ H : Hp, ∀ b, H b = if b = a ∧ K.lookup a = none then some (.frz { cls := .type "list", data := .seq vs.toArray } (.lst (ns.map V.int))) else none := ⟨fun b => _, fun _ => rfl⟩
  have some_of : ∀ {b u}, H b = some u → b = a ∧ K.lookup a = none ∧ u = .frz { cls := .type "list", data := .seq vs.toArray } (.lst (ns.map V.int)) := by
    intro b u e
    rw [hH b] at e
    by_cases c : b = a ∧ K.lookup a = none
    · rw [if_pos c] at e
      exact ⟨c.1, c.2, (Option.some.inj e).symm⟩
    · rw [if_neg c] at e
      cases e
  have none_of : ∀ {b o} {es : Array DictEntry} {ep : Nat}, s₁.heap.get? b = some o → o.data = .dict es ep → H b = none := by
    intro b o es ep e d
    cases c : H b with
    | none => rfl
    | some u =>
      obtain ⟨rfl, _, _⟩ := some_of c
      rw [ha] at e
      cases e
      cases d
  have hS : SqL K H a (ns.map V.int) := by
    cases hk : K.lookup a with
    | none => exact .inl (.inr ⟨_, by rw [hH a, if_pos ⟨rfl, hk⟩]⟩)
    | some o =>
      have e := KX a o hk
      rw [ha] at e
      cases e
      refine .inr ⟨_, vs.toArray, _, hk, rfl, rfl, rfl, ?_, by simpa using rv⟩
      rw [List.size_toArray, lv]
      exact hl
  have hok : HOk P w H s₁.heap := by
    intro b u e
    obtain ⟨rfl, _, rfl⟩ := some_of e
    refine ⟨ha, ?_, vs, _, rv, ha⟩
    rw [List.length_map]
    exact hl
  have nsB : ∀ {b : Addr} {m : Str → Option Value}, s₁.heap.Ns b m → (hidT s₁.heap H).Ns b m := by
    rintro b m ⟨o, es, ep, e, d, r⟩
    exact ⟨o, es, ep, hidT_get e (none_of e d), d, r⟩
  have kB : K.In (hidT s₁.heap H) := by
    intro b o e
    refine hidT_get (KX b o e) ?_
    cases c : H b with
    | none => rfl
    | some u =>
      obtain ⟨rfl, k0, _⟩ := some_of c
      rw [k0] at e
      cases e
  have md : Mod K mg (hidT s₁.heap H) := by
    obtain ⟨mc, h1, h2⟩ := hlim
    exact ⟨kB, nsB hns, ⟨mb, nsB hb, hbb⟩, ⟨mc, nsB h1, h2⟩⟩
  have e0 : Env0 P w K mg (hidT s₁.heap H) callerA [] s₁ H := by
    refine ⟨rfl, md, fun b o e => of_hidT e, Nat.le_of_eq (hidT_size _ _), trivial, ?_, hok, .of_eq hge⟩
    intro b hb
    exact absurd (show b ∈ ([] : List Addr) from hb) (by simp)
  have go := (F _ kB (nsB hns)).run callerA [] s₁ H ⟨[.ref a], []⟩ [.ref a] [.ref a] _ _ rfl hr e0
    (hbind s₁ (.ref a)) (.cons rfl .nil) (hsp H hS)
  refine codeAny_mono go fun r s' h => ?_
  cases r with
  | error e => exact h.elim
  | ok fl =>
    cases fl with
    | ret u =>
      obtain ⟨v, H', os, bare, un, hok', r', qv⟩ := h
      have qv' : v = .bl true := qv
      subst qv'
      obtain rfl : u = Value.bool true := r'
      refine ⟨rfl, OldK.of_keep fun b o e => ?_, os, bare⟩
      cases c : H b with
      | none =>
        refine un.keep b o e c ?_ (by simp)
        intro z
        exact absurd (show b ∈ ([] : List Addr) from z) (by simp)
      | some u =>
        obtain ⟨_, _, rfl⟩ := some_of c
        have c2 := un.frzs b _ _ c
        obtain ⟨e1, _⟩ := hok b _ c
        obtain ⟨e2, _⟩ := hok' b _ c2
        rw [e] at e1
        cases e1
        exact e2
    | next => exact False.elim h
    | brk => exact False.elim h
    | cont => exact False.elim h
end
theorem walk_ofG {l : PySem.W.OpenLaw} {n k : Nat} {q : Program} {loose : List Str} {XP : (Str → Option Value) → Heap → Prop} {YP : World → Heap → Prop} {d : DefRec} {K : Params → PySem.W.Frag} {sp : World → Sp} {x : Str}
    (hn : l.most = some n) (hn2 : n ≤ sizeLine) (hdf : d.params.defaults = []) (hr : Room k callerA) (hY : ∀ (w : World) (h : Heap), YP w h → (K w.params).In h)
    (F : ∀ (w : World) (mg : Str → Option Value) (fa : Addr) (h : Heap), (K w.params).In h → h.Ns mainGlobals mg → mg d.name = some (.ref fa) →
      ∃ fd : FuncData, (∀ (s : Shared) (u : Value), BindsTo s fd ⟨[u], []⟩ [(x, u)]) ∧
        ∀ base : Heap, (K w.params).In base → base.Ns mainGlobals mg → FnG l.prog w (K w.params) mg base k fa fd [x] (sp w))
    (hsp : ∀ (w : World) (H : Hp) (a : Addr) (ns : List Int), ns.length ≤ n → SqL (K w.params) H a (ns.map V.int) → sp w [.ref a] H (fun v _ => v = .bl true) fun _ _ _ => False) :
    PySem.W.WalkO q loose XP YP l.row.toRowW d [] (fun f vs => PySem.call f vs) := by
  refine Att.attach_call hn hdf fun w s₀ s₁ mg mb fa o pm cd doc a vs ns G Y _ _ _ hmg hobj hints hlen hge => ?_
  have KX := hY w _ Y
  obtain ⟨fd, hb, hF⟩ := F w mg fa _ KX G.T.g hmg
  exact law_callG KX G.T.g G.T.b G.T.builtins G.T.nolimit hge hobj hints (Nat.le_trans hlen hn2) hr hF hb
    (fun H hS => hsp w H a ns hlen hS)
/-! ### repr of data -/
def rRepr (K : PySem.W.Frag) : List V → Hp → VK → Prop := fun xs H Q => ∃ (a : Addr) (d : PyData) (S : Str), xs = [.ref a] ∧ Dp K H (.ref a) d ∧ d.showable = true ∧ d.hasDict = false ∧ d.depth ≤ 30 ∧ d.shown.length ≤ sizeLine ∧ d.shown = S ∧ Q (.str S) H
theorem call_repr {X : Cx} (hg : X.A.guards = some []) (hu : X.A.units + 64 < cLine) : CallR X (.builtin "repr") (rRepr X.K) := by
  intro pins s σ H xs us Q I r h
  obtain ⟨a, d, S, rfl, hd, hs, hnd, hdep, hsz, hS, q⟩ := h
  subst hS
  obtain ⟨u, rfl, rx⟩ := vals1 r
  cases (show u = Value.ref a from rx)
  obtain ⟨as, rd⟩ := Dp.reads I d _ _ hd rfl
  refine repr_of_reads' rd hs (fun z => by rw [hnd] at z; cases z) hg (by omega) (fun _ _ e => e) (fun h' u tk hk => ?_) hsz
  exact ⟨.str d.shown, H, I.kept hk, ⟨_, rfl⟩, q⟩
/-! ### data that can be shown -/
structure RO (k w : Nat) (d : PyData) : Prop where
  sh : d.showable = true
  nd : d.hasDict = false
  dp : d.depth ≤ k
  lv : d.leavesShort 13 = true
  wt : d.weight ≤ w
theorem RO.none {w : Nat} : RO 0 w .none := ⟨rfl, rfl, Nat.le_refl _, rfl, Nat.zero_le _⟩
theorem RO.bool {w : Nat} (b : Bool) : RO 0 w (.bool b) := ⟨rfl, rfl, Nat.le_refl _, rfl, Nat.zero_le _⟩
theorem RO.int {i : Int} (h1 : -999999999999 ≤ i) (h2 : i ≤ 999999999999) : RO 0 41 (.int i) := by
  have hl : i.natAbs.log2 < 41 := by
    rcases Nat.eq_zero_or_pos i.natAbs with e | e
    · rw [e]
      decide
    · exact (Nat.log2_lt (by omega)).mpr (Nat.lt_of_le_of_lt (show i.natAbs ≤ 999999999999 by omega) (by decide))
  refine ⟨decide_eq_true (by omega), rfl, Nat.le_refl _, decide_eq_true (PyData.shown_int_le2 h1 h2), ?_⟩
  show (if i == 0 then 0 else i.natAbs.log2 + 1) ≤ 41
  split <;> omega
theorem RO.more {k w k' w' : Nat} {d : PyData} (h : RO k w d) (h1 : k ≤ k') (h2 : w ≤ w') : RO k' w' d := ⟨h.sh, h.nd, Nat.le_trans h.dp h1, h.lv, Nat.le_trans h.wt h2⟩
theorem ro_all {k w : Nat} : ∀ {ds : List PyData}, (∀ e ∈ ds, RO k w e) → PyData.showableAll ds = true ∧ PyData.hasDictAll ds = false ∧ PyData.depthAll ds ≤ k ∧ PyData.leavesShortAll 13 ds = true ∧ PyData.weightAll ds ≤ ds.length * (w + 1)
  | [], _ => ⟨rfl, rfl, Nat.zero_le _, rfl, Nat.zero_le _⟩
  | d :: t, h => by
    obtain ⟨a, b, c, e, f⟩ := ro_all (ds := t) fun x hx => h x (List.mem_cons_of_mem _ hx)
    have h1 := h d (List.mem_cons_self ..)
    refine ⟨?_, ?_, ?_, ?_, ?_⟩
    · show (d.showable && PyData.showableAll t) = true
      rw [h1.sh, a]
      rfl
    · show (d.hasDict || PyData.hasDictAll t) = false
      rw [h1.nd, b]
      rfl
    · show max d.depth (PyData.depthAll t) ≤ k
      exact Nat.max_le.mpr ⟨h1.dp, c⟩
    · show (d.leavesShort 13 && PyData.leavesShortAll 13 t) = true
      rw [h1.lv, e]
      rfl
    · show d.weight + 1 + PyData.weightAll t ≤ (t.length + 1) * (w + 1)
      have := h1.wt
      rw [Nat.add_mul, Nat.one_mul]
      omega
theorem RO.tup {k w n : Nat} {ds : List PyData} (h : ∀ e ∈ ds, RO k w e) (hn : ds.length * (w + 1) ≤ n) : RO (k + 1) n (.tuple ds) := by
  obtain ⟨a, b, c, e, f⟩ := ro_all h
  exact ⟨a, b, Nat.succ_le_succ c, e, Nat.le_trans f hn⟩
theorem RO.lst {k w n : Nat} {ds : List PyData} (h : ∀ e ∈ ds, RO k w e) (hn : ds.length * (w + 1) ≤ n) : RO (k + 1) n (.list ds) := by
  obtain ⟨a, b, c, e, f⟩ := ro_all h
  exact ⟨a, b, Nat.succ_le_succ c, e, Nat.le_trans f hn⟩
theorem RO.fits {k w : Nat} {d : PyData} (h : RO k w d) (hw : w ≤ 1000000) : d.shown.length ≤ sizeLine := by
  have := PyData.shown_le 13 (by decide) d h.lv
  have := h.wt
  have e : sizeLine = 16777216 := by decide
  omega
/-! ### windows and places as data -/
theorem dpAll_of {K : PySem.W.Frag} {H : Hp} {β : Type} {R : V → β → Prop} {f : β → PyData} (h : ∀ v m, R v m → Dp K H v (f m)) : ∀ {vs : List V} {ms : List β}, Paired R vs ms → DpAll K H vs (ms.map f)
  | _, _, .nil => .nil
  | _, _, .cons r t => .cons (h _ _ r) (dpAll_of h t)
def rwD (r : RW) : PyData := .tuple [.int r.1, .int r.2]
def plD (p : RW × RW) : PyData := .tuple [rwD p.1, rwD p.2]
def mvD (m : MV) : PyData := .tuple [.int m.1, .int m.2.1, .int m.2.2]
def winD (x y : Int) (ms : List MV) : PyData := .tuple [.int x, .int y, .tuple (ms.map mvD)]
theorem RowAt.dp {K : PySem.W.Frag} {H : Hp} {v : V} {r : RW} : RowAt K H v r → Dp K H v (rwD r) := by
  rintro ⟨p, rfl, h⟩
  exact .tup h (.cons (.int _) (.cons (.int _) .nil))
theorem PlAt.dp {K : PySem.W.Frag} {H : Hp} {v : V} {p : RW × RW} : PlAt K H v p → Dp K H v (plD p) := by
  rintro ⟨a, v1, v2, rfl, h, r1, r2⟩
  exact .tup h (.cons r1.dp (.cons r2.dp .nil))
theorem MoveAt.dp {K : PySem.W.Frag} {H : Hp} {v : V} {m : MV} : MoveAt K H v m → Dp K H v (mvD m) := by
  rintro ⟨p, rfl, h⟩
  exact .tup h (.cons (.int _) (.cons (.int _) (.cons (.int _) .nil)))
theorem WinAt.dp {K : PySem.W.Frag} {H : Hp} {v : V} {x y : Int} {ms : List MV} : WinAt K H v x y ms → Dp K H v (winD x y ms) := by
  rintro ⟨p, mv, rfl, h, pm, vs, rfl, hq, pd⟩
  exact .tup h (.cons (.int _) (.cons (.int _) (.cons (.tup hq (dpAll_of (f := mvD) (fun _ _ h => MoveAt.dp h) pd)) .nil)))
theorem mem3 {α : Type} {a b c e : α} (h : e ∈ [a, b, c]) : e = a ∨ e = b ∨ e = c := by
  simpa using h
theorem mvD_ro {m : MV} (h : VMove m) : RO 1 126 (mvD m) := by
  obtain ⟨h1, h2, h3, h4⟩ := h
  refine RO.tup (k := 0) (w := 41) (fun e he => ?_) (by show 3 * 42 ≤ 126; decide)
  rcases mem3 he with rfl | rfl | rfl <;> exact RO.int (by omega) (by omega)
theorem winD_ro {x y : Int} {ms : List MV} (h : VWin x y ms) : RO 3 3051 (winD x y ms) := by
  obtain ⟨h1, h2, h3, h4⟩ := h
  refine RO.tup (k := 2) (w := 1016) (fun e he => ?_) (by show 3 * 1017 ≤ 3051; decide)
  rcases mem3 he with rfl | rfl | rfl
  · exact (RO.int (by omega) (by omega)).more (by omega) (by omega)
  · exact (RO.int (by omega) (by omega)).more (by omega) (by omega)
  · refine RO.tup (k := 1) (w := 126) (fun e he => ?_) ?_
    · obtain ⟨m, hm, rfl⟩ := List.mem_map.mp he
      exact mvD_ro (h4 m hm)
    · rw [List.length_map]
      omega
theorem ro_args {k w : Nat} {d : PyData} (h : RO k w d) (hk : k ≤ 30) (hw : w ≤ 1000000) : d.showable = true ∧ d.hasDict = false ∧ d.depth ≤ 30 ∧ d.shown.length ≤ sizeLine := ⟨h.sh, h.nd, Nat.le_trans h.dp hk, h.fits hw⟩
theorem fl_int (i : Int) : flD (.int i) := .inr (.inr ⟨i, rfl⟩)
theorem dOk_rw (r : RW) : dOk 1 (rwD r) := by
  refine .inr ⟨_, .inr rfl, (by show 2 ≤ 1000; decide), fun e he => ?_⟩
  rcases List.mem_cons.mp he with rfl | he
  · exact fl_int _
  · rw [List.mem_singleton.mp he]
    exact fl_int _
theorem dOk_pl (p : RW × RW) : dOk 2 (plD p) := by
  refine .inr ⟨_, .inr rfl, (by show 2 ≤ 1000; decide), fun e he => ?_⟩
  rcases List.mem_cons.mp he with rfl | he
  · exact dOk_rw _
  · rw [List.mem_singleton.mp he]
    exact dOk_rw _
/-! ### layers, sheets, pictures as data -/
def bkD : Option Int → PyData
  | none => .none
  | some i => .int i
def lyD (l : LY) : PyData := .tuple [.tuple (l.1.map rwD), bkD l.2]
def shD (ls : List LY) (x y : Int) (ms : List MV) : PyData := .tuple [.tuple (ls.map lyD), winD x y ms]
def picD (c : PIC) : PyData := .tuple [.tuple (c.1.map .int), plD c.2]
theorem bkD_dp {K : PySem.W.Frag} {H : Hp} (o : Option Int) : Dp K H (bkV o) (bkD o) := by
  cases o with
  | none => exact .non
  | some i => exact .int i
theorem LyAt.dp {K : PySem.W.Frag} {H : Hp} {v : V} {l : LY} : LyAt K H v l → Dp K H v (lyD l) := by
  rintro ⟨p, rv, rfl, h, pr, vs, rfl, hq, pd⟩
  exact .tup h (.cons (.tup hq (dpAll_of (f := rwD) (fun _ _ h => RowAt.dp h) pd)) (.cons (bkD_dp _) .nil))
theorem ShAt.dp {K : PySem.W.Frag} {H : Hp} {v : V} {ls : List LY} {x y : Int} {ms : List MV} : ShAt K H v ls x y ms → Dp K H v (shD ls x y ms) := by
  rintro ⟨p, lv, wv, rfl, h, ⟨pl, vs, rfl, hq, pd⟩, hw⟩
  exact .tup h (.cons (.tup hq (dpAll_of (f := lyD) (fun _ _ h => LyAt.dp h) pd)) (.cons hw.dp .nil))
theorem ints_dp {K : PySem.W.Frag} {H : Hp} : ∀ ns : List Int, DpAll K H (ns.map V.int) (ns.map .int)
  | [] => .nil
  | n :: r => .cons (.int n) (ints_dp r)
theorem PicAt.dp {K : PySem.W.Frag} {H : Hp} {v : V} {c : PIC} : PicAt K H v c → Dp K H v (picD c) := by
  rintro ⟨a, b, v2, rfl, h, h1, h2⟩
  exact .tup h (.cons (.tup h1 (ints_dp _)) (.cons h2.dp .nil))
theorem mem2 {α : Type} {a b e : α} (h : e ∈ [a, b]) : e = a ∨ e = b := by
  simpa using h
theorem rwD_ro {r : RW} (h : VRow r) : RO 1 84 (rwD r) := by
  obtain ⟨h1, h2, h3, h4⟩ := h
  refine RO.tup (k := 0) (w := 41) (fun e he => ?_) (by show 2 * 42 ≤ 84; decide)
  rcases mem2 he with rfl | rfl <;> exact RO.int (by omega) (by omega)
theorem lyD_ro {l : LY} (h : VLy l) : RO 3 1362 (lyD l) := by
  obtain ⟨⟨h8, hr⟩, hb⟩ := h
  refine RO.tup (k := 2) (w := 680) (fun e he => ?_) (by show 2 * 681 ≤ 1362; decide)
  rcases mem2 he with rfl | rfl
  · refine RO.tup (k := 1) (w := 84) (fun e he => ?_) ?_
    · obtain ⟨r, hm, rfl⟩ := List.mem_map.mp he
      exact rwD_ro (hr r hm)
    · rw [List.length_map]
      omega
  · cases e : l.2 with
    | none => exact RO.none.more (by omega) (Nat.le_refl _)
    | some i =>
      have := hb i e
      exact (RO.int (by omega) (by omega)).more (by omega) (by omega)
theorem shD_ro {ls : List LY} {x y : Int} {ms : List MV} (h : VLays ls) (hw : VWin x y ms) : RO 5 10906 (shD ls x y ms) := by
  obtain ⟨h1, h4, hl⟩ := h
  refine RO.tup (k := 4) (w := 5452) (fun e he => ?_) (by show 2 * 5453 ≤ 10906; decide)
  rcases mem2 he with rfl | rfl
  · refine RO.tup (k := 3) (w := 1362) (fun e he => ?_) ?_
    · obtain ⟨l, hm, rfl⟩ := List.mem_map.mp he
      exact lyD_ro (hl l hm)
    · rw [List.length_map]
      omega
  · exact (winD_ro hw).more (by omega) (by omega)
theorem dOk_up : ∀ {n : Nat} {d : PyData}, dOk n d → dOk (n + 1) d
  | 0, _, h => .inl h
  | n + 1, _, .inl h => .inl h
  | n + 1, _, .inr ⟨ds, h1, h2, h3⟩ => .inr ⟨ds, h1, h2, fun e he => dOk_up (h3 e he)⟩
theorem dOk_pic {c : PIC} (h : c.1.length ≤ 1000) : dOk 3 (picD c) := by
  refine .inr ⟨_, .inr rfl, (by show 2 ≤ 1000; decide), fun e he => ?_⟩
  rcases mem2 he with rfl | rfl
  · refine dOk_up (n := 1) (.inr ⟨_, .inr rfl, by rw [List.length_map]; exact h, fun e he => ?_⟩)
    obtain ⟨i, _, rfl⟩ := List.mem_map.mp he
    exact fl_int i
  · exact dOk_pl _
theorem dOk_pics {cs : List PIC} (h : cs.length ≤ 1000) (hc : ∀ c ∈ cs, c.1.length ≤ 1000) : dOk 4 (.list (cs.map picD)) := by
  refine .inr ⟨_, .inl rfl, by rw [List.length_map]; exact h, fun e he => ?_⟩
  obtain ⟨c, hm, rfl⟩ := List.mem_map.mp he
  exact dOk_pic (hc c hm)
theorem lcmap_list {K : PySem.W.Frag} {a : Addr} {xs : List V} {g : TG} {tt : TT} {te : TE} {vs : List Nat} {σ : L2.St} {H1 : Hp} {D : Addr} {Qd : Hp → Prop} (ys : List V) (hl : ys.length = xs.length) (hz : xs.length ≤ 1000) (hS : SqL K H1 a xs) (hD : H1 D = none)
    (hs : ∀ (i : Nat) (x y : V) (H : Hp) (R : V → Hp → Prop) (Z : Hp → Prop), xs[i]? = some x → ys[i]? = some y → Same H1 H → (∀ H4, Same H H4 → R y H4) → g x (wipe σ vs) H fun σ2 H2 => wipe σ2 vs = wipe σ vs ∧ tt σ2 H2 fun b H3 => if b = true then te σ2 H3 R else Z H3)
    (hd : ∀ H, Same H1 H → H D = some (.lst ys) → Qd H) :
    ∃ W : Nat → Nat → Hp → Prop, (∃ m, W 0 m (upd H1 D (.lst []))) ∧ ∀ i m H, W i m H →
      ((Itl K a).stop i H ∧ Qd H) ∨ ((Itl K a).go i H ∧ ∃ Nx : Hp → Prop, (∀ H', Nx H' → ∃ m', m' < m ∧ W (i + 1) m' H') ∧ ∀ x H', (Itl K a).yld i H x H' → g x (wipe σ vs) H' fun σ2 H2 => wipe σ2 vs = wipe σ vs ∧ tt σ2 H2 fun b H3 =>
        if b = true then te σ2 H3 fun y H4 => ∃ acc, H4 D = some (.lst acc) ∧ acc.length < sizeLine ∧ Nx (upd H4 D (.lst (acc ++ [y]))) else Nx H3) := by
  refine lc_list (K := K) (a := a) (xs := xs) (fun i H => Same H1 H ∧ H D = some (.lst (ys.take i))) ⟨same_upd hD, upd_same⟩ (fun i H _ p => p.1.seq hS) (fun i x H hx p => ?_) (fun H p => ?_)
  · have hi : i < xs.length := (List.getElem?_eq_some_iff.mp hx).1
    obtain ⟨y, hy⟩ : ∃ y, ys[i]? = some y := ⟨_, List.getElem?_eq_getElem (by omega)⟩
    refine hs i x y H _ _ hx hy p.1 (fun H4 s4 => ⟨ys.take i, s4 _ _ p.2, ?_, ?_, ?_⟩)
    · rw [List.length_take]
      exact Nat.lt_of_le_of_lt (Nat.min_le_left _ _) (small1000 (by omega))
    · intro b o e
      rw [upd_ne (ne_of_none e hD)]
      exact s4 _ _ (p.1 _ _ e)
    · rw [upd_same, List.take_add_one, hy]
      rfl
  · refine hd H p.1 ?_
    rw [p.2, List.take_of_length_le (by omega)]
/-! ### laying -/
def rnd (rs : List RW) : Option Int → Int
  | none => 0
  | some b => tot (rs.drop b.toNat)
def lays (rs : List RW) (bk : Option Int) (n : Nat) : List V := (List.range n).map fun i => V.int (shown rs bk (i : Nat))
theorem lays_at {rs : List RW} {bk : Option Int} {n i : Nat} (h : i < n) : (lays rs bk n)[i]? = some (.int (shown rs bk (i : Nat))) := by
  unfold lays
  rw [List.getElem?_map, List.getElem?_range h]
  rfl
theorem lays_len (rs : List RW) (bk : Option Int) (n : Nat) : (lays rs bk n).length = n := by
  unfold lays
  rw [List.length_map, List.length_range]
theorem lays_of {rs : List RW} {bk : Option Int} {n : Nat} {fs : List Int} (hl : n ≤ fs.length) (h : ∀ i, i < fs.length → fs[i]? = some (shown rs bk (i : Nat))) : (fs.map V.int).take n = lays rs bk n := by
  apply List.ext_getElem?
  intro i
  by_cases hi : i < n
  · rw [lays_at hi, List.getElem?_take_of_lt hi, List.getElem?_map, h i (by omega)]
    rfl
  · rw [List.getElem?_eq_none (by rw [List.length_take]; omega), List.getElem?_eq_none (by rw [lays_len]; omega)]
/-! ### laid out, row by row -/
/-- a walk over J: Body tells what is asked of a turn, Qd what is asked at the end -/
abbrev Goes (J : It) (Body : V → Hp → (Hp → Prop) → Prop) (Hs : Hp) (Qd : Hp → Prop) : Prop :=
  ∃ W : Nat → Nat → Hp → Prop, (∃ m, W 0 m Hs) ∧ ∀ i m H, W i m H →
    (J.stop i H ∧ Qd H) ∨ (J.go i H ∧ ∃ Nx : Hp → Prop, (∀ H', Nx H' → ∃ m', m' < m ∧ W (i + 1) m' H') ∧ ∀ x H', J.yld i H x H' → Body x H' Nx)
/-- n turns: Pv i stands when i of them are done -/
theorem goes_by {J : It} {n : Nat} {Body : V → Hp → (Hp → Prop) → Prop} {Hs : Hp} {Qd : Hp → Prop} (Pv : Nat → Hp → Prop) (h0 : Pv 0 Hs) (last : ∀ H, Pv n H → J.stop n H ∧ Qd H)
    (turn : ∀ i H, i < n → Pv i H → J.go i H ∧ ∀ x H', J.yld i H x H' → Body x H' (Pv (i + 1))) : Goes J Body Hs Qd := by
  refine ⟨fun done left H => done + left = n ∧ Pv done H, ⟨n, Nat.zero_add n, h0⟩, fun i left H here => ?_⟩
  cases left with
  | zero =>
    obtain ⟨rfl, p⟩ := here
    exact .inl (last H p)
  | succ less =>
    have now := turn i H (by have := here.1; omega) here.2
    exact .inr ⟨now.1, Pv (i + 1), fun H' p => ⟨less, Nat.lt_succ_self less, by have := here.1; omega, p⟩, now.2⟩
theorem wk_tup {K : PySem.W.Frag} {a : Addr} {xs : List V} {Body : V → Hp → (Hp → Prop) → Prop} {Hs : Hp} {Qd : Hp → Prop} (Pv : Nat → Hp → Prop) (h0 : Pv 0 Hs) (hl : ∀ i H, i ≤ xs.length → Pv i H → SqT K H a xs)
    (hs : ∀ i x H, xs[i]? = some x → Pv i H → Body x H (Pv (i + 1))) (hd : ∀ H, Pv xs.length H → Qd H) : Goes (Itt K a) Body Hs Qd :=
  goes_by (n := xs.length) Pv h0 (fun H p => ⟨⟨xs, hl _ H (Nat.le_refl _) p, Nat.le_refl _⟩, hd H p⟩) fun i H lt p =>
    have stays := hl i H (Nat.le_of_lt lt) p
    ⟨⟨xs, _, stays, List.getElem?_eq_getElem lt⟩, fun x _ y => y.1 ▸ hs i x H (y.2 xs stays) p⟩
theorem wk_list {K : PySem.W.Frag} {a : Addr} {xs : List V} {Body : V → Hp → (Hp → Prop) → Prop} {Hs : Hp} {Qd : Hp → Prop} (Pv : Nat → Hp → Prop) (h0 : Pv 0 Hs) (hl : ∀ i H, i ≤ xs.length → Pv i H → SqL K H a xs)
    (hs : ∀ i x H, xs[i]? = some x → Pv i H → Body x H (Pv (i + 1))) (hd : ∀ H, Pv xs.length H → Qd H) : Goes (Itl K a) Body Hs Qd :=
  goes_by (n := xs.length) Pv h0 (fun H p => ⟨⟨xs, hl _ H (Nat.le_refl _) p, Nat.le_refl _⟩, hd H p⟩) fun i H lt p =>
    have stays := hl i H (Nat.le_of_lt lt) p
    ⟨⟨xs, _, stays, List.getElem?_eq_getElem lt⟩, fun x _ y => y.1 ▸ hs i x H (y.2 xs stays) p⟩
theorem wk_range {lo : Int} {n : Nat} {Body : V → Hp → (Hp → Prop) → Prop} {Hs : Hp} {Qd : Hp → Prop} (Pv : Nat → Hp → Prop) (h0 : Pv 0 Hs)
    (hs : ∀ i H, i < n → Pv i H → Body (.int (lo + i)) H (Pv (i + 1))) (hd : ∀ H, Pv n H → Qd H) : Goes (Itr lo n) Body Hs Qd :=
  goes_by Pv h0 (fun H p => ⟨Nat.le_refl n, hd H p⟩) fun i H lt p => ⟨lt, fun _ _ y => y.1 ▸ y.2 ▸ hs i H lt p⟩
theorem yes_ok2 {σ : L2.St} {H : Hp} {X Z : Hp → Prop} (h : X H) : tYes σ H (fun b H3 => if b = true then X H3 else Z H3) := by
  show if true = true then X H else Z H
  rw [if_pos rfl]
  exact h
def dwg : List RW → List Int
  | [] => []
  | r :: t => List.replicate r.2.toNat r.1 ++ dwg t
theorem dwg_append (a b : List RW) : dwg (a ++ b) = dwg a ++ dwg b := by
  induction a with
  | nil => rfl
  | cons r t ih => rw [List.cons_append, dwg, dwg, ih, List.append_assoc]
theorem dwg_len : ∀ {rs : List RW}, (∀ r ∈ rs, VRow r) → ((dwg rs).length : Int) = tot rs
  | [], _ => rfl
  | r :: t, v => by
    have v1 := v r (List.mem_cons_self ..)
    have ih := dwg_len (rs := t) fun q hq => v q (List.mem_cons_of_mem _ hq)
    rw [dwg, List.length_append, List.length_replicate, tot_cons]
    obtain ⟨_, _, h3, _⟩ := v1
    omega
theorem dwg_at : ∀ {rs : List RW} {i : Nat}, (∀ r ∈ rs, VRow r) → (i : Int) < tot rs → (dwg rs)[i]? = some (walk rs i)
  | [], i, _, h => by
    rw [tot_nil] at h
    omega
  | r :: t, i, v, h => by
    have v1 := v r (List.mem_cons_self ..)
    have vt : ∀ q ∈ t, VRow q := fun q hq => v q (List.mem_cons_of_mem _ hq)
    obtain ⟨_, _, h3, _⟩ := v1
    rw [tot_cons] at h
    rw [dwg]
    unfold walk
    by_cases c : (i : Int) < r.2
    · rw [if_pos c, List.getElem?_append_left (by rw [List.length_replicate]; omega), List.getElem?_replicate, if_pos (by omega)]
    · rw [if_neg c, List.getElem?_append_right (by rw [List.length_replicate]; omega), List.length_replicate]
      have := dwg_at (rs := t) (i := i - r.2.toNat) vt (by omega)
      rw [this]
      congr 2
      omega
theorem walk_cons (r : RW) (t : List RW) (m : Int) : walk (r :: t) m = if m < r.2 then r.1 else walk t (m - r.2) := rfl
theorem walk_append : ∀ {a b : List RW} {m : Int}, (∀ r ∈ a, VRow r) → 0 ≤ m → walk (a ++ b) m = if m < tot a then walk a m else walk b (m - tot a)
  | [], b, m, _, h => by
    rw [tot_nil, if_neg (by omega), List.nil_append, show m - 0 = m by omega]
  | r :: t, b, m, v, h => by
    have v1 := v r (List.mem_cons_self ..)
    have vt : ∀ q ∈ t, VRow q := fun q hq => v q (List.mem_cons_of_mem _ hq)
    have t0 := (tot_nonneg vt).1
    obtain ⟨_, _, h3, _⟩ := v1
    rw [List.cons_append, tot_cons, walk_cons, walk_cons]
    by_cases c : m < r.2
    · rw [if_pos c, if_pos (by omega), if_pos c]
    · rw [if_neg c, walk_append vt (by omega), if_neg c]
      by_cases d : m < r.2 + tot t
      · rw [if_pos d, if_pos (by omega)]
      · rw [if_neg d, if_neg (by omega), show m - r.2 - tot t = m - (r.2 + tot t) by omega]
theorem rep_at {α : Type} {B : List α} (hB : 0 < B.length) : ∀ (t j : Nat), j < t * B.length → (List.replicate t B).flatten[j]? = B[j % B.length]?
  | 0, j, h => by omega
  | t + 1, j, h => by
    rw [List.replicate_succ, List.flatten_cons]
    by_cases c : j < B.length
    · rw [List.getElem?_append_left c, Nat.mod_eq_of_lt c]
    · rw [List.getElem?_append_right (by omega), rep_at hB t (j - B.length) (by rw [Nat.add_mul, Nat.one_mul] at h; omega), ← Nat.mod_eq_sub_mod (by omega)]
/-- what a layer shows: ahead once, around again and again -/
def ahL (rs : List RW) : Option Int → List Int
  | none => dwg rs
  | some b => dwg (rs.take b.toNat)
def arL (rs : List RW) : Option Int → List Int
  | none => [0]
  | some b => dwg (rs.drop b.toNat)
theorem VRows.takeV {rs : List RW} (v : VRows rs) (k : Nat) : VRows (rs.take k) := ⟨by rw [List.length_take]; have := v.1; omega, fun r hr => v.2 r (List.mem_of_mem_take hr)⟩
theorem VRows.dropV {rs : List RW} (v : VRows rs) (k : Nat) : VRows (rs.drop k) := ⟨by rw [List.length_drop]; have := v.1; omega, fun r hr => v.2 r (List.mem_of_mem_drop hr)⟩
theorem ahL_len {rs : List RW} {bk : Option Int} (v : VRows rs) : (ahL rs bk).length ≤ 192 := by
  cases bk with
  | none =>
    have h := dwg_len v.2
    have t := (tot_nonneg v.2).2
    have := v.1
    show (dwg rs).length ≤ 192
    omega
  | some b =>
    have h := dwg_len (v.takeV b.toNat).2
    have t := (tot_nonneg (v.takeV b.toNat).2).2
    have := (v.takeV b.toNat).1
    show (dwg (rs.take b.toNat)).length ≤ 192
    omega
theorem arL_len {rs : List RW} {bk : Option Int} (v : VRows rs) (vb : VBack rs bk) : 1 ≤ (arL rs bk).length ∧ (arL rs bk).length ≤ 192 := by
  cases bk with
  | none => exact ⟨Nat.le_refl _, by show 1 ≤ 192; omega⟩
  | some b =>
    have hb := vb b rfl
    have h := dwg_len (v.dropV b.toNat).2
    have t := tot_nonneg (v.dropV b.toNat).2
    have := v.1
    rw [List.length_drop] at t
    show 1 ≤ (dwg (rs.drop b.toNat)).length ∧ (dwg (rs.drop b.toNat)).length ≤ 192
    omega
theorem shown_lay {rs : List RW} {bk : Option Int} (v : VRows rs) (vb : VBack rs bk) (i : Nat) :
    some (shown rs bk i) = if i < (ahL rs bk).length then (ahL rs bk)[i]? else (arL rs bk)[(i - (ahL rs bk).length) % (arL rs bk).length]? := by
  cases bk with
  | none =>
    have h := dwg_len v.2
    show some (walk rs i) = if i < (dwg rs).length then (dwg rs)[i]? else ([0] : List Int)[(i - (dwg rs).length) % 1]?
    by_cases c : i < (dwg rs).length
    · rw [if_pos c, dwg_at v.2 (by omega)]
    · rw [if_neg c, walk_out rs i (by omega) v.2, Nat.mod_one]
      rfl
  | some b =>
    have hb := vb b rfl
    have h := dwg_len (v.takeV b.toNat).2
    have h2 := dwg_len (v.dropV b.toNat).2
    have t2 := (tot_nonneg (v.dropV b.toNat).2).1
    rw [List.length_drop] at t2
    have cpos : 0 < tot (rs.drop b.toNat) := by omega
    show some (walk rs (if (i : Int) < tot (rs.take b.toNat) then (i : Int) else tot (rs.take b.toNat) + ((i : Int) - tot (rs.take b.toNat)) % tot (rs.drop b.toNat))) = if i < (dwg (rs.take b.toNat)).length then (dwg (rs.take b.toNat))[i]? else (dwg (rs.drop b.toNat))[(i - (dwg (rs.take b.toNat)).length) % (dwg (rs.drop b.toNat)).length]?
    have wa := fun m h0 => walk_append (a := rs.take b.toNat) (b := rs.drop b.toNat) (m := m) (v.takeV b.toNat).2 h0
    rw [List.take_append_drop] at wa
    by_cases c : i < (dwg (rs.take b.toNat)).length
    · rw [if_pos c, if_pos (by omega), wa _ (by omega), if_pos (by omega), dwg_at (v.takeV b.toNat).2 (by omega)]
    · have m0 := Int.emod_nonneg ((i : Int) - tot (rs.take b.toNat)) (show tot (rs.drop b.toNat) ≠ 0 by omega)
      have m1 := Int.emod_lt_of_pos ((i : Int) - tot (rs.take b.toNat)) cpos
      have t1 := (tot_nonneg (v.takeV b.toNat).2).1
      have em : (((i - (dwg (rs.take b.toNat)).length) % (dwg (rs.drop b.toNat)).length : Nat) : Int) = ((i : Int) - tot (rs.take b.toNat)) % tot (rs.drop b.toNat) := by
        rw [Int.natCast_emod, h2, Int.natCast_sub (by omega), h]
      rw [if_neg c, if_neg (by omega), wa _ (by omega), if_neg (by omega), dwg_at (v.dropV b.toNat).2 (by omega), em]
      congr 2
      omega
def laysI (rs : List RW) (bk : Option Int) (n : Nat) : List Int := (List.range n).map fun i => shown rs bk (i : Nat)
theorem laysI_map (rs : List RW) (bk : Option Int) (n : Nat) : lays rs bk n = (laysI rs bk n).map V.int := by
  unfold lays laysI
  rw [List.map_map]
  rfl
theorem first_lay {rs : List RW} {bk : Option Int} (v : VRows rs) (vb : VBack rs bk) {n t : Nat} (ht : n ≤ (ahL rs bk).length + t * (arL rs bk).length) :
    ((ahL rs bk) ++ (List.replicate t (arL rs bk)).flatten).take n = laysI rs bk n := by
  have hp := (arL_len v vb).1
  apply List.ext_getElem?
  intro i
  unfold laysI
  by_cases hi : i < n
  · rw [List.getElem?_take_of_lt hi, List.getElem?_map, List.getElem?_range hi]
    show _ = some (shown rs bk (i : Nat))
    rw [shown_lay v vb]
    by_cases c : i < (ahL rs bk).length
    · rw [if_pos c, List.getElem?_append_left c]
    · rw [if_neg c, List.getElem?_append_right (by omega), rep_at (by omega) t _ (by omega)]
  · rw [List.getElem?_eq_none (by rw [List.length_take]; omega), List.getElem?_eq_none (by rw [List.length_map, List.length_range]; omega)]
/-! ### data that is compared -/
mutual
def nb : PyData → Bool
  | .none => true
  | .int _ => true
  | .str x => PyData.strOk x
  | .bool _ => false
  | .list xs => nbs xs
  | .tuple xs => nbs xs
  | .dict _ => false
def nbs : List PyData → Bool
  | [] => true
  | x :: xs => nb x && nbs xs
end
theorem nbs_all : ∀ {xs : List PyData}, (∀ x ∈ xs, nb x = true) → nbs xs = true
  | [], _ => rfl
  | x :: xs, h => by
    show (nb x && nbs xs) = true
    rw [h x (List.mem_cons_self ..), nbs_all fun y hy => h y (List.mem_cons_of_mem _ hy)]
    rfl
mutual
theorem nb_can : ∀ d : PyData, nb d = true → d.canLay0 = true
  | .none, _ => rfl
  | .int _, _ => rfl
  | .str x, h => h
  | .bool _, h => nomatch h
  | .list xs, h => nbs_can xs h
  | .tuple xs, h => nbs_can xs h
  | .dict _, h => nomatch h
theorem nbs_can : ∀ xs : List PyData, nbs xs = true → PyData.canLayAll0 xs = true
  | [], _ => rfl
  | x :: xs, h => by
    have h' : (nb x && nbs xs) = true := h
    rw [Bool.and_eq_true] at h'
    show (x.canLay0 && PyData.canLayAll0 xs) = true
    rw [nb_can x h'.1, nbs_can xs h'.2]
    rfl
end
mutual
theorem nb_eq : ∀ d e : PyData, nb d = true → nb e = true → (PyData.eqv d e = true → d = e)
  | .none, e, _, h => by cases e <;> first | (intro _; rfl) | (intro z; cases z) | (cases h)
  | .int i, e, _, h => by
    cases e <;> first | (intro z; cases z) | (cases h) | skip
    intro z
    rw [PyData.eqv] at z
    rw [eq_of_beq z]
  | .str x, e, _, h => by
    cases e <;> first | (intro z; cases z) | (cases h) | skip
    intro z
    rw [PyData.eqv] at z
    rw [eq_of_beq z]
  | .bool _, _, h, _ => nomatch h
  | .list xs, e, h0, h => by
    cases e <;> first | (intro z; cases z) | (cases h) | skip
    intro z
    rw [PyData.eqv] at z
    rw [nbs_eq xs _ h0 h z]
  | .tuple xs, e, h0, h => by
    cases e <;> first | (intro z; cases z) | (cases h) | skip
    intro z
    rw [PyData.eqv] at z
    rw [nbs_eq xs _ h0 h z]
  | .dict _, _, h, _ => nomatch h
theorem nbs_eq : ∀ xs ys : List PyData, nbs xs = true → nbs ys = true → (PyData.eqvAll xs ys = true → xs = ys)
  | [], [], _, _ => fun _ => rfl
  | [], _ :: _, _, _ => fun z => nomatch z
  | _ :: _, [], _, _ => fun z => nomatch z
  | x :: xs, y :: ys, h0, h => by
    intro z
    have h0' : (nb x && nbs xs) = true := h0
    have h' : (nb y && nbs ys) = true := h
    rw [Bool.and_eq_true] at h0' h'
    rw [PyData.eqvAll, Bool.and_eq_true] at z
    rw [nb_eq x y h0'.1 h'.1 z.1, nbs_eq xs ys h0'.2 h'.2 z.2]
end
theorem nb_eqv {d e : PyData} (h0 : nb d = true) (h : nb e = true) : PyData.eqv d e = true ↔ d = e :=
  ⟨nb_eq d e h0 h, fun z => by rw [z]; exact SeqAt.eqv_refl e (nb_can e h)⟩
/-- may be compared: depth at most k -/
structure Sd (k : Nat) (d : PyData) : Prop where
  nb : nb d = true
  dp : d.depth ≤ k
theorem Sd.int {k : Nat} (i : Int) : Sd k (.int i) := ⟨rfl, Nat.zero_le _⟩
theorem Sd.none {k : Nat} : Sd k .none := ⟨rfl, Nat.zero_le _⟩
theorem Sd.more {k k' : Nat} {d : PyData} (h : Sd k d) (h1 : k ≤ k') : Sd k' d := ⟨h.nb, Nat.le_trans h.dp h1⟩
theorem sd_all {k : Nat} : ∀ {ds : List PyData}, (∀ e ∈ ds, Sd k e) → PyData.depthAll ds ≤ k
  | [], _ => Nat.zero_le _
  | d :: t, h => Nat.max_le.mpr ⟨(h d (List.mem_cons_self ..)).dp, sd_all fun x hx => h x (List.mem_cons_of_mem _ hx)⟩
theorem Sd.tup {k : Nat} {ds : List PyData} (h : ∀ e ∈ ds, Sd k e) : Sd (k + 1) (.tuple ds) := ⟨nbs_all fun x hx => (h x hx).nb, Nat.succ_le_succ (sd_all h)⟩
theorem Sd.lst {k : Nat} {ds : List PyData} (h : ∀ e ∈ ds, Sd k e) : Sd (k + 1) (.list ds) := ⟨nbs_all fun x hx => (h x hx).nb, Nat.succ_le_succ (sd_all h)⟩
theorem Sd.sh {k : Nat} {d : PyData} (h : Sd k d) (hk : k ≤ 64) : SeqAt.shaped d = true := by
  show (d.canLay0 && decide (d.depth ≤ 64)) = true
  rw [nb_can d h.nb, decide_eq_true (Nat.le_trans h.dp hk)]
  rfl
theorem Sd.ints {ns : List Int} : Sd 1 (.list (ns.map .int)) := Sd.lst fun e he => by
  obtain ⟨i, _, rfl⟩ := List.mem_map.mp he
  exact Sd.int i
theorem Sd.intsT {ns : List Int} : Sd 1 (.tuple (ns.map .int)) := Sd.tup fun e he => by
  obtain ⟨i, _, rfl⟩ := List.mem_map.mp he
  exact Sd.int i
theorem ints_inj {ns ms : List Int} : ns.map PyData.int = ms.map PyData.int ↔ ns = ms :=
  ⟨fun h => List.map_inj_right (fun _ _ e => PyData.int.inj e) |>.mp h, fun h => by rw [h]⟩
theorem eqv_ints (ns ms : List Int) : PyData.eqv (.list (ns.map .int)) (.list (ms.map .int)) = decide (ns = ms) := by
  have h := nb_eqv (Sd.ints (ns := ns)).nb (Sd.ints (ns := ms)).nb
  by_cases e : ns = ms
  · rw [decide_eq_true e]
    exact h.mpr (by rw [e])
  · rw [decide_eq_false e]
    exact Bool.eq_false_iff.mpr fun z => e (ints_inj.mp (PyData.list.inj (h.mp z)))
/-- x != y of data: the readings -/
theorem ne_data {K : PySem.W.Frag} {H : Hp} {x y : V} {d e : PyData} {k : Nat} {Q : VK} (hx : Dp K H x d) (hy : Dp K H y e) (sd : Sd k d) (se : Sd k e) (hk : k ≤ 64) (q : ∀ b : Bool, (b = true ↔ d = e) → Q (.bl (!b)) H) : rNeD K x y H Q :=
  ⟨d, e, hx, hy, sd.sh hk, se.sh hk, q _ (nb_eqv sd.nb se.nb)⟩
theorem ne_same {K : PySem.W.Frag} {H : Hp} {x y : V} {d : PyData} {k : Nat} {Q : VK} (hx : Dp K H x d) (hy : Dp K H y d) (sd : Sd k d) (hk : k ≤ 64) (q : Q (.bl false) H) : rNeD K x y H Q :=
  ⟨d, d, hx, hy, sd.sh hk, sd.sh hk, by rw [(nb_eqv sd.nb sd.nb).mpr rfl]; exact q⟩
theorem eq_data {K : PySem.W.Frag} {H : Hp} {x y : V} {d e : PyData} {k : Nat} {Q : VK} (hx : Dp K H x d) (hy : Dp K H y e) (sd : Sd k d) (se : Sd k e) (hk : k ≤ 64) (q : ∀ b : Bool, (b = true ↔ d = e) → Q (.bl b) H) : rEqD K x y H Q :=
  ⟨d, e, hx, hy, sd.sh hk, se.sh hk, q _ (nb_eqv sd.nb se.nb)⟩
theorem ne_ints {K : PySem.W.Frag} {H : Hp} {x y : Addr} {ns ms : List Int} {Q : VK} (hx : SqL K H x (ns.map V.int)) (hy : SqL K H y (ms.map V.int)) (q : Q (.bl (!decide (ns = ms))) H) : rNeD K (.ref x) (.ref y) H Q :=
  ⟨_, _, .lst hx (ints_dp _), .lst hy (ints_dp _), Sd.ints.sh (by decide), Sd.ints.sh (by decide), by rw [eqv_ints]; exact q⟩
theorem ints_dpl {K : PySem.W.Frag} {H : Hp} {p : Addr} {ns : List Int} (h : SqL K H p (ns.map V.int)) : Dp K H (.ref p) (.list (ns.map .int)) := .lst h (ints_dp _)
theorem while_R {c : TT} {tb : TS} {D : Ends} {σ : L2.St} {H : Hp} (Pv : L2.St → Hp → Prop) (μ : L2.St → Hp → Nat) (h0 : Pv σ H)
    (hs : ∀ σ H, Pv σ H → ∀ R : Bool → Hp → Prop, (∀ H1, tb { D with nx := fun σ' H' => Pv σ' H' ∧ μ σ' H' < μ σ H, ct := fun σ' H' => Pv σ' H' ∧ μ σ' H' < μ σ H, bk := D.nx } σ H1 → R true H1) → (∀ H1, D.nx σ H1 → R false H1) → c σ H R) : tWhile c tb D σ H := by
  refine ⟨fun m σ H => m = μ σ H ∧ Pv σ H, ⟨_, rfl, h0⟩, ?_⟩
  rintro m σ H ⟨rfl, p⟩
  refine hs σ H p _ (fun H1 h => ?_) (fun H1 h => ?_)
  · show if true = true then _ else _
    rw [if_pos rfl]
    exact ⟨_, fun σ' H' ⟨p', l⟩ => ⟨_, l, rfl, p'⟩, h⟩
  · show if false = true then _ else _
    rw [if_neg (by decide)]
    exact h
/-! ### what comes again and again -/
section
variable {f : Nat → Int}
theorem per_mul {A m : Nat} (h : ∀ t, A ≤ t → f (t + m) = f t) : ∀ (k t : Nat), A ≤ t → f (t + m * k) = f t
  | 0, t, _ => by rw [Nat.mul_zero, Nat.add_zero]
  | k + 1, t, ht => by rw [Nat.mul_succ, ← Nat.add_assoc, h _ (by omega), per_mul h k t ht]
theorem per_mod {A m n : Nat} (h : ∀ t, A ≤ t → f (t + m) = f t) (h' : ∀ t, A ≤ t → f (t + n) = f t) : ∀ t, A ≤ t → f (t + n % m) = f t := fun t ht => by
  rw [← per_mul h (n / m) _ (show A ≤ t + n % m by omega), Nat.add_assoc, Nat.mod_add_div, h' t ht]
theorem per_ev {A c m B : Nat} (hc : 1 ≤ c) (hp : ∀ t, A ≤ t → f (t + c) = f t) (h : ∀ t, B ≤ t → f (t + m) = f t) : ∀ t, A ≤ t → f (t + m) = f t := fun t ht => by
  have hb : B ≤ c * B := Nat.le_mul_of_pos_left B hc
  rw [← per_mul hp B t ht, ← h (t + c * B) (by omega), ← per_mul hp B (t + m) (by omega)]
  congr 1
  omega
/-- the least round -/
structure Lst (f : Nat → Int) (a m : Nat) : Prop where
  m1 : 1 ≤ m
  per : ∀ t, a ≤ t → f (t + m) = f t
  dvd : ∀ n B, (∀ t, B ≤ t → f (t + n) = f t) → m ∣ n
  fst : ∀ b, b + 1 = a → f (b + m) ≠ f b
theorem ex_least {A c : Nat} (hc : 1 ≤ c) (hp : ∀ t, A ≤ t → f (t + c) = f t) : ∃ m, 1 ≤ m ∧ m ≤ c ∧ (∀ t, A ≤ t → f (t + m) = f t) ∧ ∀ k, 1 ≤ k → (∀ t, A ≤ t → f (t + k) = f t) → m ≤ k := by
  induction c using Nat.strongRecOn with
  | ind c ih =>
    by_cases h : ∃ k, 1 ≤ k ∧ k < c ∧ ∀ t, A ≤ t → f (t + k) = f t
    · obtain ⟨k, k1, kc, kp⟩ := h
      obtain ⟨m, m1, mk, r⟩ := ih k kc k1 kp
      exact ⟨m, m1, by omega, r⟩
    · refine ⟨c, hc, Nat.le_refl _, hp, fun k k1 kp => ?_⟩
      exact Nat.le_of_not_lt fun z => h ⟨k, k1, z, kp⟩
/-- the least many, then the least ahead -/
theorem lst_of {A c m a : Nat} (hc : 1 ≤ c) (hp : ∀ t, A ≤ t → f (t + c) = f t) (m1 : 1 ≤ m) (hm : ∀ t, A ≤ t → f (t + m) = f t) (least : ∀ k, 1 ≤ k → k < m → c % k = 0 → ¬ ∀ t, A ≤ t → f (t + k) = f t)
    (ha : a ≤ A) (hb : ∀ t, a ≤ t → t < A → f (t + m) = f t) (hf : ∀ b, b + 1 = a → f (b + m) ≠ f b) : Lst f a m := by
  obtain ⟨n, n1, nc, np, nl⟩ := ex_least hc hp
  have div : ∀ k, (∀ t, A ≤ t → f (t + k) = f t) → n ∣ k := fun k kp => by
    apply Nat.dvd_of_mod_eq_zero
    rcases Nat.eq_zero_or_pos (k % n) with z | z
    · exact z
    · have := nl (k % n) z (per_mod np kp)
      have := Nat.mod_lt k (show 0 < n by omega)
      omega
  have e : m = n := by
    have h1 := Nat.le_of_dvd (by omega) (div m hm)
    rcases Nat.lt_or_ge n m with z | z
    · exact absurd np (least n n1 z (Nat.mod_eq_zero_of_dvd (div c hp)))
    · omega
  subst e
  refine ⟨m1, fun t ht => ?_, fun k B h => div k (per_ev hc hp h), hf⟩
  rcases Nat.lt_or_ge t A with z | z
  · exact hb t ht z
  · exact hm t z
theorem Lst.uniq {a m a' m' : Nat} (h : Lst f a m) (h' : Lst f a' m') : a = a' ∧ m = m' := by
  have e : m = m' := Nat.dvd_antisymm (h.dvd m' a' h'.per) (h'.dvd m a h.per)
  subst e
  refine ⟨?_, rfl⟩
  rcases Nat.lt_trichotomy a a' with z | z | z
  · exact absurd (h.per (a' - 1) (by omega)) (h'.fst (a' - 1) (by omega))
  · exact z
  · exact absurd (h'.per (a - 1) (by omega)) (h.fst (a - 1) (by omega))
/-- rounds by the least one -/
theorem Lst.iff {a m : Nat} (h : Lst f a m) (b n : Nat) (n1 : 1 ≤ n) : (∀ t, b ≤ t → f (t + n) = f t) ↔ a ≤ b ∧ m ∣ n := by
  constructor
  · intro hp
    have d := h.dvd n b hp
    refine ⟨?_, d⟩
    rcases Nat.lt_or_ge b a with z | z
    · obtain ⟨k, rfl⟩ := d
      have k1 : 1 ≤ k := by
        rcases Nat.eq_zero_or_pos k with z | z
        · rw [z] at n1
          omega
        · exact z
      exfalso
      refine h.fst (a - 1) (by omega) ?_
      have e := hp (a - 1) (by omega)
      have e2 := per_mul h.per (k - 1) (a - 1 + m) (by have := h.m1; omega)
      rw [show a - 1 + m + m * (k - 1) = a - 1 + m * k by
        obtain ⟨j, rfl⟩ : ∃ j, k = j + 1 := ⟨k - 1, by omega⟩
        rw [Nat.add_sub_cancel, Nat.mul_succ]
        omega, e] at e2
      exact e2.symm
    · exact z
  · rintro ⟨z, k, rfl⟩ t ht
    exact per_mul h.per k t (by omega)
def seg (f : Nat → Int) (A c : Nat) : List Int := (List.range c).map fun j => f (A + j)
theorem seg_len (A c : Nat) : (seg f A c).length = c := by
  unfold seg
  rw [List.length_map, List.length_range]
theorem seg_at {A c i : Nat} (h : i < c) : (seg f A c)[i]? = some (f (A + i)) := by
  unfold seg
  rw [List.getElem?_map, List.getElem?_range h]
  rfl
theorem rot_at {A c m j : Nat} (hp : ∀ t, A ≤ t → f (t + c) = f t) (hm : m ≤ c) (hj : j < c) : ((seg f A c).drop m ++ (seg f A c).take m)[j]? = some (f (A + j + m)) := by
  by_cases h : j < c - m
  · rw [List.getElem?_append_left (by rw [List.length_drop, seg_len]; exact h), List.getElem?_drop, seg_at (by omega)]
    congr 2
    omega
  · rw [List.getElem?_append_right (by rw [List.length_drop, seg_len]; omega), List.length_drop, seg_len, List.getElem?_take_of_lt (by omega), seg_at (by omega), ← hp _ (by omega)]
    congr 2
    omega
theorem rot_iff {A c m : Nat} (hc : 1 ≤ c) (hp : ∀ t, A ≤ t → f (t + c) = f t) (hm : m ≤ c) : (seg f A c).drop m ++ (seg f A c).take m = seg f A c ↔ ∀ t, A ≤ t → f (t + m) = f t := by
  constructor
  · intro h t ht
    have l := Nat.mod_lt (t - A) (show 0 < c by omega)
    have e := rot_at hp hm l
    rw [h, seg_at l] at e
    have e1 := Option.some.inj e
    have q := Nat.mod_add_div (t - A) c
    have e2 := per_mul hp ((t - A) / c) (A + (t - A) % c) (by omega)
    have e3 := per_mul hp ((t - A) / c) (A + (t - A) % c + m) (by omega)
    rw [show A + (t - A) % c + c * ((t - A) / c) = t by omega] at e2
    rw [show A + (t - A) % c + m + c * ((t - A) / c) = t + m by omega] at e3
    rw [e2, e3]
    exact e1.symm
  · intro h
    apply List.ext_getElem?
    intro i
    by_cases hi : i < c
    · rw [rot_at hp hm hi, seg_at hi, h _ (by omega)]
    · rw [List.getElem?_eq_none (by rw [List.length_append, List.length_drop, List.length_take, seg_len]; omega), List.getElem?_eq_none (by rw [seg_len]; omega)]
end
/-- what a layer shows, by the moment -/
def shN (rs : List RW) (bk : Option Int) (t : Nat) : Int := shown rs bk (t : Nat)
theorem shN_per {rs : List RW} {bk : Option Int} (v : VRows rs) (vb : VBack rs bk) : ∀ t, (ahL rs bk).length ≤ t → shN rs bk (t + (arL rs bk).length) = shN rs bk t := fun t ht => by
  have e1 := shown_lay v vb t
  have e2 := shown_lay v vb (t + (arL rs bk).length)
  rw [if_neg (by omega)] at e1 e2
  rw [show t + (arL rs bk).length - (ahL rs bk).length = t - (ahL rs bk).length + (arL rs bk).length by omega, Nat.add_mod_right] at e2
  exact Option.some.inj (e2.trans e1.symm)
theorem arL_seg {rs : List RW} {bk : Option Int} (v : VRows rs) (vb : VBack rs bk) : arL rs bk = seg (shN rs bk) (ahL rs bk).length (arL rs bk).length := by
  apply List.ext_getElem?
  intro i
  by_cases hi : i < (arL rs bk).length
  · rw [seg_at hi]
    show _ = some (shown rs bk (((ahL rs bk).length + i : Nat) : Int))
    rw [shown_lay v vb, if_neg (by omega), Nat.add_sub_cancel_left, Nat.mod_eq_of_lt hi]
  · rw [List.getElem?_eq_none (by omega), List.getElem?_eq_none (by rw [seg_len]; omega)]
theorem aa_at {rs : List RW} {bk : Option Int} (v : VRows rs) (vb : VBack rs bk) {i : Nat} (h : i < (ahL rs bk).length + (arL rs bk).length) : (ahL rs bk ++ arL rs bk)[i]? = some (shN rs bk i) := by
  show _ = some (shown rs bk (i : Nat))
  rw [shown_lay v vb]
  by_cases c : i < (ahL rs bk).length
  · rw [if_pos c, List.getElem?_append_left c]
  · rw [if_neg c, List.getElem?_append_right (by omega), Nat.mod_eq_of_lt (by omega)]
/-! ### helpers of the laws over rounds -/
theorem Paired.appP {α β : Type} {F : α → β → Prop} : ∀ {l₁ m₁ : List α} {l₂ m₂ : List β}, Paired F l₁ l₂ → Paired F m₁ m₂ → Paired F (l₁ ++ m₁) (l₂ ++ m₂)
  | _, _, _, _, .nil, h => h
  | _, _, _, _, .cons r t, h => .cons r (Paired.appP t h)
theorem Paired.repP {α β : Type} {F : α → β → Prop} {l₁ : List α} {l₂ : List β} (h : Paired F l₁ l₂) : ∀ n, Paired F (List.replicate n l₁).flatten (List.replicate n l₂).flatten
  | 0 => .nil
  | n + 1 => by
    rw [List.replicate_succ, List.replicate_succ, List.flatten_cons, List.flatten_cons]
    exact Paired.appP h (Paired.repP h n)
theorem mem_rep {α : Type} {l : List α} {x : α} {n : Nat} (h : x ∈ (List.replicate n l).flatten) : x ∈ l := by
  obtain ⟨m, hm, hx⟩ := List.mem_flatten.mp h
  rw [(List.mem_replicate.mp hm).2] at hx
  exact hx
theorem len_rep {α : Type} {l : List α} {n : Nat} : (List.replicate n l).flatten.length = n * l.length := by
  rw [List.length_flatten, List.map_replicate, List.sum_replicate_nat]
theorem cut_mid {xs : List V} {a b : Nat} (h : a ≤ b) (h2 : b ≤ xs.length) : cutV xs (some (a : Int)) (some (b : Int)) = (xs.drop a).take (b - a) := by
  unfold cutV
  rw [HT.sIx_nat, HT.sIx_nat, Nat.min_eq_left h2, Nat.min_eq_left (show a ≤ xs.length by omega)]
theorem lays_cut {rs : List RW} {bk : Option Int} {n a b : Nat} (h : a ≤ b) (h2 : b ≤ n) : cutV (lays rs bk n) (some (a : Int)) (some (b : Int)) = (seg (shN rs bk) a (b - a)).map V.int := by
  rw [cut_mid h (by rw [lays_len]; exact h2)]
  apply List.ext_getElem?
  intro i
  by_cases hi : i < b - a
  · rw [List.getElem?_take_of_lt hi, List.getElem?_drop, lays_at (by omega), List.getElem?_map, seg_at hi]
    rfl
  · rw [List.getElem?_eq_none (by rw [List.length_take]; omega), List.getElem?_eq_none (by rw [List.length_map, seg_len]; omega)]
theorem cut_opt {rs : List RW} {bk : Option Int} (vb : VBack rs bk) (xs : List V) : cutV xs none bk = match bk with | none => xs | some b => xs.take b.toNat := by
  cases bk with
  | none => exact cut_all xs
  | some b =>
    have hb := vb b rfl
    obtain ⟨k, rfl⟩ : ∃ k : Nat, b = (k : Int) := ⟨b.toNat, by omega⟩
    exact cut_to xs k
def ahd (rs : List RW) : Option Int → List RW
  | none => rs
  | some b => rs.take b.toNat
def siz (rs : List RW) : Option Int → Int
  | none => 1
  | some b => tot (rs.drop b.toNat)
theorem siz_pos {rs : List RW} {bk : Option Int} (v : VRows rs) (vb : VBack rs bk) : 1 ≤ siz rs bk ∧ siz rs bk ≤ 192 := by
  obtain ⟨v8, vr⟩ := v
  cases bk with
  | none => exact ⟨by show (1 : Int) ≤ 1; omega, by show (1 : Int) ≤ 192; omega⟩
  | some b =>
    have hb := vb b rfl
    have := tot_nonneg (rs := rs.drop b.toNat) fun q hq => vr q (List.mem_of_mem_drop hq)
    rw [List.length_drop] at this
    obtain ⟨t1, t2⟩ := this
    constructor
    · show 1 ≤ tot (rs.drop b.toNat)
      omega
    · show tot (rs.drop b.toNat) ≤ 192
      omega
theorem siz_len {rs : List RW} {bk : Option Int} (v : VRows rs) : siz rs bk = ((arL rs bk).length : Int) := by
  cases bk with
  | none => rfl
  | some b => exact (dwg_len (v.dropV b.toNat).2).symm
theorem ahL_tot {rs : List RW} {bk : Option Int} (v : VRows rs) : ((ahL rs bk).length : Int) ≤ tot rs := by
  cases bk with
  | none => exact Int.le_of_eq (dwg_len v.2)
  | some b =>
    show ((dwg (rs.take b.toNat)).length : Int) ≤ tot rs
    have h := dwg_len (v.takeV b.toNat).2
    have s := tot_split rs b.toNat
    have t := (tot_nonneg (v.dropV b.toNat).2).1
    omega
/-- by the whole length and the round's size -/
theorem per_whole {rs : List RW} {bk : Option Int} (v : VRows rs) (vb : VBack rs bk) {W c : Nat} (hW : (W : Int) = tot rs) (hc : (c : Int) = siz rs bk) : ∀ t, W ≤ t → shN rs bk (t + c) = shN rs bk t := fun t ht => by
  have e := siz_len (bk := bk) v
  have a := ahL_tot (bk := bk) v
  rw [show c = (arL rs bk).length by omega]
  exact shN_per v vb t (by omega)
theorem Gr.keepRow {st : Addr} {K : PySem.W.Frag} {H H' : Hp} (g : Gr st H H') (s : IsSt H st) {vs : List V} {rs : List RW} (p : Paired (RowAt K H) vs rs) : Paired (RowAt K H') vs rs := Paired.mono p fun _ _ => RowAt.keep (g.tk s)
theorem gr_upd {st D : Addr} {H0 H : Hp} {o : HO} (g : Gr st H0 H) (n0 : H0 D = none) (nD : D ≠ st) : Gr st H0 (upd H D o) :=
  ⟨fun b x nb e => by rw [upd_ne (ne_of_none e n0)]; exact g.1 b x nb e, fun hz => by
    obtain ⟨x, y, hx, hxy⟩ := g.2 hz
    exact ⟨x, y, by rw [upd_ne (Ne.symm nD)]; exact hx, hxy⟩⟩
/-! ### rounds of sheets -/
def plN (x y : Int) (ms : List MV) (t : Nat) : RW × RW := plc x y ms (t : Int)
theorem rwD_inj {r s : RW} (h : rwD r = rwD s) : r = s := by
  have e := PyData.tuple.inj h
  injection e with e1 e2
  injection e2 with e2 _
  exact Prod.ext (PyData.int.inj e1) (PyData.int.inj e2)
theorem plD_inj {p q : RW × RW} (h : plD p = plD q) : p = q := by
  have e := PyData.tuple.inj h
  injection e with e1 e2
  injection e2 with e2 _
  exact Prod.ext (rwD_inj e1) (rwD_inj e2)
theorem picD_inj {c d : PIC} (h : picD c = picD d) : c = d := by
  have e := PyData.tuple.inj h
  injection e with e1 e2
  injection e2 with e2 _
  exact Prod.ext (ints_inj.mp (PyData.tuple.inj e1)) (plD_inj e2)
theorem sd_rw (r : RW) : Sd 1 (rwD r) := Sd.tup fun e he => by
  rcases mem2 he with rfl | rfl <;> exact Sd.int _
theorem sd_pl (p : RW × RW) : Sd 2 (plD p) := Sd.tup fun e he => by
  rcases mem2 he with rfl | rfl <;> exact sd_rw _
theorem sd_pic (c : PIC) : Sd 3 (picD c) := Sd.tup fun e he => by
  rcases mem2 he with rfl | rfl
  · exact Sd.intsT.more (by decide)
  · exact sd_pl _
structure WinR (x y : Int) (ms : List MV) (b : Nat) : Prop where
  per : ∀ t, b ≤ t → plN x y ms (t + 1) = plN x y ms t
  fst : ∀ c, c + 1 = b → plN x y ms (c + 1) ≠ plN x y ms c
structure ShR (ls : List LY) (x y : Int) (ms : List MV) (a m : Nat) : Prop where
  m1 : 1 ≤ m
  perL : ∀ l ∈ ls, ∀ t, a ≤ t → shN l.1 l.2 (t + m) = shN l.1 l.2 t
  perW : ∀ t, a ≤ t → plN x y ms (t + 1) = plN x y ms t
  dvd : ∀ n, (∀ l ∈ ls, ∀ a' m', Lst (shN l.1 l.2) a' m' → m' ∣ n) → m ∣ n
  fst : ∀ b, b + 1 = a → (∃ l ∈ ls, shN l.1 l.2 (b + m) ≠ shN l.1 l.2 b) ∨ plN x y ms (b + 1) ≠ plN x y ms b
theorem ShR.uniq {ls : List LY} {x y : Int} {ms : List MV} {a m a' m' : Nat} (h : ShR ls x y ms a m) (h' : ShR ls x y ms a' m') : a = a' ∧ m = m' := by
  have e : m = m' := Nat.dvd_antisymm (h.dvd m' fun l hl b n hb => hb.dvd m' a' (h'.perL l hl)) (h'.dvd m fun l hl b n hb => hb.dvd m a (h.perL l hl))
  subst e
  refine ⟨?_, rfl⟩
  rcases Nat.lt_trichotomy a a' with z | z | z
  · rcases h'.fst (a' - 1) (by omega) with ⟨l, hl, hn⟩ | hn
    · exact absurd (h.perL l hl (a' - 1) (by omega)) hn
    · exact absurd (h.perW (a' - 1) (by omega)) hn
  · exact z
  · rcases h.fst (a - 1) (by omega) with ⟨l, hl, hn⟩ | hn
    · exact absurd (h'.perL l hl (a - 1) (by omega)) hn
    · exact absurd (h'.perW (a - 1) (by omega)) hn
theorem Paired.mem2 {α β : Type} {F : α → β → Prop} {l₁ : List α} {l₂ : List β} (p : Paired F l₁ l₂) {y : β} (h : y ∈ l₂) : ∃ x ∈ l₁, F x y := by
  obtain ⟨i, hi⟩ := List.mem_iff_getElem?.mp h
  obtain ⟨x, hx, f⟩ := Paired.at2 p hi
  exact ⟨x, List.mem_of_getElem? hx, f⟩
theorem Paired.mem1 {α β : Type} {F : α → β → Prop} {l₁ : List α} {l₂ : List β} (p : Paired F l₁ l₂) {x : α} (h : x ∈ l₁) : ∃ y ∈ l₂, F x y := by
  obtain ⟨i, hi⟩ := List.mem_iff_getElem?.mp h
  obtain ⟨y, hy, f⟩ := Paired.at p hi
  exact ⟨y, List.mem_of_getElem? hy, f⟩
abbrev RdOf (r : Nat × Nat) (l : LY) : Prop := Lst (shN l.1 l.2) r.1 r.2 ∧ r.1 ≤ 192 ∧ r.2 ≤ 192
theorem shR_mk {ls : List LY} {rd : List (Nat × Nat)} {x y : Int} {ms : List MV} {a b m : Nat} (hp : Paired RdOf rd ls) (hw : WinR x y ms b) (ha : ∀ r ∈ rd, r.1 ≤ a) (hb : b ≤ a) (hm : a = b ∨ ∃ r ∈ rd, r.1 = a) (m1 : 1 ≤ m)
    (hd : ∀ r ∈ rd, r.2 ∣ m) (hl : ∀ n, (∀ r ∈ rd, r.2 ∣ n) → m ∣ n) : ShR ls x y ms a m := by
  refine ⟨m1, fun l hl t ht => ?_, fun t ht => hw.per t (by omega), fun n hn => hl n fun r hr => ?_, fun c hc => ?_⟩
  · obtain ⟨r, hr, f, _⟩ := Paired.mem2 hp hl
    obtain ⟨k, rfl⟩ := hd r hr
    exact per_mul f.per k t (by have := ha r hr; omega)
  · obtain ⟨l, hl', f, _⟩ := Paired.mem1 hp hr
    exact hn l hl' r.1 r.2 f
  · rcases hm with e | ⟨r, hr, e⟩
    · exact .inr (hw.fst c (by omega))
    · obtain ⟨l, hl', f, _⟩ := Paired.mem1 hp hr
      refine .inl ⟨l, hl', fun z => f.fst c (by omega) ?_⟩
      obtain ⟨k, hk⟩ := hd r hr
      obtain ⟨j, rfl⟩ : ∃ j, k = j + 1 := ⟨k - 1, by
        rcases Nat.eq_zero_or_pos k with z | z
        · rw [z] at hk
          omega
        · omega⟩
      have e2 := per_mul f.per j (c + r.2) (by have := f.m1; omega)
      rw [show c + r.2 + r.2 * j = c + m by rw [hk, Nat.mul_succ]; omega, z] at e2
      exact e2.symm
theorem ShR.pic_eq {ls : List LY} {x y : Int} {ms : List MV} {a m : Nat} (h : ShR ls x y ms a m) {t : Nat} (ht : a ≤ t) (k : Nat) : pic ls x y ms ((t + m * k : Nat) : Int) = pic ls x y ms (t : Int) := by
  refine Prod.ext ?_ ?_
  · exact List.map_congr_left fun l hl => per_mul (h.perL l hl) k t ht
  · have := per_mul (f := fun t => (0 : Int)) (A := 0) (m := 1) (fun _ _ => rfl)
    have e : ∀ n, plN x y ms (t + n) = plN x y ms t := fun n => by
      induction n with
      | zero => rfl
      | succ n ih => rw [← Nat.add_assoc, h.perW _ (by omega), ih]
    exact e (m * k)
theorem ShR.pic_ne {ls : List LY} {x y : Int} {ms : List MV} {a m : Nat} (h : ShR ls x y ms a m) {b : Nat} (hb : b + 1 = a) : pic ls x y ms (b : Int) ≠ pic ls x y ms ((b + m : Nat) : Int) := fun e => by
  rcases h.fst b hb with ⟨l, hl, hn⟩ | hn
  · exact hn (List.map_inj_left.mp (congrArg Prod.fst e) l hl).symm
  · refine hn ?_
    have e1 : plN x y ms b = plN x y ms (b + m) := congrArg Prod.snd e
    have e2 : ∀ n, plN x y ms (b + 1 + n) = plN x y ms (b + 1) := fun n => by
      induction n with
      | zero => rfl
      | succ n ih => rw [← Nat.add_assoc, h.perW _ (by omega), ih]
    have m1 := h.m1
    have e3 := e2 (m - 1)
    rw [show b + 1 + (m - 1) = b + m by omega] at e3
    rw [e1, e3]
theorem winR_of {x y : Int} {ms : List MV} {L b : Nat} (vm : ∀ m ∈ ms, VMove m) (hL : (L : Int) = mtot ms) (hb : b ≤ L) (hp : ∀ t, b ≤ t → t < L → plN x y ms (t + 1) = plN x y ms t) (hf : ∀ c, c + 1 = b → plN x y ms (c + 1) ≠ plN x y ms c) : WinR x y ms b := by
  refine ⟨fun t ht => ?_, hf⟩
  rcases Nat.lt_or_ge t L with z | z
  · exact hp t ht z
  · exact plc_far ms x y _ _ vm (by omega) (by omega)
/-- the step of the law's own reckoning of a common multiple -/
theorem lcm_step {s z k : Nat} (s1 : 1 ≤ s) (z1 : 1 ≤ z) (k1 : 1 ≤ k) (hd : z ∣ s * k) (hmin : ∀ j, 1 ≤ j → j < k → ¬ z ∣ s * j) : s * k = Nat.lcm s z := by
  obtain ⟨j, hj⟩ := Nat.dvd_lcm_left s z
  have lp : 0 < Nat.lcm s z := Nat.lcm_pos (by omega) (by omega)
  have j1 : 1 ≤ j := by
    rcases Nat.eq_zero_or_pos j with e | e
    · rw [e] at hj
      omega
    · exact e
  have h1 : Nat.lcm s z ∣ s * k := Nat.lcm_dvd (Nat.dvd_mul_right s k) hd
  have h2 : k ≤ j := Nat.le_of_not_lt fun lt => hmin j j1 lt (by rw [← hj]; exact Nat.dvd_lcm_right s z)
  have h3 := Nat.le_of_dvd (Nat.mul_pos (by omega) (by omega)) h1
  have h4 : s * k ≤ s * j := Nat.mul_le_mul_left s h2
  omega
theorem lcm_le {s z : Nat} (h : 0 < Nat.gcd s z) : Nat.lcm s z ≤ s * z := by
  unfold Nat.lcm
  exact Nat.div_le_self _ _

/-! ### defs called where an error is handled -/
/-- f, called while the error at a (class cls, dict d) is handled, keeps sp -/
structure FnE (P : Program) (w : World) (K : PySem.W.Frag) (mg : Str → Option Value) (base : Heap) (k : Nat) (f : Addr) (fd : FuncData) (ps : List Str) (sp : Addr → Value → Option Addr → Sp) : Prop where
  len : ∀ a cls d vs H Q E, sp a cls d vs H Q E → vs.length = ps.length
  run : ∀ (A : Around) (outer : List Env) (s : Shared) (H : Hp) (args : Args) (us : List Value) (vs : List V) (Q : VK) (E : XK) (a : Addr) (oe : Obj) (cls : Value) (d : Option Addr), L2H.RoomH k A → Zc cls d oe → (∃ z, oe.data = .fields z) → L2H.PinOk outer H s (a, oe) →
    Env0 P w K mg base A outer s H → BindsTo s fd args (ps.zip us) → Vals vs us → sp a cls d vs H Q E → codeAny (model P w) A (.call (.ref f) args) (CR CX0 outer P w H s Q E) s
section
variable {P : Program} {w : World} {K : PySem.W.Frag} {mg : Str → Option Value} {base : Heap}
theorem fun_okE {x qual : Str} {st : Stmt} {f : Addr} {fd : FuncData} {N ps : List Str} {k : Nat} {sp : Addr → Value → Option Addr → Sp} (F : Fun K x qual st f fd) (S : FnScope N ps (defScope st)) (ln : ∀ a cls d vs H Q E, sp a cls d vs H Q E → vs.length = ps.length)
    (hbody : ∀ (cdv : Value) (A : Around) (outer : List Env) (s : Shared) (H : Hp) (vs : List V) (Q : VK) (E : XK) (a : Addr) (oe : Obj) (cls : Value) (d : Option Addr), Zc cls d oe → (∃ z, oe.data = .fields z) → L2H.RoomH k (A.deeper (envOfC qual (defScope st) s.heap.objs.size f cdv)) → sp a cls d vs H Q E →
      ∃ t, PSs (L2H.cxH CX0 P w K mg base N qual (defScope st) f cdv A outer s H E (a, oe)) (defBody st) t ∧ t { nx := fun _ H' => Q .non H', rt := Q } (L2.start N vs) H) : FnE P w K mg base (k + 1) f fd ps sp := by
  obtain ⟨cdv, D⟩ := defAt_of F
  refine ⟨ln, fun A outer s H args us vs Q E a oe cls d hr hz hfs hpin e0 hb r hsp => D.call S hr.depth e0 hb fun s1 begun => ?_⟩
  obtain ⟨t, ht, hq⟩ := hbody cdv A outer s H vs Q E a oe cls d hz hfs (hr.deeper _) hsp
  exact thn (ht.run [] s1 _ H _ (L2H.inv_startH S hpin e0 (ln _ _ _ _ _ _ _ hsp) r begun) hq) fun _ _ h => given_by rfl h
end
section
variable {X : Cx}
/-- what is pinned in the context may be pinned in a body that it calls -/
theorem pinned {pins : List (Addr × Obj)} {σ : L2.St} {H : Hp} {s : Shared} {p : Addr × Obj} (I : Inv X pins σ H s) (hpn : p ∈ X.pn) : L2H.PinOk X.stack H s p := by
  obtain ⟨get, free, low, far, flat⟩ := I.pin p (List.mem_append_left pins hpn)
  refine ⟨get, free, fun on => ?_, flat⟩
  rcases List.mem_cons.mp (I.stkSub p.1 on) with z | z
  · exact low z
  · exact far z
/-- a call of a global name: T tells what is asked of its arguments -/
theorem pe_named {f : Addr} {x : Str} {q pos : Pos} {e : Expr} {es : List Expr} {t : TA} {T : List V → Hp → VK → Prop} (hg : Gl X x) (hm : X.mg x = some (.ref f)) (hk : PySem.W.keepIn X.K (.ref f) = true) (ha : PA X (e :: es) t)
    (run : ∀ (pins : List (Addr × Obj)) (s : Shared) (σ : L2.St) (H : Hp) (us : List Value) (vs : List V) (Q : VK), Inv X pins σ H s → Vals vs us → T vs H Q → wpAny (model X.prog X.w) X.A (call (.ref f) us) (EP X pins σ Q) X.xe s)
    (plain : (x == ("__debug__" : Str)) = false) (first : starEach (e :: es) X.env = (false, eval e X.env) :: starEach es X.env) (noStar : (backTo pos (starEach es X.env)).any (·.1) = false) :
    PE X (.Call (.Name x q) (e :: es) [] pos) (fun σ H Q => t σ H fun vs H1 => T vs H1 Q) :=
  ⟨fun pins s σ H Q I h => wpAny_Call_Name_kw (ld_glob I hg hm (PySem.W.callWith_K (h₀ := X.base) I.ok.mod.kin hk
    (thn (ha.run pos pins s σ H _ I h) fun us s1 ⟨vs, H1, I1, r, due⟩ => ⟨I1.kIn, run pins s1 σ H1 us vs Q I1 r due⟩) first noStar) plain)⟩
/-- f(e, ..), the error at a being handled -/
theorem pe_callE {k : Nat} {f a : Addr} {oe : Obj} {cls : Value} {d : Option Addr} {fd : FuncData} {ps : List Str} {sp : Addr → Value → Option Addr → Sp} {x : Str} {q pos : Pos} {e : Expr} {es : List Expr} {t : TA} (F : FnE X.prog X.w X.K X.mg X.base k f fd ps sp) (hr : L2H.RoomH k X.A) (hpn : (a, oe) ∈ X.pn)
    (hz : Zc cls d oe) (hfs : ∃ z, oe.data = .fields z) (hg : Gl X x) (hm : X.mg x = some (.ref f)) (hk : PySem.W.keepIn X.K (.ref f) = true) (hb : Binds X.K fd ps []) (ha : PA X (e :: es) t)
    (hdb : (x == ("__debug__" : Str)) = false := by decide) (he : starEach (e :: es) X.env = (false, eval e X.env) :: starEach es X.env := by rfl) (hpl : (backTo pos (starEach es X.env)).any (·.1) = false := by rfl) :
    PE X (.Call (.Name x q) (e :: es) [] pos) (fun σ H Q => t σ H fun vs H1 => sp a cls d vs H1 Q E0) := by
  refine pe_named (T := fun vs H Q => sp a cls d vs H Q E0) hg hm hk ha (fun pins s σ H us vs Q I r due => ?_) hdb he hpl
  have binds : BindsTo s fd ⟨us, []⟩ (ps.zip us) := by
    simpa only [List.append_nil] using hb s us I.kIn (by rw [List.append_nil, ← r.length]; exact F.len _ _ _ _ _ _ _ due)
  refine wpAny_call (codeAny_mono (F.run X.A X.stack s H ⟨us, []⟩ us vs Q E0 a oe cls d hr hz hfs (pinned I hpn) I.env0 binds r due) fun res s' left => ?_)
  match res, left with
  | .ok (.ret _), left => exact I.after left
  | .ok .next, left | .ok .brk, left | .ok .cont, left | .error _, left => exact False.elim left
/-- isinstance(e, c), e a handled error -/
def rIsP (K : PySem.W.Frag) (D a : Addr) (d : Option Addr) : List V → Hp → VK → Prop := fun xs H Q => ∃ (c : V) (cv : Value) (b : Bool), xs = [.ref a, c] ∧ (∀ u, RelV c u → u = cv) ∧ PySem.W.kitOne K (.ref D) cv = some b ∧
  (∀ dd, d = some dd → ∃ fs, H dd = some (.xd fs)) ∧ Q (.bl b) H
theorem call_isP {a D : Addr} {oe : Obj} {d : Option Addr} (hpn : (a, oe) ∈ X.pn) (C : ExcC X.K D) (hz : Zc (.ref D) d oe) (hfs : ∃ z, oe.data = .fields z) : CallR X (.builtin "isinstance") (rIsP X.K D a d) := by
  intro pins s σ H xs us Q I r h
  obtain ⟨c, cv, b, rfl, hcv, e, hd, q⟩ := h
  obtain ⟨u1, u2, rfl, r1, r2⟩ := vals2 r
  have ec := hcv _ r2
  subst ec
  cases (show u1 = Value.ref a from r1)
  obtain ⟨hget, _⟩ := I.pin (a, oe) (List.mem_append_left _ hpn)
  obtain ⟨z, hv⟩ := hfs
  have hno : PySem.W.notCls oe = true := by
    unfold PySem.W.notCls
    rw [hv]
  obtain ⟨od, J⟩ : ∃ od, PySem.W.InstAt s.heap a oe D od := by
    cases d with
    | none => exact ⟨none, hget, hz.1, hno, by rw [hz.2]; trivial⟩
    | some dd =>
      obtain ⟨fs, hfs⟩ := hd dd rfl
      obtain ⟨mA, hns, hr⟩ := (show ObjOk X.prog X.w H s.heap dd (.xd fs) from I.hok dd _ hfs)
      obtain ⟨od, ho, hl⟩ := lookIn_ns hns
      exact ⟨some od, hget, hz.1, hno, by rw [hz.2]; exact ho⟩
  have hcl : (PySem.W.clsIn X.K D).isSome = true := by
    obtain ⟨cd, hc, _⟩ := PySem.W.any_some C.hd
    rw [hc]
    rfl
  exact PySem.W.kia_one (PySem.W.kitx_exc hcl C.hg C.hk C.hs C.ha C.hn C.ht C.hm) I.kIn J e (fun z => nomatch z) fun tk => ⟨.bl b, H, I.tok tk, rfl, q⟩
end

/-! ### what the written part says of the refusals -/
def excCB (K : PySem.W.Frag) (D : Addr) : Bool :=
  decide (PySem.W.findIn K (.ref D) "__getattribute__" = some (some (.builtin "BaseException.__getattribute__"))) && (decide (PySem.W.findIn K (.ref D) "__getattr__" = some none) && (decide (PySem.W.subIn K (.ref D) (.type "BaseException") = some true) &&
    (PySem.W.hasDictIn K D && (decide (PySem.W.findIn K (.ref D) "__class__" = some (some (.builtin "object.__class__"))) && (decide (PySem.W.specialIn K (.builtin "object.__class__") "__get__" = some (some (.builtin "getset_descriptor.__get__"))) &&
      (decide (PySem.W.takesIn K (.builtin "object.__class__") = some true) && decide (PySem.W.mroIn K D (.type "object") = some true)))))))
theorem excC_of {K : PySem.W.Frag} {D : Addr} (h : excCB K D = true) : ExcC K D := by
  unfold excCB at h
  simp only [Bool.and_eq_true, decide_eq_true_eq] at h
  obtain ⟨h1, h2, h3, h4, h5, h6, h7, h8⟩ := h
  exact ⟨h1, h2, h3, h4, h5, h6, h7, h8⟩
def excTB (K : PySem.W.Frag) (c : Nat → Addr) (LE : Addr) : Bool :=
  (List.range 16).all fun i => excCB K (c i) && (decide (PySem.W.kitOne K (.ref (c i)) (.type "ValueError") = some true) && (decide (PySem.W.exmOne K (.ref (c i)) (.ref LE) = some true) &&
    ((decide (14 ≤ i) || PySem.W.excIn K (c i) PySem.HandSPX.veTail "ValueError.__new__") && (PySem.W.keepIn K (.ref (c i)) && (decide (PySem.W.typeIn K (.ref (c i)) = some (.type "type")) &&
      (List.range 16).all fun j => decide (PySem.W.kitOne K (.ref (c i)) (.ref (c j)) = some (decide (i = j))))))))
/-- the sixteen refusals stand at c 0 .. c 15, LanternError at LE -/
structure ExcT (K : PySem.W.Frag) (c : Nat → Addr) (LE : Addr) : Prop where
  e : ∀ i, i < 16 → ExcC K (c i)
  kv : ∀ i, i < 16 → PySem.W.kitOne K (.ref (c i)) (.type "ValueError") = some true
  ex : ∀ i, i < 16 → PySem.W.exmOne K (.ref (c i)) (.ref LE) = some true
  nw : ∀ i, i < 14 → PySem.W.excIn K (c i) PySem.HandSPX.veTail "ValueError.__new__" = true
  kp : ∀ i, i < 16 → PySem.W.keepIn K (.ref (c i)) = true
  ty : ∀ i, i < 16 → PySem.W.typeIn K (.ref (c i)) = some (.type "type")
  ko : ∀ i, i < 16 → ∀ j, j < 16 → PySem.W.kitOne K (.ref (c i)) (.ref (c j)) = some (decide (i = j))
theorem excT_of {K : PySem.W.Frag} {c : Nat → Addr} {LE : Addr} (h : excTB K c LE = true) : ExcT K c LE := by
  have key : ∀ i, i < 16 → excCB K (c i) = true ∧ PySem.W.kitOne K (.ref (c i)) (.type "ValueError") = some true ∧ PySem.W.exmOne K (.ref (c i)) (.ref LE) = some true ∧ (14 ≤ i ∨ PySem.W.excIn K (c i) PySem.HandSPX.veTail "ValueError.__new__" = true) ∧ PySem.W.keepIn K (.ref (c i)) = true ∧
      PySem.W.typeIn K (.ref (c i)) = some (.type "type") ∧ ∀ j, j < 16 → PySem.W.kitOne K (.ref (c i)) (.ref (c j)) = some (decide (i = j)) := fun i hi => by
    have z := List.all_eq_true.mp h i (List.mem_range.mpr hi)
    simp only [Bool.and_eq_true, Bool.or_eq_true, decide_eq_true_eq] at z
    obtain ⟨z1, z2, z3, z4, z5, z6, z7⟩ := z
    exact ⟨z1, z2, z3, z4, z5, z6, fun j hj => of_decide_eq_true (List.all_eq_true.mp z7 j (List.mem_range.mpr hj))⟩
  exact ⟨fun i hi => excC_of (key i hi).1, fun i hi => (key i hi).2.1, fun i hi => (key i hi).2.2.1, fun i hi => (key i (by omega)).2.2.2.1.elim (fun z => absurd z (by omega)) id, fun i hi => (key i hi).2.2.2.2.1, fun i hi => (key i hi).2.2.2.2.2.1, fun i hi => (key i hi).2.2.2.2.2.2⟩
theorem ExcT.rs {X : Cx} {c : Nat → Addr} {LE : Addr} (T : ExcT X.K c LE) {i : Nat} (hi : i < 16) : Raises X (.ref (c i)) := raises_own (T.e i hi).hs (T.ty i hi)
/-! ### xs.count(True) -/
def rCntB (K : PySem.W.Frag) : V → List V → Hp → VK → Prop := fun x xs H Q => ∃ (p : Addr) (bs : List Bool), x = .ref p ∧ xs = [.bl true] ∧ SqL K H p (bs.map V.bl) ∧ Q (.int (bs.count true : Nat)) H
theorem bl_flat : ∀ bs : List Bool, (bs.map V.bl).all flatV = true
  | [] => rfl
  | b :: r => by
    rw [List.map_cons, List.all_cons, bl_flat r]
    rfl
theorem cnt_bl : ∀ {bs : List Bool} {us : List Value}, Vals (bs.map V.bl) us → us.countP (eqU (.bl true)) = bs.count true
  | [], _, .nil => rfl
  | b :: r, _, .cons (b := u) (l₂ := us) ru rt => by
    have e : eqU (.bl true) u = eqV (.bl b) (.bl true) := eqU_of ru rfl
    rw [List.countP_cons, cnt_bl rt, List.count_cons, e]
    cases b <;> rfl
theorem mt_bcount {X : Cx} : MtR X "list.count" (rCntB X.K) := by
  intro pins s σ H x xs v us Q I rx rxs h
  obtain ⟨p, bs, rfl, rfl, hs, q⟩ := h
  cases rx
  obtain ⟨u, rfl, ru⟩ := rxs.one
  obtain ⟨its, rv, ⟨⟨cls, dd, data, sl⟩, n, ho, hc, hdn, hd⟩, hlen⟩ := I.list hs
  simp only at hc hd
  subst hc hd
  refine call_meets PySem.F.slot_list_count ⟨_, ho, rfl⟩ PySem.F.entry_list_count
    (PySem.F.args_list_count_2 _ _) (SeqAt.list_countAt p its.toArray n dd sl u (eqU (.bl true)))
    ⟨ho, fun y hy => mem_eqAt ru rfl rv (bl_flat bs) y (by simpa using hy), ?_⟩
  refine ⟨.int (bs.count true : Nat), H, I.tok _, ⟨s.toks, ?_⟩, q⟩
  show Value.int ((its.toArray.toList.countP (eqU (.bl true)) : Nat) : Int) s.toks = Value.int ((bs.count true : Nat) : Int) s.toks
  rw [List.toList_toArray, cnt_bl rv]
/-! ### what is told of a call -/
def bits (i : Nat) : List Bool := (List.range 16).map fun j => decide (i = j)
def HasXd (d : Option Addr) (H : Hp) : Prop := ∀ dd, d = some dd → ∃ fs, H dd = some (.xd fs)
def spCls (c : Nat → Addr) : Addr → Value → Option Addr → Sp := fun a cls d vs H Q _ => ∃ i, i < 16 ∧ vs = [.ref a] ∧ cls = .ref (c i) ∧ HasXd d H ∧ ∀ H' p, Same H H' → H p = none → H' p = some (.lst ((bits i).map V.bl)) → Q (.ref p) H'
/-- what is wished of a refusal that met catches: told are 'refused' and its number, 'many' and both fields, 'leaned' and the numbers -/
def EMet (c : Nat → Addr) (Q : VK) : XK := fun cls d H => ∃ i, i < 16 ∧ cls = .ref (c i) ∧ HasXd d H ∧
  (i < 14 → ∀ H' p, Same H H' → H p = none → H' p = some (.tup [.str "refused", .int (i : Nat)]) → Q (.ref p) H') ∧
  (i = 14 → ∃ dd fs m n, d = some dd ∧ H dd = some (.xd fs) ∧ fs.lookup ("many" : Str) = some m ∧ fs.lookup ("most" : Str) = some n ∧ ∀ H' p q, Same H H' → H p = none → H' q = some (.tup [m, n]) → H' p = some (.tup [.str "many", .ref q]) → Q (.ref p) H') ∧
  (i = 15 → ∃ dd fs m, d = some dd ∧ H dd = some (.xd fs) ∧ fs.lookup ("numbers" : Str) = some m ∧ ∀ H' p, Same H H' → H p = none → H' p = some (.tup [.str "leaned", m]) → Q (.ref p) H')
/-- what met makes of the lambda's reading -/
def TMet (c : Nat → Addr) : (XK → Hp → VK → Prop) → Hp → VK → Prop := fun tl H Q =>
  tl (EMet c Q) H fun v H1 => 2 ≤ sizeLine ∧ ∀ p, H1 p = none → Q (.ref p) (upd H1 p (.tup [.str "told", v]))

def clsN : List Str := ["NoLayer", "NoWindow", "NoSheet", "NoMoment", "NoRow", "NoNumber", "NoDrawings", "Unlike", "Endless", "Squeezed", "NoPaper", "NoDeed", "NoText", "NoWords", "TooMany", "Leaned"]
structure ExcN (K : PySem.W.Frag) (mg : Str → Option Value) (c : Nat → Addr) (LE : Addr) : Prop extends ExcT K c LE where
  g : ∀ i n, clsN[i]? = some n → mg n = some (.ref (c i))
  gL : mg "LanternError" = some (.ref LE)
  n1 : PySem.W.findIn K (.ref (c 14)) "many" = some none
  n2 : PySem.W.findIn K (.ref (c 14)) "most" = some none
  n3 : PySem.W.findIn K (.ref (c 15)) "numbers" = some none
theorem ExcN.xf {K : PySem.W.Frag} {mg : Str → Option Value} {c : Nat → Addr} {LE : Addr} (T : ExcN K mg c LE) {i : Nat} (hi : i < 16) : XfC K (c i) := ⟨(T.e i hi).hg, (T.e i hi).hk, (T.e i hi).hs, (T.e i hi).hd⟩
structure ClE (P : Program) (w : World) (K : PySem.W.Frag) (mg : Str → Option Value) (base : Heap) (k : Nat) (x : Str) (ps : List Str) (sp : Addr → Value → Option Addr → Sp) : Prop where
  ex : ∃ (f : Addr) (fd : FuncData), FnE P w K mg base k f fd ps sp ∧ PySem.W.keepIn K (.ref f) = true ∧ Binds K fd ps [] ∧ mg x = some (.ref f)
/-- a def that may refuse -/
structure ClX (P : Program) (w : World) (K : PySem.W.Frag) (mg : Str → Option Value) (base : Heap) (k : Nat) (x : Str) (ps : List Str) (sp : Sp) : Prop where
  ex : ∃ (f : Addr) (fd : FuncData), FnOk P w K mg base (L2.CX P w) k f fd ps sp ∧ PySem.W.keepIn K (.ref f) = true ∧ Binds K fd ps [] ∧ mg x = some (.ref f)
section
variable {X : Cx}
theorem pe_gref {x : Str} {pos : Pos} {C : Addr} (hg : Gl X x) (h : X.mg x = some (.ref C)) (hd : (x == ("__debug__" : Str)) = false := by decide) : PE X (.Name x pos) (tC (.ref C)) := pe_glob hg h rfl hd
/-- a built-in's method, the written part told by its letter -/
theorem pe_bmK {K : PySem.W.Frag} {T : String} {name : Str} {id : String} {r : V → List V → Hp → VK → Prop} {o e : Expr} {es : List Expr} {to : TE} {t : TA} {apos cpos : Pos} (pa : PlainAttrs T) (slot : Slot T name id) (hty : typeOf (.builtin id) = pure (.type "method_descriptor")) (hm : MtR X id r) (ho : PE X o to) (ha : PA X (e :: es) t) (hK : X.K = K := by rfl)
    (hbase : attributeBase o name X.env (eval o X.env) = eval o X.env := by rfl)
    (hfew : ((backTo cpos (starEach (e :: es) X.env)).all (fun x => !x.1) && (backToKw cpos (keywordEach [] X.env)).all (fun x => x.1.isSome) && decide ((e :: es).length + ([] : List Keyword).length + (if ([] : List Keyword).isEmpty then 0 else 1) < 30)) = true := by rfl)
    (hline : (apos.endLine == cpos.line) = true := by rfl) (hs : starEach (e :: es) X.env = (false, eval e X.env) :: starEach es X.env := by rfl)
    (hplain : (backTo cpos (starEach es X.env)).any (·.1) = false := by rfl) : PE X (.Call (.Attribute o name apos) (e :: es) [] cpos) (tBM K T r to t) := by
  subst hK
  exact pe_bm pa slot hty hm ho ha hbase hfew hline hs hplain
theorem pe_ownE {k : Nat} {x : Str} {ps : List Str} {sp : Addr → Value → Option Addr → Sp} {a : Addr} {oe : Obj} {cls : Value} {d : Option Addr} {e : Expr} {es : List Expr} {t : TA} {p pos : Pos} (C : ClE X.prog X.w X.K X.mg X.base k x ps sp) (hr : L2H.RoomH k X.A) (hpn : (a, oe) ∈ X.pn) (hz : Zc cls d oe)
    (hfs : ∃ z, oe.data = .fields z) (hg : Gl X x) (ha : PA X (e :: es) t)
    (hdb : (x == ("__debug__" : Str)) = false := by decide) (he : starEach (e :: es) X.env = (false, eval e X.env) :: starEach es X.env := by rfl) (hpl : (backTo pos (starEach es X.env)).any (·.1) = false := by rfl) :
    PE X (.Call (.Name x p) (e :: es) [] pos) (fun σ H Q => t σ H fun vs H1 => sp a cls d vs H1 Q E0) := by
  obtain ⟨f, fd, F, hk, hb, hm⟩ := C.ex
  exact pe_callE F hr hpn hz hfs hg hm hk hb ha hdb he hpl
/-- f(e, ..), f may refuse: E is wished of what it lets out -/
theorem pe_ownX {k : Nat} {x : Str} {ps : List Str} {sp : Sp} {W : WX} {e : Expr} {es : List Expr} {t : TA} {p pos : Pos} (C : ClX X.prog X.w X.K X.mg X.base k x ps sp) (hr : Room k X.A) (tk : Takes X W) (hg : Gl X x) (ha : PA X (e :: es) t)
    (hdb : (x == ("__debug__" : Str)) = false := by decide) (he : starEach (e :: es) X.env = (false, eval e X.env) :: starEach es X.env := by rfl) (hpl : (backTo pos (starEach es X.env)).any (·.1) = false := by rfl) :
    PE X (.Call (.Name x p) (e :: es) [] pos) (tCallS sp (WE W) t) := by
  obtain ⟨f, fd, F, hk, hb, hm⟩ := C.ex
  exact pe_callS F hr hg hm hk hb (fun σ => passAt tk σ) ha hdb he hpl
def rIsQ (K : PySem.W.Frag) (c : Nat → Addr) (a : Addr) (cls : Value) (d : Option Addr) : List V → Hp → VK → Prop := fun xs H Q => ∃ i, i < 16 ∧ cls = .ref (c i) ∧ rIsP K (c i) a d xs H Q
theorem call_isQ {K : PySem.W.Frag} {c : Nat → Addr} {LE a : Addr} {oe : Obj} {cls : Value} {d : Option Addr} (T : ExcT K c LE) (hpn : (a, oe) ∈ X.pn) (hz : Zc cls d oe) (hfs : ∃ z, oe.data = .fields z) (hK : X.K = K := by rfl) : CallR X (.builtin "isinstance") (rIsQ K c a cls d) := by
  subst hK
  intro pins s σ H xs us Q I r h
  obtain ⟨i, hi, rfl, h⟩ := h
  exact call_isP hpn (T.e i hi) hz hfs pins s σ H xs us Q I r h
/-- what a met def must have: its place, its text -/
structure MetF (X : Cx) (x a : Str) (TT : (XK → Hp → VK → Prop) → Hp → VK → Prop) : Prop where
  ex : ∃ (g : Addr) (pg : Arguments) (bg : List Stmt) (sg : Scope) (kV doc pm cdv ct oc : Value) (an od : Option Addr) (osl : Array (Option Value)) (Ng : List Str), X.mg x = some (.ref g) ∧ PySem.W.keepIn X.K (.ref g) = true ∧
    X.K.lookup g = some ⟨oc, od, .func (PySem.W.fnOf x x pg bg sg .none kV doc pm an cdv ct), osl⟩ ∧ PySem.W.codeIn X.K cdv x = true ∧ L2.Binds X.K (PySem.W.fnOf x x pg bg sg .none kV doc pm an cdv ct) [a] [] ∧ FnScope Ng [a] sg ∧ Ng[0]? = some a ∧ Vis sg a ∧
    LamX.GivesTo X Ng x sg g cdv bg a (X.env.qual ++ "<lambda>") TT
/-- x(lambda: body) -/
theorem pe_met {T : List (Addr × Str)} {TT : (XK → Hp → VK → Prop) → Hp → VK → Prop} {x a : Str} {c P : Addr} {k : Nat} {params : Arguments} {body : Expr} {scope : Scope} {t : XK → TE} {p lpos pos : Pos} (M : MetF X x a TT) (hg : Gl X x)
    (TB : LamX.TabB X.base X.mg c P) (hcode : X.env.code = .ref c) (hmT : (P, X.env.qual ++ "<lambda>") ∈ T) (hu : ∀ p ∈ T, p.1 = P → p.2 = X.env.qual ++ "<lambda>") (hr : Room (k + 2) X.A) (L : LamX.LamS X.env.scope scope)
    (hbody : ∀ (A : Around) (outer : List Env) (s : Shared) (H : Hp) (E : XK) (f c' : Addr), Room k (A.deeper (LamX.lamEnv X scope s.heap.objs.size f c')) → PE (LamX.lamCx X A outer s H E scope f c') body (t E))
    (hdef : defaultsOf params X.env = ([], []) := by rfl)
    (hbind : ∀ (q : Str) (cl : List (Str × Addr)) (pm cv ctv : Value), bindArgs (PySem.W.kla_fn "<lambda>" q params body scope cl pm cv ctv) ⟨[], []⟩ = pure [] := by intros; rfl)
    (hdb : (x == ("__debug__" : Str)) = false := by decide) (hd : (a == ("__debug__" : Str)) = false := by decide) (hcd : (a == ("__classdict__" : Str)) = false := by decide) :
    PE X (.Call (.Name x p) [.Lambda params body scope lpos] [] pos) (LamX.tLam T TT t) := by
  obtain ⟨g, pg, bg, sg, kV, doc, pm, cdv, ct, oc, an, od, osl, Ng, hm, hk, lk, hcg, hb, Sg, hNg, hva, hG⟩ := M.ex
  exact LamX.pe_lamcall hg hm hk lk hcg hb Sg hNg hva hG TB hcode hmT hu hr L hdef hbind hbody hdb hd hcd
end
/-! ### the end of a law that makes lambdas -/
def TabsIn (q : Program) (K : PySem.W.Frag) (h : Heap) : Prop := ∀ (x : Str) (c P : Addr), ((recsOf q).find? fun e => e.name == x).isSome = true → PySem.W.tabIn K x = some (c, P) → PySem.W.CodeHd h c P ∧ h.get? P = some { cls := .none, data := .fields #[] }
theorem walk_ofL {l : PySem.W.OpenLaw} {n k : Nat} {q : Program} {loose : List Str} {XP : (Str → Option Value) → Heap → Prop} {YP : World → Heap → Prop} {d : DefRec} {K : Params → PySem.W.Frag} {x : Str}
    (hn : l.most = some n) (hn2 : n ≤ sizeLine) (hdf : d.params.defaults = []) (hr : Room k callerA) (hY : ∀ (w : World) (h : Heap), YP w h → (K w.params).In h)
    (F : ∀ (w : World) (mg : Str → Option Value) (fa : Addr) (h : Heap), (K w.params).In h → h.Ns mainGlobals mg → mg d.name = some (.ref fa) → TabsIn q (K w.params) h → LamX.LawAtS l w (K w.params) CX0 k n x mg fa h) :
    PySem.W.WalkO q loose XP YP l.row.toRowW d [] (fun f vs => PySem.call f vs) := by
  refine Att.attach_callB hn hdf
    fun w s₀ s₁ mg mb fa o pm cd doc a vs ns G Y ho hd hcd hmg hobj hints hlen hbits hg => ?_
  have hK := hY w _ Y
  have tabs : TabsIn q (K w.params) s₁.heap := fun y c P hf ht => by
    obtain ⟨dL, hfd⟩ := Option.isSome_iff_exists.mp hf
    exact PySem.W.tab_of G.T hK hfd ht
  obtain ⟨fd, cs, sp, hT, nT, C, hb, hsp, hF⟩ := F w mg fa _ hK G.T.g hmg tabs
  exact LamX.law_callTs hK G.T.g G.T.b G.T.builtins G.T.nolimit hg hT nT C G.T.bmain hobj hints
    (Nat.le_trans hlen hn2) hr hF hb (fun H hH hS => hsp H a ns hlen hbits hH hS) fun H e s' z => z

def qLam (x : Str) : Str := x ++ ".<locals>." ++ "<lambda>"
/-- as Fun, its code object told -/
structure FunC (K : PySem.W.Frag) (x qual : Str) (st : Stmt) (f : Addr) (fd : FuncData) (cc : Addr) : Prop where
  ex : ∃ (oc : Value) (od : Option Addr) (kV doc pm : Value) (an : Option Addr) (ct : Value) (osl : Array (Option Value)),
    fd = PySem.W.fnOf x qual (defArgs st) (defBody st) (defScope st) .none kV doc pm an (.ref cc) ct ∧ K.lookup f = some ⟨oc, od, .func fd, osl⟩ ∧ PySem.W.codeIn K (.ref cc) qual = true
theorem funC_mk {K : PySem.W.Frag} {x qual : Str} {st : Stmt} {f cc : Addr} {oc : Value} {od an : Option Addr} {osl : Array (Option Value)} {kV doc pm ct : Value} (l : K.lookup f = some ⟨oc, od, .func (PySem.W.fnOf x qual (defArgs st) (defBody st) (defScope st) .none kV doc pm an (.ref cc) ct), osl⟩)
    (c : PySem.W.codeIn K (.ref cc) qual = true) : FunC K x qual st f (PySem.W.fnOf x qual (defArgs st) (defBody st) (defScope st) .none kV doc pm an (.ref cc) ct) cc := ⟨⟨oc, od, kV, doc, pm, an, ct, osl, rfl, l, c⟩⟩
/-- what a maker of lambdas has: its table at PP among the tables TS -/
structure Mkr (base : Heap) (mg : Str → Option Value) (cc PP : Addr) (x : Str) (TS : List (Addr × Str)) : Prop where
  tb : LamX.TabB base mg cc PP
  hm : (PP, qLam x) ∈ TS
  hu : ∀ p ∈ TS, p.1 = PP → p.2 = qLam x
section
variable {P : Program} {w : World} {K : PySem.W.Frag} {mg : Str → Option Value} {base : Heap}
theorem fun_okL {x qual : Str} {st : Stmt} {f cc : Addr} {fd : FuncData} {N ps : List Str} {k : Nat} {sp : Sp} (F : FunC K x qual st f fd cc) (S : FnScope N ps (defScope st)) (ln : ∀ vs H Q E, sp vs H Q E → vs.length = ps.length)
    (hbody : ∀ (A : Around) (outer : List Env) (s : Shared) (H : Hp) (vs : List V) (Q : VK) (E : XK), Room k (A.deeper (envOfC qual (defScope st) s.heap.objs.size f (.ref cc))) → sp vs H Q E →
      ∃ t, PSs (cxOf CX0 P w K mg base N qual (defScope st) f (.ref cc) A outer s H E).nox (defBody st) t ∧ t { nx := fun _ H' => Q .non H', rt := Q } (L2.start N vs) H) : FnOk P w K mg base CX0 (k + 1) f fd ps sp := by
  obtain ⟨oc, od, kV, doc, pm, an, ct, osl, rfl, lk, hcd⟩ := F.ex
  refine fn_of lk hcd S ln fun A outer s H vs Q E hr hsp => ?_
  obtain ⟨t, ht, hq⟩ := hbody A outer s H vs Q E hr hsp
  exact ⟨t, ht.nox, hq⟩
end
/-! ### the state of the later laws; what stands but the state and the tables -/
def IsSx (H : Hp) (st : Addr) : Prop := ∃ (a : Int) (b : Bool), H st = some (.lst [.int a, .bl b]) ∧ 0 ≤ a ∧ (b = false → a < 2147483647)
def Gx (st : Addr) (H H' : Hp) : Prop := (∀ b o, b ≠ st → (∀ ps, o ≠ .tbl ps) → H b = some o → H' b = some o) ∧ (IsSx H st → IsSx H' st) ∧ ∀ T, LamX.Tabs T H → LamX.Tabs T H'
theorem Gx.refl {st : Addr} {H : Hp} : Gx st H H := ⟨fun _ _ _ _ h => h, id, fun _ h => h⟩
theorem Gx.trans {st : Addr} {H H1 H2 : Hp} (a : Gx st H H1) (b : Gx st H1 H2) : Gx st H H2 := ⟨fun c o n z h => b.1 c o n z (a.1 c o n z h), fun h => b.2.1 (a.2.1 h), fun T h => b.2.2 T (a.2.2 T h)⟩
theorem gx_same {st : Addr} {H H' : Hp} (s : Same H H') : Gx st H H' := ⟨fun b o _ _ h => s b o h, fun ⟨a, b, h, r⟩ => ⟨a, b, s _ _ h, r⟩, fun T h => h.ext s⟩
theorem lst_tbl {xs : List V} : ∀ ps, HO.lst xs ≠ .tbl ps := fun ps z => by cases z
theorem tup_tbl {xs : List V} : ∀ ps, HO.tup xs ≠ .tbl ps := fun ps z => by cases z
theorem tabs_lst {T : List (Addr × Str)} {H : Hp} {D : Addr} {xs ys : List V} (e : H D = some (.lst xs)) (h : LamX.Tabs T H) : LamX.Tabs T (upd H D (.lst ys)) := fun p hp => by
  obtain ⟨ps, h1, h2, h3⟩ := h p hp
  refine ⟨ps, ?_, h2, fun pos cv hc => ?_⟩
  · rw [upd_ne (ne_of h1 e (by intro z; cases z))]
    exact h1
  · obtain ⟨c0, e1, e2⟩ := h3 pos cv hc
    refine ⟨c0, e1, ?_⟩
    rw [upd_ne (ne_of e2 e (by intro z; unfold LamX.CodeO at z; cases z))]
    exact e2
theorem gx_ext {st : Addr} {H H' : Hp} (e : LamX.ExtN H H') (t : ∀ T, LamX.Tabs T H → LamX.Tabs T H') : Gx st H H' := ⟨fun b o _ z h => e b o h z, fun ⟨a, b, h, r⟩ => ⟨a, b, e _ _ h lst_tbl, r⟩, t⟩
theorem Gx.sqT {st : Addr} {K : PySem.W.Frag} {H H' : Hp} {a : Addr} {xs : List V} (g : Gx st H H') (s : IsSx H st) (h : SqT K H a xs) : SqT K H' a xs := by
  obtain ⟨u, v, hs, _⟩ := s
  rcases h with (h | ⟨o, h⟩) | h
  · exact .inl (.inl (g.1 _ _ (ne_of h hs (by intro z; cases z)) tup_tbl h))
  · exact .inl (.inr ⟨o, g.1 _ _ (ne_of h hs (by intro z; cases z)) (fun ps z => by cases z) h⟩)
  · exact .inr h
theorem Gx.tk {st : Addr} {K : PySem.W.Frag} {H H' : Hp} (g : Gx st H H') (s : IsSx H st) : TKeep K H H' := fun _ _ h => g.sqT s h
/-- what stood before the law's state was made -/
theorem Gx.sqL {st : Addr} {K : PySem.W.Frag} {H H' : Hp} {a : Addr} {xs : List V} (g : Gx st H H') (n : a ≠ st) (h : SqL K H a xs) : SqL K H' a xs := by
  rcases h with (h | ⟨o, h⟩) | h
  · exact .inl (.inl (g.1 _ _ n lst_tbl h))
  · exact .inl (.inr ⟨o, g.1 _ _ n (fun ps z => by cases z) h⟩)
  · exact .inr h
theorem sx_ne {H : Hp} {st p : Addr} (s : IsSx H st) (h : H p = none) : p ≠ st := by
  obtain ⟨a, b, e, _⟩ := s
  exact fun z => by rw [z, e] at h; cases h
theorem gx_set {st : Addr} {H : Hp} {a : Int} {b : Bool} {xs : List V} (e : H st = some (.lst xs)) (h0 : 0 ≤ a) (h1 : b = false → a < 2147483647) : Gx st H (upd H st (.lst [.int a, .bl b])) :=
  ⟨fun c o n _ h => by rw [upd_ne n]; exact h, fun _ => ⟨a, b, upd_same, h0, h1⟩, fun T h => tabs_lst e h⟩
theorem gx_upd {st D : Addr} {H0 H : Hp} {xs : List V} (g : Gx st H0 H) (n0 : H0 D = none) (nD : D ≠ st) (eD : H D = some (.lst xs)) (ys : List V) : Gx st H0 (upd H D (.lst ys)) :=
  ⟨fun b o n z h => by rw [upd_ne (ne_of_none h n0)]; exact g.1 b o n z h, fun s => by
    obtain ⟨a, b, e, r⟩ := g.2.1 s
    exact ⟨a, b, by rw [upd_ne (Ne.symm nD)]; exact e, r⟩, fun T h => tabs_lst eD (g.2.2 T h)⟩
/-- the same with the law's own tables alone -/
def Gw (TS : List (Addr × Str)) (st : Addr) (H H' : Hp) : Prop := (∀ b o, b ≠ st → (∀ ps, o ≠ .tbl ps) → H b = some o → H' b = some o) ∧ (IsSx H st → IsSx H' st) ∧ (LamX.Tabs TS H → LamX.Tabs TS H')
theorem Gw.refl {TS : List (Addr × Str)} {st : Addr} {H : Hp} : Gw TS st H H := ⟨fun _ _ _ _ h => h, id, id⟩
theorem Gw.trans {TS : List (Addr × Str)} {st : Addr} {H H1 H2 : Hp} (a : Gw TS st H H1) (b : Gw TS st H1 H2) : Gw TS st H H2 := ⟨fun c o n z h => b.1 c o n z (a.1 c o n z h), fun h => b.2.1 (a.2.1 h), fun h => b.2.2 (a.2.2 h)⟩
theorem Gx.l {TS : List (Addr × Str)} {st : Addr} {H H' : Hp} (g : Gx st H H') : Gw TS st H H' := ⟨g.1, g.2.1, g.2.2 TS⟩
theorem gw_same {TS : List (Addr × Str)} {st : Addr} {H H' : Hp} (s : Same H H') : Gw TS st H H' := (gx_same s).l
theorem gw_ext {TS : List (Addr × Str)} {st : Addr} {H H' : Hp} (e : LamX.ExtN H H') (t : LamX.Tabs TS H') : Gw TS st H H' := ⟨fun b o _ z h => e b o h z, fun ⟨a, b, h, r⟩ => ⟨a, b, e _ _ h lst_tbl, r⟩, fun _ => t⟩
theorem Gw.tk {TS : List (Addr × Str)} {st : Addr} {K : PySem.W.Frag} {H H' : Hp} (g : Gw TS st H H') (s : IsSx H st) : TKeep K H H' := fun a xs h => by
  obtain ⟨u, v, hs, _⟩ := s
  rcases h with (h | ⟨o, h⟩) | h
  · exact .inl (.inl (g.1 _ _ (ne_of h hs (by intro z; cases z)) tup_tbl h))
  · exact .inl (.inr ⟨o, g.1 _ _ (ne_of h hs (by intro z; cases z)) (fun ps z => by cases z) h⟩)
  · exact .inr h
theorem ExtN.tk {K : PySem.W.Frag} {H H' : Hp} (e : LamX.ExtN H H') : TKeep K H H' := fun a xs h => by
  rcases h with (h | ⟨o, h⟩) | h
  · exact .inl (.inl (e _ _ h tup_tbl))
  · exact .inl (.inr ⟨o, e _ _ h (fun ps z => by cases z)⟩)
  · exact .inr h
/-- what stands in a law between two of its states -/
structure Go (TS : List (Addr × Str)) (H H' : Hp) : Prop where
  e : LamX.ExtN H H'
  t : LamX.Tabs TS H'
theorem Go.sqL {TS : List (Addr × Str)} {K : PySem.W.Frag} {H H' : Hp} {a : Addr} {xs : List V} (g : Go TS H H') (h : SqL K H a xs) : SqL K H' a xs := by
  rcases h with (h | ⟨o, h⟩) | h
  · exact .inl (.inl (g.e _ _ h lst_tbl))
  · exact .inl (.inr ⟨o, g.e _ _ h (fun ps z => by cases z)⟩)
  · exact .inr h
theorem Gw.go {TS : List (Addr × Str)} {st : Addr} {H0 H H1 H2 : Hp} (g : Gw TS st H1 H2) (o : Go TS H0 H) (s : Same H H1) (n : H st = none) : Go TS H0 H2 :=
  ⟨fun b u h z => g.1 b u (ne_of_none (o.e b u h z) n) z (s _ _ (o.e b u h z)), g.2.2 (o.t.ext s)⟩

/-! ### refusals with fields -/
def clsB (s : Stmt) (i : Nat) : Stmt := match s with
  | .ClassDef _ _ _ b _ _ _ _ _ _ _ => b.getD i (.Pass ⟨0, 0, 0, 0⟩)
  | _ => .Pass ⟨0, 0, 0, 0⟩
/-- the class at C is made by its own __init__, which keeps sp -/
structure IniT (P : Program) (w : World) (K : PySem.W.Frag) (mg : Str → Option Value) (base : Heap) (C : Addr) (n : Nat) (sp : Sp) : Prop where
  ex : ∃ (fI : Addr) (fd : FuncData) (ps : List Str), OexC K C ∧ PySem.W.findIn K (.ref C) "__init__" = some (some (.ref fI)) ∧ PySem.W.typeIn K (.ref fI) = some (.type "function") ∧ FnOk P w K mg base CX0 1 fI fd ps sp ∧ Binds K fd ps []
theorem pmk_init {X : Cx} {C : Addr} {n : Nat} {sp : Sp} {x : Str} {e : Expr} {es : List Expr} {ta : TA} {p pos : Pos} (I : IniT X.prog X.w X.K X.mg X.base C n sp) (hr : Room 2 X.A) (hg : Gl X x) (hm : X.mg x = some (.ref C)) (ha : PA X (e :: es) ta)
    (hdb : (x == ("__debug__" : Str)) = false := by decide) (he : starEach (e :: es) X.env = (false, eval e X.env) :: starEach es X.env := by rfl) (hpl : (backTo pos (starEach es X.env)).any (·.1) = false := by rfl) :
    PMk X (.Call (.Name x p) (e :: es) [] pos) (tMkO C sp [] ta) := by
  obtain ⟨fI, fd, ps, o, i, t, F, b⟩ := I.ex
  exact pmk_oex o i t F hr b .nil pass0 hg hm ha hdb he hpl
/-- a wish may lean on how many slots there are -/
theorem takes_len {X : Cx} {W : WX} (tk : Takes X W) : Takes X (fun cls d σ H => σ.length = X.N.length → W cls d σ H) := fun u s' ⟨a, B, sI, pins, σ, H, cls, d, e, I, nb, up, sky, na, os, ag, hw⟩ =>
  tk u s' ⟨a, B, sI, pins, σ, H, cls, d, e, I, nb, up, sky, na, os, ag, hw I.len⟩
theorem HasXd.sm {d : Option Addr} {H H' : Hp} (h : HasXd d H) (s : Same H H') : HasXd d H' := fun dd e => by
  obtain ⟨fs, hf⟩ := h dd e
  exact ⟨fs, s _ _ hf⟩
theorem bits_count (i : Nat) (h : i < 16) : (bits i).count true = 1 := by
  have : ∀ i, i < 16 → (bits i).count true = 1 := by decide
  exact this i h
theorem bits_at (i j : Nat) (h : j < 16) : ((bits i).map V.bl)[j]? = some (.bl (decide (i = j))) := by
  unfold bits
  rw [List.map_map, List.getElem?_map, List.getElem?_range h]
  rfl
theorem run_ex {X : Cx} {st : List Stmt} {pins : List (Addr × Obj)} {s : Shared} {σ : L2.St} {H : Hp} {D : Ends} (h : ∃ t, PSs X st t ∧ t D σ H) (I : Inv X pins σ H s) :
    wpAny (model X.prog X.w) X.A (execs st X.env) (SP X pins D) X.xe s := by
  obtain ⟨t, h1, h2⟩ := h
  exact h1.run pins s σ H D I h2

theorem sl_any {K : PySem.W.Frag} {H : Hp} {a : Addr} {xs : List V} {lo hi : Option Int} {R : VK} (hS : SqT K H a xs) (h : ∀ H' p, Same H H' → SqT K H' p (cutV xs lo hi) → R (.ref p) H') : rSlA K (.ref a) lo hi H R :=
  ⟨a, xs, rfl, hS, fun w => h H a (Same.refl _) (by rw [cut_whole w]; exact hS), fun _ p np => h _ p (same_upd np) (.inl (.inl upd_same))⟩
theorem cat_any {K : PySem.W.Frag} {H : Hp} {a b : Addr} {xs ys : List V} {R : VK} (ha : SqT K H a xs) (hb : SqT K H b ys) (hz : xs.length + ys.length ≤ 1000) (h : ∀ H' p, Same H H' → SqT K H' p (xs ++ ys) → R (.ref p) H') : rCatA K (.ref a) (.ref b) H R :=
  ⟨a, b, xs, ys, rfl, rfl, ha, hb, Nat.le_of_lt (small1000 hz), fun e => h H b (Same.refl _) (by rw [e]; exact hb), fun _ e => h H a (Same.refl _) (by rw [e, List.append_nil]; exact ha), fun _ _ p np => h _ p (same_upd np) (.inl (.inl upd_same))⟩
theorem Sd.st {k : Nat} {x : Str} (h : PyData.strOk x = true) : Sd k (.str x) := ⟨h, Nat.zero_le _⟩
theorem sd_mv (m : MV) : Sd 1 (mvD m) := Sd.tup fun e he => by
  rcases mem3 he with rfl | rfl | rfl <;> exact Sd.int _
theorem sd_bk (o : Option Int) : Sd 0 (bkD o) := by
  cases o with
  | none => exact Sd.none
  | some i => exact Sd.int i
theorem sd_ly (l : LY) : Sd 3 (lyD l) := Sd.tup fun e he => by
  rcases mem2 he with rfl | rfl
  · exact Sd.tup fun z hz => by
      obtain ⟨r, _, rfl⟩ := List.mem_map.mp hz
      exact sd_rw r
  · exact (sd_bk _).more (by omega)
theorem sd_win (x y : Int) (ms : List MV) : Sd 3 (winD x y ms) := Sd.tup fun e he => by
  rcases mem3 he with rfl | rfl | rfl
  · exact Sd.int _
  · exact Sd.int _
  · exact Sd.tup fun z hz => by
      obtain ⟨m, _, rfl⟩ := List.mem_map.mp hz
      exact sd_mv m
theorem sd_sh (ls : List LY) (x y : Int) (ms : List MV) : Sd 5 (shD ls x y ms) := Sd.tup fun e he => by
  rcases mem2 he with rfl | rfl
  · exact Sd.tup fun z hz => by
      obtain ⟨l, _, rfl⟩ := List.mem_map.mp hz
      exact sd_ly l
  · exact (sd_win x y ms).more (by omega)
/-- what met tells, as data -/
def toldD (d : PyData) : PyData := .tuple [.str "told", d]
def refD (i : Int) : PyData := .tuple [.str "refused", .int i]
def manyD (m n : Int) : PyData := .tuple [.str "many", .tuple [.int m, .int n]]
theorem sd_told {k : Nat} {d : PyData} (h : Sd k d) : Sd (k + 1) (toldD d) := Sd.tup fun e he => by
  rcases mem2 he with rfl | rfl
  · exact Sd.st (by decide +kernel)
  · exact h
theorem sd_ref (i : Int) : Sd 1 (refD i) := Sd.tup fun e he => by
  rcases mem2 he with rfl | rfl
  · exact Sd.st (by decide +kernel)
  · exact Sd.int i
theorem sd_many (m n : Int) : Sd 2 (manyD m n) := Sd.tup fun e he => by
  rcases mem2 he with rfl | rfl
  · exact Sd.st (by decide +kernel)
  · exact Sd.tup fun z hz => by rcases mem2 hz with rfl | rfl <;> exact Sd.int _
theorem told_dp {K : PySem.W.Frag} {H : Hp} {p : Addr} {v : V} {d : PyData} (h : SqT K H p [.str "told", v]) (hv : Dp K H v d) : Dp K H (.ref p) (toldD d) := .tup h (.cons (.str _) (.cons hv .nil))
theorem ref_dp {K : PySem.W.Frag} {H : Hp} {p : Addr} {i : Int} (h : SqT K H p [.str "refused", .int i]) : Dp K H (.ref p) (refD i) := .tup h (.cons (.str _) (.cons (.int i) .nil))
theorem many_dp {K : PySem.W.Frag} {H : Hp} {p q : Addr} {m n : Int} (h : SqT K H p [.str "many", .ref q]) (hq : SqT K H q [.int m, .int n]) : Dp K H (.ref p) (manyD m n) := .tup h (.cons (.str _) (.cons (.tup hq (.cons (.int m) (.cons (.int n) .nil))) .nil))
/-- != of two things of the same data -/
theorem ne_eqd {K : PySem.W.Frag} {H : Hp} {x y : V} {d : PyData} {Q : VK} (hx : Dp K H x d) (hy : Dp K H y d) (sd : ∃ k, Sd k d ∧ k ≤ 64) (q : Q (.bl false) H) : rNeD K x y H Q := by
  obtain ⟨k, s, hk⟩ := sd
  exact ne_same hx hy s hk q
/-- data that stands as long as the tuples do -/
def Dk (K : PySem.W.Frag) (H : Hp) (v : V) (d : PyData) : Prop := ∀ H', TKeep K H H' → Dp K H' v d
theorem Dk.keep {K : PySem.W.Frag} {H H' : Hp} {v : V} {d : PyData} (h : Dk K H v d) (k : TKeep K H H') : Dk K H' v d := fun H2 k2 => h H2 fun a xs z => k2 _ _ (k _ _ z)
theorem Dk.dp {K : PySem.W.Frag} {H : Hp} {v : V} {d : PyData} (h : Dk K H v d) : Dp K H v d := h H fun _ _ z => z
theorem ShAt.dk {K : PySem.W.Frag} {H : Hp} {v : V} {ls : List LY} {x y : Int} {ms : List MV} (h : ShAt K H v ls x y ms) : Dk K H v (shD ls x y ms) := fun H' k => (h.keep k).dp
theorem LyAt.dk {K : PySem.W.Frag} {H : Hp} {v : V} {l : LY} (h : LyAt K H v l) : Dk K H v (lyD l) := fun H' k => (LyAt.keep k h).dp
theorem told_dk {K : PySem.W.Frag} {H : Hp} {p : Addr} {v : V} {d : PyData} (h : SqT K H p [.str "told", v]) (hv : Dk K H v d) : Dk K H (.ref p) (toldD d) := fun H' k => told_dp (k _ _ h) (hv H' k)
theorem ref_dk {K : PySem.W.Frag} {H : Hp} {p : Addr} {i : Int} (h : SqT K H p [.str "refused", .int i]) : Dk K H (.ref p) (refD i) := fun H' k => ref_dp (k _ _ h)
theorem many_dk {K : PySem.W.Frag} {H : Hp} {p q : Addr} {m n : Int} (h : SqT K H p [.str "many", .ref q]) (hq : SqT K H q [.int m, .int n]) : Dk K H (.ref p) (manyD m n) := fun H' k => many_dp (k _ _ h) (k _ _ hq)
theorem pi_listK {X : Cx} {K : PySem.W.Frag} {tg l : Expr} {tl : TE} (hl : PE X l tl) (hK : X.K = K := by rfl) : PI X tg l (iList K tl) := by
  subst hK
  exact pi_list hl
theorem pi_tupK {X : Cx} {K : PySem.W.Frag} {tg l : Expr} {tl : TE} (hl : PE X l tl) (hK : X.K = K := by rfl) : PI X tg l (iTup K tl) := by
  subst hK
  exact pi_tup hl
/-- is not, of two truths -/
theorem op_notB {X : Cx} : OpR X (compareOp .IsNot) (fun x y H Q => ∃ a b, x = .bl a ∧ y = .bl b ∧ Q (.bl (!decide (a = b))) H) := by
  intro pins s σ H x y v u Q I rx ry h
  obtain ⟨a, b, rfl, rfl, q⟩ := h
  cases rx
  cases ry
  show wpAny _ _ ((isSame (Value.bool a) (Value.bool b)) >>= fun z => pure (Value.bool (!z))) _ _ s
  exact wpAny_bind (wpAny_isSame_plain rfl (wpAny_pure (fin_bl I q (by cases a <;> cases b <;> rfl))))

/-! ### a try whose body always refuses, the caught error kept in a name beyond the clause -/
/-- the context with one more thing that stands still -/
abbrev pnd (X : Cx) (p : Addr × Obj) : Cx := { X with pn := p :: X.pn }
theorem pnd_ok {X : Cx} {p : Addr × Obj} (ok : X.Ok) : (pnd X p).Ok := ok.toTry (p :: X.pn) X.xe
theorem inv_pnd {X : Cx} {p : Addr × Obj} {pins : List (Addr × Obj)} {σ : L2.St} {H : Hp} {s : Shared} (I : Inv X (p :: pins) σ H s) : Inv (pnd X p) pins σ H s :=
  ⟨pnd_ok I.ok, I.os, I.bare, I.base, I.loc, I.cell, I.free, I.freeC, fun q hq => I.pin q (by
    rcases List.mem_append.mp hq with h | h
    · rcases List.mem_cons.mp h with e | h
      · exact List.mem_append_right _ (by rw [e]; exact List.mem_cons_self)
      · exact List.mem_append_left _ h
    · exact List.mem_append_right _ (List.mem_cons_of_mem _ h)), I.hok, I.len⟩
theorem inv_unpnd {X : Cx} {p : Addr × Obj} {pins : List (Addr × Obj)} {σ : L2.St} {H : Hp} {s : Shared} (ok : X.Ok) (I : Inv (pnd X p) pins σ H s) : Inv X pins σ H s :=
  ⟨ok, I.os, I.bare, I.base, I.loc, I.cell, I.free, I.freeC, fun q hq => I.pin q (by
    rcases List.mem_append.mp hq with h | h
    · exact List.mem_append_left _ (List.mem_cons_of_mem _ h)
    · exact List.mem_append_right _ h), I.hok, I.len⟩
/-- behind the clause the caught one still stands -/
theorem inv_behind {X : Cx} {a : Addr} {oe : Obj} {pins pn' : List (Addr × Obj)} {σ : L2.St} {H : Hp} {s : Shared} (ok : X.Ok) (I : Inv (X.suite a ((a, oe) :: (X.pn ++ pins))) pn' σ H s) : Inv X ((a, oe) :: pins) σ H s :=
  ⟨ok, I.os, I.bare, I.base, I.loc, I.cell, I.free, I.freeC, fun q hq => I.pin q (List.mem_append_left _ (by
    rcases List.mem_append.mp hq with h | h
    · exact List.mem_cons_of_mem _ (List.mem_append_left _ h)
    · rcases List.mem_cons.mp h with e | h
      · rw [e]
        exact List.mem_cons_self
      · exact List.mem_cons_of_mem _ (List.mem_append_right _ h))), I.hok, I.len⟩
/-- no way goes on but by what is caught -/
def noEnds : Ends := { nx := fun _ _ => False, rt := fun _ _ => False, bk := fun _ _ => False, ct := fun _ _ => False }
/-- what is wished of a refusal: the clause takes it, its suite ends, and the rest is read with it -/
def wKeep (K : PySem.W.Frag) (c : Value) (i : Nat) (ts tr : Addr → Value → Option Addr → TS) (D : Ends) : WX := fun cls d σ H =>
  PySem.W.exmOne K cls c = some true ∧ ∀ a, H a = none → ts a cls d { noEnds with nx := fun σ' H' => tr a cls d D (σ'.set i none) H' } (σ.set i (some (.ref a))) H
section
variable {X : Cx} {x n : Str} {c : Value} {i : Nat} {body suite rest : List Stmt} {b₀ : Stmt} {np pos pos' : Pos} {tb : WX → TS} {ts tr : Addr → Value → Option Addr → TS}
theorem pss_keep (hs : X.stack = X.env :: X.outer) (hf : X.env.frame = some X.env.locals) (hN : X.N.Nodup) (hi : X.N[i]? = some n) (hln : X.env.kindOf n = some .local) (hc : Names X x c)
    (hb : ∀ (W : WX) (pn : List (Addr × Obj)) (xe : Value → Shared → Prop), Takes (X.tr pn xe) W → PSs (X.tr pn xe) body (tb W))
    (hsu : ∀ (a : Addr) (oe : Obj) (cls : Value) (d : Option Addr) (pn : List (Addr × Obj)), Zc cls d oe → (∃ vs, oe.data = .fields vs) → PSs (X.suite a ((a, oe) :: pn)) (b₀ :: suite) (ts a cls d))
    (hre : ∀ (a : Addr) (oe : Obj) (cls : Value) (d : Option Addr), Zc cls d oe → (∃ vs, oe.data = .fields vs) → PSs (pnd X (a, oe)) rest (tr a cls d)) :
    PSs X (.Try body [.ExceptHandler (some (.Name x np)) (some n) (b₀ :: suite) pos'] [] [] pos :: rest) (fun D σ H => tb (wKeep X.K c i ts tr D) noEnds σ H) := by
  refine ⟨fun pins s σ H D I h => wpAny_execs_cons (wpAny_Try_except ?_)⟩
  have ok := I.ok
  have frm : X.A.frames = some (X.env :: X.outer) := ok.frames.trans (congrArg some hs)
  refine wpAny_mono ((hb (wKeep X.K c i ts tr D) (X.pn ++ pins) _ fun u s' xx => ?_).run [] s σ H noEnds (I.toTry _) h) (fun f s1 z => ?_) (fun _ _ z => z)
  · obtain ⟨a, B, sI, _, σ1, H1, cls, d, rfl, J0, nb, up, sky, na, os, ag, take, go⟩ := xx
    have J : Inv X pins σ1 H1 sI := J0.ofTry ok
    rw [show (X.tr (X.pn ++ pins) _).stack = X.env :: X.outer from hs] at sky
    refine Sky.land Zc.steady frm hf sky fun hA flA upA => ?_
    have off : ∀ {hh : Heap}, HandSPX.FlyingZ B (X.env :: X.outer) a (Zc cls d) hh → a ≠ X.env.locals ∧ a ∉ X.fs ∧ ∃ oe, hh.get? a = some oe ∧ Zc cls d oe ∧ ∃ vs, oe.data = .fields vs := fun {hh} fl => by
      obtain ⟨oe, vs, e1, e2, e3⟩ := fl.there
      have nf : a ∉ frs (X.env :: X.outer) := fun m => by
        obtain ⟨_, o2, q1, q2⟩ := fl.2.2.1.mem m
        cases e1.symm.trans q1
        exact q2 _ e3
      refine ⟨fun q => nf (List.mem_filterMap.mpr ⟨X.env, List.mem_cons_self, hf.trans (congrArg some q.symm)⟩), fun m => nf ?_, oe, e1, e2, vs, e3⟩
      obtain ⟨en, m1, m2⟩ := List.mem_filterMap.mp m
      exact List.mem_filterMap.mpr ⟨en, List.mem_cons_of_mem _ m1, m2⟩
    obtain ⟨nL, nF, oA, eA, zA, vA, dA⟩ := off flA
    have JA : Inv X pins σ1 H1 { s' with heap := hA } := J.landed nb flA.1 (up.trans upA) os ag
    have SA := JA.suite eA dA na nL nF
    have tells : PySem.W.Looks (model X.prog X.w) hA (typeOf (.ref a)) cls := fun A Q E s k q => wpAny_typeOf_ref (k _ _ eA) (by rw [zA.1]; exact q)
    refine wpAny_handleBy_cons (codeAny_handlers_test ?_) (fun q => nomatch q)
    have named : ∀ {Q E : Value → Shared → Prop}, Q c { s' with heap := hA } → wpAny (model X.prog X.w) (X.A.mark (some (.ref a))) (eval (.Name x np) X.env) Q E { s' with heap := hA } := fun {Q E} q => by
      obtain ⟨g1, g2, g3⟩ := hc
      rcases g3 with m | ⟨m, b1, b2⟩
      · exact ld_glob (X := X.suite a ((a, oA) :: (X.pn ++ pins))) SA g1 m q g2
      · exact ld_blt (X := X.suite a ((a, oA) :: (X.pn ++ pins))) SA g1 m b1 q b2 g2
    refine named ((PySem.W.exm_one (M := model X.prog X.w) JA.kIn tells take).here ?_)
    refine codeAny_handlers_suite_as (HandSPX.lands_againZ flA fun hB flB upB => ?_)
    obtain ⟨_, _, oB, eB, zB, vB, dB⟩ := off flB
    have SB := (J.landed (s' := { s' with heap := hB }) nb flB.1 ((up.trans upA).trans upB) os ag).suite eB dB na nL nF
    refine store_ok (X := X.suite a ((a, oB) :: (X.pn ++ pins))) (v := .ref a) SB hN hi (.inl hln) rfl (fun sC SC => ?_) (.inr hln)
    refine wpAny_mono ((hsu a oB cls d (X.pn ++ pins) zB ⟨vB, dB⟩).run [] sC _ H1 _ SC (go a na)) (fun f sD z => ?_) (fun _ _ z => False.elim z)
    cases f with
    | next =>
      obtain ⟨σD, HD, ID, q⟩ := z
      refine gone_ok (inv_behind ok ID) hN hi hln fun sE IE => ?_
      refine wpAny_mono ((hre a oB cls d zB ⟨vB, dB⟩).run pins sE _ HD D (inv_pnd IE) q) (fun f sF z => ?_) (fun _ _ z => z)
      cases f with
      | next => exact z.imp fun _ z => z.imp fun _ z => ⟨inv_unpnd ok z.1, z.2⟩
      | brk => exact z.imp fun _ z => z.imp fun _ z => ⟨inv_unpnd ok z.1, z.2⟩
      | cont => exact z.imp fun _ z => z.imp fun _ z => ⟨inv_unpnd ok z.1, z.2⟩
      | ret u => exact z.imp fun _ z => z.imp fun _ z => z.imp fun _ z => ⟨inv_unpnd ok z.1, z.2⟩
    | brk => exact z.elim fun _ z => z.elim fun _ z => z.2.elim
    | cont => exact z.elim fun _ z => z.elim fun _ z => z.2.elim
    | ret u => exact z.elim fun _ z => z.elim fun _ z => z.elim fun _ z => z.2.2.elim
  · cases f with
    | next => exact z.elim fun _ z => z.elim fun _ z => z.2.elim
    | brk => exact z.elim fun _ z => z.elim fun _ z => z.2.elim
    | cont => exact z.elim fun _ z => z.elim fun _ z => z.2.elim
    | ret u => exact z.elim fun _ z => z.elim fun _ z => z.elim fun _ z => z.2.2.elim
end

/-! ### the end of a law that makes lambdas and calls repr -/
section
variable {P : Program} {w : World} {K : PySem.W.Frag} {mg : Str → Option Value}
theorem fun_okLG {base : Heap} {x qual : Str} {st : Stmt} {f cc : Addr} {fd : FuncData} {N ps : List Str} {k : Nat} {sp : Sp} (F : FunC K x qual st f fd cc) (S : FnScope N ps (defScope st)) (ln : ∀ vs H Q E, sp vs H Q E → vs.length = ps.length)
    (hbody : ∀ (A : Around) (outer : List Env) (s : Shared) (H : Hp) (vs : List V) (Q : VK) (E : XK), A.guards = some [] → Room k (A.deeper (envOfC qual (defScope st) s.heap.objs.size f (.ref cc))) → sp vs H Q E →
      ∃ t, PSs (cxOf CX0 P w K mg base N qual (defScope st) f (.ref cc) A outer s H E).nox (defBody st) t ∧ t { nx := fun _ H' => Q .non H', rt := Q } (L2.start N vs) H) : FnG P w K mg base (k + 1) f fd ps sp := by
  obtain ⟨oc, od, kV, doc, pm, an, ct, osl, e, l, c⟩ := F.ex
  have D : DefAt K x qual st f fd (.ref cc) := ⟨⟨kV, doc, pm, an, ct, e⟩, ⟨oc, od, osl, l⟩, c⟩
  refine ⟨ln, fun A outer s H args us vs Q E hgu hr e0 hb r hsp => D.call S hr.depth e0 hb fun s1 begun => ?_⟩
  obtain ⟨t, ht, hq⟩ := hbody A outer s H vs Q E hgu (hr.deeper _) hsp
  exact thn (ht.nox.run [] s1 _ H _ (inv_start S hr.hd e0 (ln _ _ _ _ hsp) r begun) hq) fun _ _ h => given_by rfl h
/-- the law's call from such a promise, the tables of its code objects told -/
theorem law_callGT {mb : Str → Option Value} {k : Nat} {fa a : Addr} {cs : List (Addr × Addr)} {fd : FuncData} {x : Str} {sp : Sp} {s₁ : Shared} {vs : List Value} {ns : List Int}
    (KX : K.In s₁.heap) (hns : s₁.heap.Ns mainGlobals mg) (hb : s₁.heap.Ns builtinsNs mb) (hbb : ∀ x : Str, x ≠ "__name__" → mb x = bootBuiltins x) (hlim : s₁.heap.NoLimit) (hge : s₁.gens = #[])
    (hT : ∀ p ∈ cs, s₁.heap.get? p.2 = some { cls := .none, data := .fields #[] }) (nT : ∀ p ∈ cs, K.lookup p.2 = none) (hC : ∀ p ∈ cs, PySem.W.CodeHd s₁.heap p.1 p.2)
    (hbm : ∃ (bm : Addr) (ob : Obj), mg "__builtins__" = some (.ref bm) ∧ bm ≠ builtinsNs ∧ s₁.heap.get? bm = some ob ∧ ob.cls = .type "module" ∧ ob.dict = some builtinsNs ∧ ob.data = .plain)
    (ha : s₁.heap.get? a = some { cls := .type "list", data := .seq vs.toArray }) (hi : IntsAre vs ns) (hl : ns.length ≤ sizeLine) (hr : Room k callerA)
    (F : ∀ base : Heap, K.In base → base.Ns mainGlobals mg → (∀ p ∈ cs, LamX.TabB base mg p.1 p.2) → FnG P w K mg base k fa fd [x] sp)
    (hbind : ∀ (s : Shared) (u : Value), BindsTo s fd ⟨[u], []⟩ [(x, u)])
    (hsp : ∀ H : Hp, (∀ p ∈ cs, H p.2 = some (.tbl #[])) → SqL K H a (ns.map V.int) → sp [.ref a] H (fun v _ => v = .bl true) fun _ _ _ => False) :
    codeAny (model P w) callerA (.call (.ref fa) ⟨[.ref a], []⟩)
      (fun r s' => r = .ok (.ret (.bool true)) ∧ OldK s₁.heap s'.heap ∧ s'.os = s₁.os ∧ AllBare s'.gens) s₁ := by
  have rv := vals_ints hi
  have lv := hi.length
  have tab : ∀ {b : Addr}, (∃ p ∈ cs, p.2 = b) → s₁.heap.get? b = some { cls := .none, data := .fields #[] } := fun {b} ⟨p, hp, e⟩ => e ▸ hT p hp
  have atab : ¬ ∃ p ∈ cs, p.2 = a := fun z => by
    have e := (tab z).symm.trans ha
    cases e
  have hex : ∃ H : Hp, (∀ b, (∃ p ∈ cs, p.2 = b) → H b = some (.tbl #[])) ∧ (K.lookup a = none → H a = some (.frz { cls := .type "list", data := .seq vs.toArray } (.lst (ns.map V.int)))) ∧
      ∀ b u, H b = some u → ((∃ p ∈ cs, p.2 = b) ∧ u = .tbl #[]) ∨ (b = a ∧ K.lookup a = none ∧ u = .frz { cls := .type "list", data := .seq vs.toArray } (.lst (ns.map V.int))) := by
    refine ⟨fun b => (open Classical in if ∃ p ∈ cs, p.2 = b then some (.tbl #[]) else if b = a ∧ K.lookup a = none then some (.frz { cls := .type "list", data := .seq vs.toArray } (.lst (ns.map V.int))) else none), fun b z => if_pos z, fun z => (if_neg atab).trans (if_pos ⟨rfl, z⟩), fun b u e => ?_⟩
    by_cases c1 : ∃ p ∈ cs, p.2 = b
    · exact .inl ⟨c1, (Option.some.inj ((if_pos c1).symm.trans e)).symm⟩
    · have e := (if_neg c1).symm.trans e
      by_cases c2 : b = a ∧ K.lookup a = none
      · exact .inr ⟨c2.1, c2.2, (Option.some.inj ((if_pos c2).symm.trans e)).symm⟩
      · cases (if_neg c2).symm.trans e
  obtain ⟨H, hHt, hHa, some_of⟩ := hex
  have none_of : ∀ {b o}, s₁.heap.get? b = some o → (∀ q n, o.data ≠ .seq q n) → o.data ≠ .fields #[] → H b = none := by
    intro b o e d1 d2
    cases c : H b with
    | none => rfl
    | some u =>
      rcases some_of b u c with ⟨z, _⟩ | ⟨z, _, _⟩
      · cases (tab z).symm.trans e
        exact absurd rfl d2
      · rw [z, ha] at e
        cases e
        exact absurd rfl (d1 _ _)
  have hS : SqL K H a (ns.map V.int) := by
    cases hk : K.lookup a with
    | none => exact .inl (.inr ⟨_, hHa hk⟩)
    | some o =>
      have e := KX a o hk
      rw [ha] at e
      cases e
      refine .inr ⟨_, vs.toArray, _, hk, rfl, rfl, rfl, ?_, by simpa using rv⟩
      rw [List.size_toArray, lv]
      exact hl
  have hok : HOk P w H s₁.heap := by
    intro b u e
    rcases some_of b u e with ⟨z, rfl⟩ | ⟨rfl, _, rfl⟩
    · exact tab z
    · refine ⟨ha, ?_, vs, _, rv, ha⟩
      rw [List.length_map]
      exact hl
  have nsB : ∀ {b : Addr} {m : Str → Option Value}, s₁.heap.Ns b m → (hidT s₁.heap H).Ns b m := by
    rintro b m ⟨o, es, ep, e, d, r⟩
    exact ⟨o, es, ep, hidT_get e (none_of e (fun q n z => by rw [d] at z; cases z) (fun z => by rw [d] at z; cases z)), d, r⟩
  have kB : K.In (hidT s₁.heap H) := by
    intro b o e
    refine hidT_get (KX b o e) ?_
    cases c : H b with
    | none => rfl
    | some u =>
      rcases some_of b u c with ⟨⟨p, hp, rfl⟩, _⟩ | ⟨rfl, k0, _⟩
      · rw [nT p hp] at e
        cases e
      · rw [k0] at e
        cases e
  have md : Mod K mg (hidT s₁.heap H) := by
    obtain ⟨mc, h1, h2⟩ := hlim
    exact ⟨kB, nsB hns, ⟨mb, nsB hb, hbb⟩, ⟨mc, nsB h1, h2⟩⟩
  have mainD : ∀ {b o}, s₁.heap.get? b = some o → (∀ es ep, o.data ≠ .dict es ep) → mainGlobals ≠ b := fun {b o} e d z => by
    obtain ⟨o', es, ep, e', d', _⟩ := hns
    rw [z, e] at e'
    cases e'
    exact d es ep d'
  have TB : ∀ p ∈ cs, LamX.TabB (hidT s₁.heap H) mg p.1 p.2 := fun p hp => by
    refine ⟨?_, ?_, mainD (hT p hp) (fun es ep z => nomatch z)⟩
    · obtain ⟨o, us, file, tf, flags, tg, inF, text, tt, e1, e2, e3, e4, e5⟩ := hC p hp
      refine ⟨o, us, file, tf, flags, tg, inF, text, tt, hidT_get e1 (none_of e1 (fun q n z => ?_) fun z => ?_), e2, e3, e4, e5⟩
      · rw [e3] at z
        cases z
      · rw [e3] at z
        cases z
        cases e4
    · obtain ⟨bm, ob, b1, b2, b3, b4, b5, b6⟩ := hbm
      refine ⟨bm, ob, b1, b2, (mainD b3 (fun es ep z => by rw [b6] at z; cases z)).symm, fun z => ?_, hidT_get b3 (none_of b3 (fun q n z => by rw [b6] at z; cases z) (fun z => by rw [b6] at z; cases z)), b4, b5, b6⟩
      rw [z, hT p hp] at b3
      cases b3
      cases b6
  have e0 : Env0 P w K mg (hidT s₁.heap H) callerA [] s₁ H := by
    refine ⟨rfl, md, fun b o e => of_hidT e, Nat.le_of_eq (hidT_size _ _), trivial, ?_, hok, .of_eq hge⟩
    intro b hb
    exact absurd (show b ∈ ([] : List Addr) from hb) (by simp)
  have go := (F _ kB (nsB hns) TB).run callerA [] s₁ H ⟨[.ref a], []⟩ [.ref a] [.ref a] _ _ rfl hr e0
    (hbind s₁ (.ref a)) (.cons rfl .nil) (hsp H (fun p hp => hHt p.2 ⟨p, hp, rfl⟩) hS)
  refine codeAny_mono go fun r s' h => ?_
  cases r with
  | error e => exact h.elim
  | ok fl =>
    cases fl with
    | ret u =>
      obtain ⟨v, H', os, bare, un, hok', r', qv⟩ := h
      have qv' : v = .bl true := qv
      subst qv'
      obtain rfl : u = Value.bool true := r'
      have each : ∀ b o, s₁.heap.get? b = some o → s'.heap.get? b = some o ∨ ((∃ p ∈ cs, p.2 = b) ∧ ∃ more : Array Value, s'.heap.get? b = some { cls := .none, data := .fields more }) := fun b o e => by
        cases c : H b with
        | none =>
          refine .inl (un.keep b o e c ?_ (by simp))
          intro z
          exact absurd (show b ∈ ([] : List Addr) from z) (by simp)
        | some u =>
          rcases some_of b u c with ⟨z, rfl⟩ | ⟨_, _, rfl⟩
          · obtain ⟨more, q⟩ := un.tbls b #[] c
            exact .inr ⟨z, _, hok' b _ q⟩
          · have c2 := un.frzs b _ _ c
            obtain ⟨e1, _⟩ := hok b _ c
            obtain ⟨e2, _⟩ := hok' b _ c2
            rw [e] at e1
            cases e1
            exact .inl e2
      refine ⟨rfl, ⟨fun b o e => ?_, fun b o e => ?_⟩, os, bare⟩
      · rcases each b o e with z | ⟨⟨p, hp, rfl⟩, more, z⟩
        · exact .inl z
        · cases e.symm.trans (hT p hp)
          exact .inr (.inl ⟨((hC p hp).tab (hT p hp)).isCodeTable, rfl, #[], more, rfl, by rw [Array.empty_append]; exact z⟩)
      · rcases each b o e with z | ⟨_, more, z⟩
        · exact ⟨_, z⟩
        · exact ⟨_, z⟩
    | next => exact False.elim h
    | brk => exact False.elim h
    | cont => exact False.elim h
end
/-- what is known of such a law at the head's heap -/
def LawAtG (l : PySem.W.OpenLaw) (w : World) (K : PySem.W.Frag) (k n : Nat) (x : Str) (mg : Str → Option Value) (fa : Addr) (h : Heap) : Prop :=
  ∃ (fd : FuncData) (cs : List (Addr × Addr)) (sp : Sp), (∀ p ∈ cs, h.get? p.2 = some { cls := .none, data := .fields #[] }) ∧ (∀ p ∈ cs, K.lookup p.2 = none) ∧ (∀ p ∈ cs, PySem.W.CodeHd h p.1 p.2) ∧ (∀ (s : Shared) (u : Value), BindsTo s fd ⟨[u], []⟩ [(x, u)]) ∧
    (∀ (H : Hp) (a : Addr) (ns : List Int), ns.length ≤ n → (∀ p ∈ cs, H p.2 = some (.tbl #[])) → SqL K H a (ns.map V.int) → sp [.ref a] H (fun v _ => v = .bl true) fun _ _ _ => False) ∧
    ∀ base : Heap, K.In base → base.Ns mainGlobals mg → (∀ p ∈ cs, LamX.TabB base mg p.1 p.2) → FnG l.prog w K mg base k fa fd [x] sp
theorem walk_ofLG {l : PySem.W.OpenLaw} {n k : Nat} {q : Program} {loose : List Str} {XP : (Str → Option Value) → Heap → Prop} {YP : World → Heap → Prop} {d : DefRec} {K : Params → PySem.W.Frag} {x : Str}
    (hn : l.most = some n) (hn2 : n ≤ sizeLine) (hdf : d.params.defaults = []) (hr : Room k callerA) (hY : ∀ (w : World) (h : Heap), YP w h → (K w.params).In h)
    (F : ∀ (w : World) (mg : Str → Option Value) (fa : Addr) (h : Heap), (K w.params).In h → h.Ns mainGlobals mg → mg d.name = some (.ref fa) → TabsIn q (K w.params) h → LawAtG l w (K w.params) k n x mg fa h) :
    PySem.W.WalkO q loose XP YP l.row.toRowW d [] (fun f vs => PySem.call f vs) := by
  refine Att.attach_callB hn hdf
    fun w s₀ s₁ mg mb fa o pm cd doc a vs ns G Y ho hd hcd hmg hobj hints hlen hbits hg => ?_
  have hK := hY w _ Y
  have tabs : TabsIn q (K w.params) s₁.heap := fun y c P hf ht => by
    obtain ⟨dL, hfd⟩ := Option.isSome_iff_exists.mp hf
    exact PySem.W.tab_of G.T hK hfd ht
  obtain ⟨fd, cs, sp, hT, nT, C, hb, hsp, hF⟩ := F w mg fa _ hK G.T.g hmg tabs
  exact law_callGT hK G.T.g G.T.b G.T.builtins G.T.nolimit hg hT nT C G.T.bmain hobj hints
    (Nat.le_trans hlen hn2) hr hF hb fun H hH hS => hsp H a ns hlen hH hS
/-- f(e, ..) where nothing is being shown -/
structure ClG (P : Program) (w : World) (K : PySem.W.Frag) (mg : Str → Option Value) (base : Heap) (k : Nat) (x : Str) (ps : List Str) (sp : Sp) : Prop where
  ex : ∃ (f : Addr) (fd : FuncData), FnG P w K mg base k f fd ps sp ∧ PySem.W.keepIn K (.ref f) = true ∧ Binds K fd ps [] ∧ mg x = some (.ref f)

/-! ### lengths of texts put together -/
theorem js_len {a b : Str} {m n : Nat} (ha : a.length ≤ m) (hb : b.length ≤ n) : (a ++ b).length ≤ m + n := by
  rw [strLen_append]
  omega
theorem js_ok {a : Str} {m : Nat} (ha : a.length ≤ m) (h : m ≤ 1000) : a.length ≤ sizeLine := Nat.le_trans ha (Nat.le_of_lt (small1000 h))
theorem it_len {i : Int} (h : i.natAbs ≤ 1000000000) : (Str.ofString (toString i)).length ≤ 60 ∧ i.natAbs.log2 < 1920 := by
  have hl : i.natAbs.log2 < 41 := by
    rcases Nat.eq_zero_or_pos i.natAbs with e | e
    · rw [e]
      decide
    · exact (Nat.log2_lt (by omega)).mpr (Nat.lt_of_le_of_lt h (by decide))
  have := int_text_length_le (a := i) (k := 41) (by decide) hl
  rw [PySem.ofString_length]
  omega

/-! ### runs of like drawings -/
def rstep (rs : List RW) (d : Int) : List RW := match rs.getLast? with
  | some r => if r.1 = d then rs.dropLast ++ [(d, r.2 + 1)] else rs ++ [(d, 1)]
  | none => [(d, 1)]
def runs (xs : List Int) : List RW := xs.foldl rstep []
theorem runs_snoc (xs : List Int) (d : Int) : runs (xs ++ [d]) = rstep (runs xs) d := by
  unfold runs
  rw [List.foldl_append]
  rfl
theorem rstep_nil (d : Int) : rstep [] d = [(d, 1)] := rfl
theorem rstep_snoc (rs : List RW) (r : RW) (d : Int) : rstep (rs ++ [r]) d = if r.1 = d then rs ++ [(d, r.2 + 1)] else (rs ++ [r]) ++ [(d, 1)] := by
  unfold rstep
  rw [List.getLast?_append]
  show (if r.1 = d then (rs ++ [r]).dropLast ++ [(d, r.2 + 1)] else rs ++ [r] ++ [(d, 1)]) = _
  rw [List.dropLast_concat]
theorem snoc_cases {α : Type} (xs : List α) : xs = [] ∨ ∃ ys y, xs = ys ++ [y] := by
  rcases List.eq_nil_or_concat xs with h | ⟨ys, y, h⟩
  · exact .inl h
  · exact .inr ⟨ys, y, by rw [h, List.concat_eq_append]⟩
theorem snoc_ind {α : Type} {P : List α → Prop} (h0 : P []) (h1 : ∀ xs x, P xs → P (xs ++ [x])) : ∀ xs, P xs := fun xs => by
  have : ∀ n (xs : List α), xs.length = n → P xs := fun n => by
    induction n with
    | zero => intro xs h; rw [List.length_eq_zero_iff.mp h]; exact h0
    | succ n ih =>
      intro xs h
      rcases snoc_cases xs with rfl | ⟨ys, y, rfl⟩
      · simp at h
      · refine h1 _ _ (ih _ ?_)
        rw [List.length_append] at h
        simpa using h
  exact this _ xs rfl
theorem dwg_one (d : Int) (n : Int) : dwg [(d, n)] = List.replicate n.toNat d := by
  show List.replicate n.toNat d ++ [] = _
  rw [List.append_nil]
/-- what runs are -/
structure RunsOk (xs : List Int) (rs : List RW) : Prop where
  all : dwg rs = xs
  pos : ∀ r ∈ rs, 1 ≤ r.2 ∧ r.1 ∈ xs
  lst : ∀ ys y, xs = ys ++ [y] → ∃ qs r, rs = qs ++ [r] ∧ r.1 = y
theorem runs_ok : ∀ xs : List Int, RunsOk xs (runs xs) := by
  refine snoc_ind ⟨rfl, (fun r hr => by cases hr), (fun ys y h => by simp at h)⟩ fun xs d ih => ?_
  rw [runs_snoc]
  rcases snoc_cases (runs xs) with h | ⟨qs, r, h⟩
  · have hx : xs = [] := by
      have := ih.all
      rw [h] at this
      exact this.symm
    subst hx
    rw [h, rstep_nil]
    refine ⟨by rw [dwg_one]; rfl, fun r hr => ?_, fun ys y e => ⟨[], _, rfl, ?_⟩⟩
    · rw [List.mem_singleton.mp hr]
      exact ⟨by show (1 : Int) ≤ 1; omega, by simp⟩
    · have := (List.append_inj' e rfl).2
      simpa using this
  · rw [h] at ih ⊢
    have hr1 := (ih.pos r (by simp)).1
    rw [rstep_snoc]
    by_cases e : r.1 = d
    · rw [if_pos e]
      refine ⟨?_, fun q hq => ?_, fun ys y e2 => ⟨qs, _, rfl, ?_⟩⟩
      · rw [← ih.all, dwg_append, dwg_append, dwg_one, List.append_assoc]
        congr 1
        show _ = List.replicate r.2.toNat r.1 ++ [] ++ [d]
        rw [List.append_nil, e, show (r.2 + 1).toNat = r.2.toNat + 1 by omega, List.replicate_succ']
      · rcases List.mem_append.mp hq with z | z
        · exact ⟨(ih.pos q (List.mem_append_left _ z)).1, List.mem_append_left _ (ih.pos q (List.mem_append_left _ z)).2⟩
        · rw [List.mem_singleton.mp z]
          exact ⟨by show 1 ≤ r.2 + 1; omega, by simp⟩
      · have := (List.append_inj' e2 rfl).2
        simpa using this
    · rw [if_neg e]
      refine ⟨?_, fun q hq => ?_, fun ys y e2 => ⟨_, _, rfl, ?_⟩⟩
      · rw [dwg_append, ih.all, dwg_one]
        rfl
      · rcases List.mem_append.mp hq with z | z
        · exact ⟨(ih.pos q z).1, List.mem_append_left _ (ih.pos q z).2⟩
        · rw [List.mem_singleton.mp z]
          exact ⟨by show (1 : Int) ≤ 1; omega, by simp⟩
      · have := (List.append_inj' e2 rfl).2
        simpa using this
/-- how often the drawing changes -/
def chg : List Int → Nat
  | [] => 0
  | [_] => 0
  | a :: b :: r => (if b = a then 0 else 1) + chg (b :: r)
theorem chg_snoc : ∀ (xs : List Int) (y d : Int), chg (xs ++ [y] ++ [d]) = chg (xs ++ [y]) + if d = y then 0 else 1
  | [], y, d => by
    show (if d = y then 0 else 1) + 0 = 0 + _
    omega
  | [a], y, d => by
    show (if y = a then 0 else 1) + ((if d = y then 0 else 1) + 0) = (if y = a then 0 else 1) + 0 + _
    omega
  | a :: b :: r, y, d => by
    have ih := chg_snoc (b :: r) y d
    show (if b = a then 0 else 1) + chg (b :: r ++ [y] ++ [d]) = (if b = a then 0 else 1) + chg (b :: r ++ [y]) + _
    rw [ih]
    omega
theorem runs_len : ∀ xs : List Int, (runs xs).length ≤ chg xs + 1 := by
  refine snoc_ind (by show 0 ≤ _; omega) fun xs d ih => ?_
  rw [runs_snoc]
  rcases snoc_cases xs with rfl | ⟨ys, y, rfl⟩
  · show (rstep [] d).length ≤ _
    rw [rstep_nil]
    show 1 ≤ _
    omega
  · obtain ⟨qs, r, h, hy⟩ := (runs_ok (ys ++ [y])).lst ys y rfl
    rw [h] at ih ⊢
    rw [rstep_snoc, chg_snoc, hy]
    rw [List.length_append] at ih
    by_cases e : y = d
    · rw [if_pos e, if_pos e.symm, List.length_append]
      exact ih
    · rw [if_neg e, if_neg (fun z => e z.symm), List.length_append, List.length_append]
      show qs.length + 1 + 1 ≤ _
      have : qs.length + 1 ≤ chg (ys ++ [y]) + 1 := ih
      omega
/-! ### rows of a run -/
def rrun (d n : Int) : List RW := [(d, (n - 1) % 24 + 1)] ++ List.replicate ((n - 1) / 24).toNat (d, 24)
theorem dwg_rep (d : Int) : ∀ k : Nat, dwg (List.replicate k (d, 24)) = List.replicate (k * 24) d
  | 0 => rfl
  | k + 1 => by
    rw [List.replicate_succ]
    show List.replicate (24 : Int).toNat d ++ dwg (List.replicate k (d, 24)) = _
    rw [dwg_rep d k, show (24 : Int).toNat = 24 from rfl, List.replicate_append_replicate]
    congr 1
    omega
theorem rrun_dwg {d n : Int} (h : 1 ≤ n) : dwg (rrun d n) = List.replicate n.toNat d := by
  unfold rrun
  rw [dwg_append, dwg_one, dwg_rep, List.replicate_append_replicate]
  congr 1
  omega
theorem rrun_len {d n : Int} : (rrun d n).length = ((n - 1) / 24).toNat + 1 := by
  unfold rrun
  rw [List.length_append, List.length_replicate]
  show 1 + _ = _
  omega
theorem rrun_row {d n : Int} (h0 : 0 ≤ d) (h1 : d ≤ 9) : ∀ r ∈ rrun d n, VRow r := fun r hr => by
  unfold rrun at hr
  rcases List.mem_append.mp hr with z | z
  · rw [List.mem_singleton.mp z]
    exact ⟨h0, h1, by show 1 ≤ (n - 1) % 24 + 1; omega, by show (n - 1) % 24 + 1 ≤ 24; omega⟩
  · rw [List.eq_of_mem_replicate z]
    exact ⟨h0, h1, by show (1 : Int) ≤ 24; omega, by show (24 : Int) ≤ 24; omega⟩
def foldR (xs : List Int) : List RW := (runs xs).flatMap fun r => rrun r.1 r.2
theorem dwg_flat : ∀ rs : List RW, (∀ r ∈ rs, 1 ≤ r.2) → dwg (rs.flatMap fun r => rrun r.1 r.2) = dwg rs
  | [], _ => rfl
  | r :: t, h => by
    rw [List.flatMap_cons, dwg_append, dwg_flat t fun q hq => h q (List.mem_cons_of_mem _ hq), rrun_dwg (h r (List.mem_cons_self ..))]
    rfl
theorem foldR_dwg (xs : List Int) : dwg (foldR xs) = xs := by
  unfold foldR
  rw [dwg_flat _ fun r hr => ((runs_ok xs).pos r hr).1, (runs_ok xs).all]
theorem foldR_row {xs : List Int} (h : ∀ x ∈ xs, 0 ≤ x ∧ x ≤ 9) : ∀ r ∈ foldR xs, VRow r := fun r hr => by
  obtain ⟨q, hq, hr⟩ := List.mem_flatMap.mp hr
  have := h q.1 ((runs_ok xs).pos q hq).2
  exact rrun_row this.1 this.2 r hr
theorem flat_len : ∀ rs : List RW, (∀ r ∈ rs, 1 ≤ r.2) → 24 * (rs.flatMap fun r => rrun r.1 r.2).length ≤ 23 * rs.length + (dwg rs).length
  | [], _ => by show 0 ≤ _; omega
  | r :: t, h => by
    have ih := flat_len t fun q hq => h q (List.mem_cons_of_mem _ hq)
    have h1 := h r (List.mem_cons_self ..)
    rw [List.flatMap_cons, List.length_append, rrun_len, List.length_cons]
    show _ ≤ _ + (List.replicate r.2.toNat r.1 ++ dwg t).length
    rw [List.length_append, List.length_replicate]
    omega
theorem foldR_len (xs : List Int) : 24 * (foldR xs).length ≤ 23 * (runs xs).length + xs.length := by
  have := flat_len (runs xs) fun r hr => ((runs_ok xs).pos r hr).1
  rw [(runs_ok xs).all] at this
  exact this
theorem lays_dwg {rs : List RW} (v : ∀ r ∈ rs, VRow r) : laysI rs none (dwg rs).length = dwg rs := by
  refine List.ext_getElem? fun i => ?_
  unfold laysI
  rcases Nat.lt_or_ge i (dwg rs).length with h | h
  · rw [List.getElem?_map, List.getElem?_range h]
    have e := dwg_len v
    rw [dwg_at v (by omega)]
    rfl
  · rw [List.getElem?_eq_none (by rw [List.length_map, List.length_range]; exact h), List.getElem?_eq_none h]

/-! ### things of whatever kind, as data -/
mutual
inductive Dg (K : PySem.W.Frag) (fx : Hp) (H : Hp) : Bool → V → PyData → Prop
  | non {b : Bool} : Dg K fx H b .non .none
  | bl {b : Bool} (x : Bool) : Dg K fx H b (.bl x) (.bool x)
  | int {b : Bool} (i : Int) : Dg K fx H b (.int i) (.int i)
  | str {b : Bool} (x : Str) : Dg K fx H b (.str x) (.str x)
  | tup {b : Bool} {a : Addr} {xs : List V} {ds : List PyData} : SqT K H a xs → DgAll K fx H b xs ds → Dg K fx H b (.ref a) (.tuple ds)
  | lst {a : Addr} {xs : List V} {ds : List PyData} : fx a = none → H a = some (.lst xs) → DgAll K fx H true xs ds → Dg K fx H true (.ref a) (.list ds)
  | dic0 {a : Addr} : fx a = none → H a = some (.dK []) → Dg K fx H false (.ref a) (.dict [])
  | dic1 {a : Addr} {k : Str} {i : Int} : fx a = none → H a = some (.dK [(Sum.inr k, .int i)]) → Dg K fx H false (.ref a) (.dict [(.str k, .int i)])
inductive DgAll (K : PySem.W.Frag) (fx : Hp) (H : Hp) : Bool → List V → List PyData → Prop
  | nil {b : Bool} : DgAll K fx H b [] []
  | cons {b : Bool} {v : V} {vs : List V} {d : PyData} {ds : List PyData} : Dg K fx H b v d → DgAll K fx H b vs ds → DgAll K fx H b (v :: vs) (d :: ds)
end
mutual
theorem Dg.kp {K : PySem.W.Frag} {fx : Hp} {H H' : Hp} (kt : TKeep K H H') (kb : ∀ b o, fx b = none → H b = some o → H' b = some o) : ∀ {b : Bool} {v : V} {d : PyData}, Dg K fx H b v d → Dg K fx H' b v d
  | _, _, _, .non => .non
  | _, _, _, .bl x => .bl x
  | _, _, _, .int i => .int i
  | _, _, _, .str x => .str x
  | _, _, _, .tup h q => .tup (kt _ _ h) (DgAll.kp kt kb q)
  | _, _, _, .lst n h q => .lst n (kb _ _ n h) (DgAll.kp kt kb q)
  | _, _, _, .dic0 n h => .dic0 n (kb _ _ n h)
  | _, _, _, .dic1 n h => .dic1 n (kb _ _ n h)
theorem DgAll.kp {K : PySem.W.Frag} {fx : Hp} {H H' : Hp} (kt : TKeep K H H') (kb : ∀ b o, fx b = none → H b = some o → H' b = some o) : ∀ {b : Bool} {v : List V} {d : List PyData}, DgAll K fx H b v d → DgAll K fx H' b v d
  | _, _, _, .nil => .nil
  | _, _, _, .cons h q => .cons (Dg.kp kt kb h) (DgAll.kp kt kb q)
end
theorem Dg.sm {K : PySem.W.Frag} {fx : Hp} {H H' : Hp} {b : Bool} {v : V} {d : PyData} (s : Same H H') (h : Dg K fx H b v d) : Dg K fx H' b v d := Dg.kp (Same.tk s) (fun a o _ e => s a o e) h
theorem Dg.gr {K : PySem.W.Frag} {fx : Hp} {st : Addr} {H H' : Hp} {b : Bool} {v : V} {d : PyData} (g : Gr st H H') (hs : IsSt H st) (hf : fx st ≠ none) (h : Dg K fx H b v d) : Dg K fx H' b v d := Dg.kp (g.tk hs) (fun b o hb e => g.1 b o (fun z => hf (by rw [← z]; exact hb)) e) h
theorem DgAll.gr {K : PySem.W.Frag} {fx : Hp} {st : Addr} {H H' : Hp} {b : Bool} {v : List V} {d : List PyData} (g : Gr st H H') (hs : IsSt H st) (hf : fx st ≠ none) (h : DgAll K fx H b v d) : DgAll K fx H' b v d := DgAll.kp (g.tk hs) (fun b o hb e => g.1 b o (fun z => hf (by rw [← z]; exact hb)) e) h
theorem Gr.free {st p : Addr} {H H' : Hp} (g : Gr st H H') (hs : IsSt H st) (np : H' p = none) : H p = none := by
  cases e : H p with
  | none => rfl
  | some o =>
    by_cases z : p = st
    · subst z
      obtain ⟨x, y, hx, _⟩ := g.2 hs
      rw [hx] at np
      cases np
    · rw [g.1 p o z e] at np
      cases np
theorem st_some {st : Addr} {H : Hp} (hs : IsSt H st) : H st ≠ none := by
  obtain ⟨x, y, hx, _⟩ := hs
  rw [hx]
  exact fun z => nomatch z
/-- a wider world knows more old places -/
theorem dg_dummy : True := trivial
theorem DgAll.sm {K : PySem.W.Frag} {fx : Hp} {H H' : Hp} {b : Bool} {v : List V} {d : List PyData} (s : Same H H') (h : DgAll K fx H b v d) : DgAll K fx H' b v d := DgAll.kp (Same.tk s) (fun a o _ e => s a o e) h
mutual
theorem Dg.wk {K : PySem.W.Frag} {fx fy H : Hp} (w : ∀ a, fx a = none → fy a = none) : ∀ {b : Bool} {v : V} {d : PyData}, Dg K fx H b v d → Dg K fy H b v d
  | _, _, _, .non => .non
  | _, _, _, .bl x => .bl x
  | _, _, _, .int i => .int i
  | _, _, _, .str x => .str x
  | _, _, _, .tup h q => .tup h (DgAll.wk w q)
  | _, _, _, .lst n h q => .lst (w _ n) h (DgAll.wk w q)
  | _, _, _, .dic0 n h => .dic0 (w _ n) h
  | _, _, _, .dic1 n h => .dic1 (w _ n) h
theorem DgAll.wk {K : PySem.W.Frag} {fx fy H : Hp} (w : ∀ a, fx a = none → fy a = none) : ∀ {b : Bool} {v : List V} {d : List PyData}, DgAll K fx H b v d → DgAll K fy H b v d
  | _, _, _, .nil => .nil
  | _, _, _, .cons h q => .cons (Dg.wk w h) (DgAll.wk w q)
end
theorem DgAll.len {K : PySem.W.Frag} {fx : Hp} {H : Hp} : ∀ {b : Bool} {vs : List V} {ds : List PyData}, DgAll K fx H b vs ds → vs.length = ds.length
  | _, _, _, .nil => rfl
  | _, _, _, .cons _ t => by rw [List.length_cons, List.length_cons, DgAll.len t]
theorem DgAll.at {K : PySem.W.Frag} {fx : Hp} {H : Hp} : ∀ {b : Bool} {vs : List V} {ds : List PyData} {i : Nat} {v : V}, DgAll K fx H b vs ds → vs[i]? = some v → ∃ d, ds[i]? = some d ∧ Dg K fx H b v d
  | _, _, _, i, v, .nil, h => by simp at h
  | _, _, _, 0, v, .cons a t, h => by
    have e : _ = v := Option.some.inj h
    subst e
    exact ⟨_, rfl, a⟩
  | _, _, _, i + 1, v, .cons a t, h => DgAll.at (i := i) t h
theorem DgAll.app {K : PySem.W.Frag} {fx : Hp} {H : Hp} {b : Bool} {ws : List V} {es : List PyData} (q : DgAll K fx H b ws es) : ∀ {vs : List V} {ds : List PyData}, DgAll K fx H b vs ds → DgAll K fx H b (vs ++ ws) (ds ++ es)
  | _, _, .nil => q
  | _, _, .cons a t => .cons a (DgAll.app q t)
theorem DgAll.tk {K : PySem.W.Frag} {fx : Hp} {H : Hp} {b : Bool} : ∀ (n : Nat) {vs : List V} {ds : List PyData}, DgAll K fx H b vs ds → DgAll K fx H b (vs.take n) (ds.take n)
  | 0, _, _, _ => .nil
  | _ + 1, _, _, .nil => .nil
  | n + 1, _, _, .cons a t => .cons a (DgAll.tk n t)
theorem DgAll.dr {K : PySem.W.Frag} {fx : Hp} {H : Hp} {b : Bool} : ∀ (n : Nat) {vs : List V} {ds : List PyData}, DgAll K fx H b vs ds → DgAll K fx H b (vs.drop n) (ds.drop n)
  | 0, _, _, q => q
  | _ + 1, _, _, .nil => .nil
  | n + 1, _, _, .cons _ t => DgAll.dr n t
/-! kinds -/
def tyn : PyData → String
  | .none => "NoneType"
  | .bool _ => "bool"
  | .int _ => "int"
  | .str _ => "str"
  | .list _ => "list"
  | .tuple _ => "tuple"
  | .dict _ => "dict"
def isB : PyData → Bool
  | .bool _ => true
  | _ => false
def isI : PyData → Bool
  | .bool _ => true
  | .int _ => true
  | _ => false
def isT : PyData → Bool
  | .tuple _ => true
  | _ => false
theorem Dg.ty {K : PySem.W.Frag} {fx : Hp} {H : Hp} {b : Bool} {v : V} {d : PyData} (h : Dg K fx H b v d) : TyX K H v (.type (tyn d)) := by
  cases h with
  | non => exact .base .non
  | bl x => exact .base (.bl x)
  | int i => exact .base (.int i)
  | str x => exact .base (.str x)
  | tup h q => exact tyT h
  | lst n h q => exact .base (.lst h)
  | dic0 n h => exact .base (.dK h)
  | dic1 n h => exact .base (.dK h)
theorem kB (d : PyData) : kitB (tyn d) "bool" = some (isB d) := by cases d <;> simp only [tyn, isB] <;> decide +kernel
theorem kI (d : PyData) : kitB (tyn d) "int" = some (isI d) := by cases d <;> simp only [tyn, isI] <;> decide +kernel
theorem kT (d : PyData) : kitB (tyn d) "tuple" = some (isT d) := by cases d <;> simp only [tyn, isT] <;> decide +kernel
def isW (d : PyData) (l m : Int) : Bool := match d with
  | .int n => decide (l ≤ n ∧ n ≤ m)
  | _ => false
def isTup (d : PyData) (l m : Int) : Bool := match d with
  | .tuple ds => decide (l ≤ (ds.length : Int) ∧ (ds.length : Int) ≤ m)
  | _ => false
def isRowD (d : PyData) : Bool := match d with
  | .tuple [a, b] => isW a 0 9 && isW b 1 24
  | _ => false
def bkOk (b : PyData) (n : Int) : Bool := match b with
  | .none => true
  | b => isW b 0 n
def isLayD (d : PyData) : Bool := match d with
  | .tuple [.tuple rs, b] => decide (rs.length ≤ 8) && rs.all isRowD && bkOk b ((rs.length : Int) - 1)
  | _ => false
def isSpotD (x y : PyData) : Bool := isW x (-20) 20 && isW y (-20) 20
def isMoveD (d : PyData) : Bool := match d with
  | .tuple [x, y, n] => isSpotD x y && isW n 0 24
  | _ => false
def isWinD (d : PyData) : Bool := match d with
  | .tuple [x, y, .tuple ms] => isSpotD x y && decide (ms.length ≤ 8) && ms.all isMoveD
  | _ => false
def isShD (d : PyData) : Bool := match d with
  | .tuple [.tuple ls, w] => decide (1 ≤ ls.length ∧ ls.length ≤ 4) && ls.all isLayD && isWinD w
  | _ => false
theorem three_of {α : Type} {xs : List α} (h : xs.length = 3) : ∃ a b c, xs = [a, b, c] := by
  match xs, h with
  | [a, b, c], _ => exact ⟨a, b, c, rfl⟩
theorem mv_no {d : PyData} (h : isTup d 3 3 = false) : isMoveD d = false := by
  unfold isMoveD
  split
  · simp [isTup] at h
  · rfl
theorem win_no {d : PyData} (h : isTup d 3 3 = false) : isWinD d = false := by
  unfold isWinD
  split
  · simp [isTup] at h
  · rfl
theorem win_no2 {x y m : PyData} (h : isTup m 0 8 = false) : isWinD (.tuple [x, y, m]) = false := by
  cases m with
  | tuple ms =>
    have h' : decide ((0 : Int) ≤ (ms.length : Int) ∧ (ms.length : Int) ≤ 8) = false := h
    have : ¬ ms.length ≤ 8 := fun z => by
      rw [decide_eq_true (show (0 : Int) ≤ (ms.length : Int) ∧ (ms.length : Int) ≤ 8 from ⟨by omega, by omega⟩)] at h'
      cases h'
    show (isSpotD x y && decide (ms.length ≤ 8) && ms.all isMoveD) = false
    rw [decide_eq_false this, Bool.and_false]
    rfl
  | _ => rfl
theorem win_eq {x y : PyData} {ms : List PyData} (h : ms.length ≤ 8) : isWinD (.tuple [x, y, .tuple ms]) = (isSpotD x y && ms.all isMoveD) := by
  show (isSpotD x y && decide (ms.length ≤ 8) && ms.all isMoveD) = _
  rw [decide_eq_true h, Bool.and_true]
theorem sh_no {d : PyData} (h : isTup d 2 2 = false) : isShD d = false := by
  unfold isShD
  split
  · simp [isTup] at h
  · rfl
theorem sh_no2 {l w : PyData} (h : isTup l 1 4 = false) : isShD (.tuple [l, w]) = false := by
  cases l with
  | tuple ls =>
    have h' : decide ((1 : Int) ≤ (ls.length : Int) ∧ (ls.length : Int) ≤ 4) = false := h
    have : ¬ (1 ≤ ls.length ∧ ls.length ≤ 4) := fun z => by
      rw [decide_eq_true (show (1 : Int) ≤ (ls.length : Int) ∧ (ls.length : Int) ≤ 4 from ⟨by omega, by omega⟩)] at h'
      cases h'
    show (decide (1 ≤ ls.length ∧ ls.length ≤ 4) && ls.all isLayD && isWinD w) = false
    rw [decide_eq_false this]
    rfl
  | _ => rfl
theorem sh_eq {ls : List PyData} {w : PyData} (h : 1 ≤ ls.length ∧ ls.length ≤ 4) : isShD (.tuple [.tuple ls, w]) = (ls.all isLayD && isWinD w) := by
  show (decide (1 ≤ ls.length ∧ ls.length ≤ 4) && ls.all isLayD && isWinD w) = _
  rw [decide_eq_true h, Bool.true_and]
/-! ### repr of things of whatever kind -/
section
variable {X : Cx} {pins : List (Addr × Obj)} {σ : L2.St} {H : Hp} {s : Shared}
theorem dic_reads (I : Inv X pins σ H s) {a : Addr} {kvs : List (Key × V)} (h : H a = some (.dK kvs)) : a ≠ sysModules ∧ ∃ o es ep vs, s.heap.get? a = some o ∧ o.cls = .type "dict" ∧ o.data = .dict es ep ∧ KV kvs vs ∧ Pairs (mixKind X.prog X.w) es.toList vs := by
  obtain ⟨_, hn, vs, kv, o, es, ep, h1, h2, h3, _, h5, _⟩ := (show ObjOk X.prog X.w H s.heap a (.dK kvs) from I.hok a _ h)
  exact ⟨fun e => by rw [e] at hn; simp at hn, o, es, ep, vs, h1, h2.1, h3, kv, h5⟩
mutual
theorem Dg.reads (I : Inv X pins σ H s) {fx : Hp} : ∀ {b : Bool} {v : V} {d : PyData} {u : Value}, Dg X.K fx H b v d → RelV v u → ∃ as, Reads s.heap u d as ∧ (b = true → d.hasDict = false) ∧ (b = false → sysModules ∉ as)
  | _, _, _, _, .non, r => by
    cases r
    exact ⟨_, Reads.none, fun _ => rfl, fun _ h => nomatch h⟩
  | _, _, _, _, .bl x, r => by
    cases r
    exact ⟨_, Reads.bool x, fun _ => rfl, fun _ h => nomatch h⟩
  | _, _, _, _, .int i, r => by
    obtain ⟨t, rfl⟩ := r
    exact ⟨_, Reads.int i t, fun _ => rfl, fun _ h => nomatch h⟩
  | _, _, _, _, .str x, r => by
    obtain ⟨t, rfl⟩ := r
    exact ⟨_, Reads.str x t, fun _ => rfl, fun _ h => nomatch h⟩
  | _, _, _, _, .tup h q, r => by
    cases r
    obtain ⟨its, rv, ⟨o, ho, hc, n, hd⟩, _⟩ := I.tuple h
    obtain ⟨as, hr, h1, h2⟩ := DgAll.reads I q rv
    exact ⟨_, Reads.tuple ho hc hd hr, h1, h2⟩
  | _, _, _, _, .lst _ h q, r => by
    cases r
    obtain ⟨its, rv, ⟨o, n, ho, hc, _, hd⟩, _⟩ := I.list (.inl (.inl h))
    obtain ⟨as, hr, h1, h2⟩ := DgAll.reads I q rv
    exact ⟨_, Reads.list ho hc hd hr, h1, fun z => nomatch z⟩
  | _, _, _, _, .dic0 (a := a) _ h, r => by
    cases r
    obtain ⟨hn, o, es, ep, vs, h1, h2, h3, kv, pr⟩ := dic_reads I h
    cases kv
    have e0 : es.toList = [] := by
      cases h' : es.toList with
      | nil => rfl
      | cons x r =>
        rw [h'] at pr
        cases pr
    refine ⟨a :: [] ++ [], Reads.dict h1 h2 h3 ?_ ?_, fun z => (Bool.false_ne_true z).elim, fun _ hm => hn ?_⟩
    · rw [e0]
      exact .nil
    · rw [e0]
      exact .nil
    · exact (List.mem_singleton.mp (by simpa using hm)).symm
  | _, _, _, _, .dic1 (a := a) (k := k) (i := i) _ h, r => by
    cases r
    obtain ⟨hn, o, es, ep, vs, h1, h2, h3, kv, pr⟩ := dic_reads I h
    obtain ⟨u, t, rfl, e1, e2⟩ : ∃ (u : Value) (t : Tok), vs = [(Sum.inr k, u)] ∧ u = .int i t ∧ True := by
      cases kv with
      | cons hh tt =>
        cases tt
        rename_i q
        obtain ⟨q1, q2⟩ := q
        obtain ⟨f1, t, f2⟩ := hh
        dsimp only at f1 f2
        subst f1 f2
        exact ⟨_, t, rfl, rfl, trivial⟩
    subst e1
    obtain ⟨e, hee, hk, hv⟩ : ∃ e : DictEntry, es.toList = [e] ∧ keyIs (Sum.inr k) e.key = true ∧ e.val = .int i t := by
      cases h' : es.toList with
      | nil =>
        rw [h'] at pr
        cases pr
      | cons x r =>
        rw [h'] at pr
        cases pr with
        | cons p1 p2 p3 =>
          cases p3
          exact ⟨x, rfl, p1, p2⟩
    obtain ⟨tk, hkk⟩ := keyIs_rel hk
    refine ⟨a :: ([] ++ []) ++ ([] ++ []), Reads.dict h1 h2 h3 ?_ ?_, fun z => (Bool.false_ne_true z).elim, fun _ hm => hn ?_⟩
    · rw [hee]
      show ReadsAll _ [e.key] [.str k] _
      rw [hkk]
      exact .cons (.str k tk) .nil
    · rw [hee]
      show ReadsAll _ [e.val] [.int i] _
      rw [hv]
      exact .cons (.int i t) .nil
    · exact (List.mem_singleton.mp (by simpa using hm)).symm
theorem DgAll.reads (I : Inv X pins σ H s) {fx : Hp} : ∀ {b : Bool} {vs : List V} {ds : List PyData} {us : List Value}, DgAll X.K fx H b vs ds → Vals vs us → ∃ as, ReadsAll s.heap us ds as ∧ (b = true → PyData.hasDictAll ds = false) ∧ (b = false → sysModules ∉ as)
  | _, _, _, _, .nil, r => by
    cases r
    exact ⟨_, ReadsAll.nil, fun _ => rfl, fun _ h => nomatch h⟩
  | _, _, _, _, .cons h q, r => by
    cases r with
    | cons r1 r2 =>
      obtain ⟨as, a1, a2, a3⟩ := Dg.reads I h r1
      obtain ⟨bs, b1, b2, b3⟩ := DgAll.reads I q r2
      refine ⟨_, ReadsAll.cons a1 b1, fun z => ?_, fun z hm => ?_⟩
      · show (_ || _) = false
        rw [a2 z, b2 z]
        rfl
      · rcases List.mem_append.mp hm with m | m
        · exact a3 z m
        · exact b3 z m
end
end
structure RQ (k w : Nat) (d : PyData) : Prop where
  sh : d.showable = true
  dp : d.depth ≤ k
  lv : d.leavesShort 40 = true
  wt : d.weight ≤ w
theorem RQ.fits {k w : Nat} {d : PyData} (h : RQ k w d) (hw : w ≤ 300000) : d.shown.length ≤ sizeLine := by
  have := PyData.shown_le 40 (by decide) d h.lv
  have := h.wt
  have e : sizeLine = 16777216 := by decide
  omega
theorem RQ.more {k w k' w' : Nat} {d : PyData} (h : RQ k w d) (h1 : k ≤ k') (h2 : w ≤ w') : RQ k' w' d := ⟨h.sh, Nat.le_trans h.dp h1, h.lv, Nat.le_trans h.wt h2⟩
theorem RQ.non : RQ 0 100 .none := ⟨rfl, Nat.le_refl _, rfl, Nat.zero_le _⟩
theorem RQ.bl (b : Bool) : RQ 0 100 (.bool b) := ⟨rfl, Nat.le_refl _, rfl, Nat.zero_le _⟩
theorem RQ.int {i : Int} (h : i.natAbs < 10 ^ 30) : RQ 0 100 (.int i) := by
  have hl : i.natAbs.log2 < 100 := by
    rcases Nat.eq_zero_or_pos i.natAbs with e | e
    · rw [e]
      decide
    · exact (Nat.log2_lt (by omega)).mpr (Nat.lt_trans h (by decide))
  refine ⟨decide_eq_true (by omega), Nat.le_refl _, decide_eq_true ?_, ?_⟩
  · show (Str.ofString (toString i)).length ≤ 40
    have := int_text_length_le10 (a := i) (k := 30) (by decide) h
    rw [show (Str.ofString (toString i)).length = (toString i).length from PyProof.Rows.ofString_len _]
    omega
  · show (if i == 0 then 0 else i.natAbs.log2 + 1) ≤ 100
    split <;> omega
theorem rq_all {k w : Nat} : ∀ {ds : List PyData}, (∀ e ∈ ds, RQ k w e) → PyData.showableAll ds = true ∧ PyData.depthAll ds ≤ k ∧ PyData.leavesShortAll 40 ds = true ∧ PyData.weightAll ds ≤ ds.length * (w + 1)
  | [], _ => ⟨rfl, Nat.zero_le _, rfl, Nat.zero_le _⟩
  | d :: t, h => by
    obtain ⟨a, c, e, f⟩ := rq_all (ds := t) fun x hx => h x (List.mem_cons_of_mem _ hx)
    have h1 := h d (List.mem_cons_self ..)
    refine ⟨?_, ?_, ?_, ?_⟩
    · show (d.showable && PyData.showableAll t) = true
      rw [h1.sh, a]
      rfl
    · show max d.depth (PyData.depthAll t) ≤ k
      exact Nat.max_le.mpr ⟨h1.dp, c⟩
    · show (d.leavesShort 40 && PyData.leavesShortAll 40 t) = true
      rw [h1.lv, e]
      rfl
    · show d.weight + 1 + PyData.weightAll t ≤ (t.length + 1) * (w + 1)
      have := h1.wt
      rw [Nat.add_mul, Nat.one_mul]
      omega
theorem RQ.tup {k w n : Nat} {ds : List PyData} (h : ∀ e ∈ ds, RQ k w e) (hn : ds.length * (w + 1) ≤ n) : RQ (k + 1) n (.tuple ds) := by
  obtain ⟨a, c, e, f⟩ := rq_all h
  exact ⟨a, Nat.succ_le_succ c, e, Nat.le_trans f hn⟩
theorem RQ.lst {k w n : Nat} {ds : List PyData} (h : ∀ e ∈ ds, RQ k w e) (hn : ds.length * (w + 1) ≤ n) : RQ (k + 1) n (.list ds) := by
  obtain ⟨a, c, e, f⟩ := rq_all h
  exact ⟨a, Nat.succ_le_succ c, e, Nat.le_trans f hn⟩
def rReprG (K : PySem.W.Frag) : List V → Hp → VK → Prop := fun xs H Q => ∃ (fx : Hp) (b : Bool) (v : V) (d : PyData) (S : Str), xs = [v] ∧ Dg K fx H b v d ∧ d.showable = true ∧ d.depth ≤ 30 ∧ d.shown.length ≤ sizeLine ∧ d.shown = S ∧ Q (.str S) H
theorem call_reprG {X : Cx} (hg : X.A.guards = some []) (hu : X.A.units + 64 < cLine) : CallR X (.builtin "repr") (rReprG X.K) := by
  intro pins s σ H xs us Q I r h
  obtain ⟨fx, b, v, d, S, rfl, hd, hs, hdep, hsz, hS, q⟩ := h
  subst hS
  obtain ⟨u, rfl, rx⟩ := vals1 r
  have big : ∀ a, v = .ref a → wpAny (model X.prog X.w) X.A (call (.builtin "repr") [u]) (EP X pins σ Q) X.xe s := by
    rintro a rfl
    cases (show u = Value.ref a from rx)
    obtain ⟨as, rd, h1, h2⟩ := Dg.reads I hd rfl
    refine repr_of_reads' rd hs (fun z hm => ?_) hg (by omega) (fun _ _ e => e) (fun h' u tk hk => ?_) hsz
    · cases b with
      | true =>
        rw [h1 rfl] at z
        cases z
      | false => exact h2 rfl hm
    · exact ⟨.str d.shown, H, I.kept hk, ⟨_, rfl⟩, q⟩
  cases hd with
  | non =>
    cases (show u = Value.none from rx)
    exact P.repr_of_none ⟨.str _, H, I.tok _, ⟨_, rfl⟩, q⟩
  | bl x =>
    cases (show u = Value.bool x from rx)
    refine P.repr_of_bool ⟨.str _, H, I.tok _, ⟨_, rfl⟩, ?_⟩
    cases x <;> exact q
  | int i =>
    obtain ⟨t, rfl⟩ := (show ∃ t, u = Value.int i t from rx)
    exact P.repr_of_int (of_decide_eq_true hs) ⟨.str _, H, I.tok _, ⟨_, rfl⟩, q⟩
  | str x =>
    obtain ⟨t, rfl⟩ := (show ∃ t, u = Value.str x t from rx)
    exact P.repr_of_str ⟨.str _, H, I.tok _, ⟨_, rfl⟩, q⟩ hsz
  | tup h q' => exact big _ rfl
  | lst n h q' => exact big _ rfl
  | dic0 n h => exact big _ rfl
  | dic1 n h => exact big _ rfl
/-! ### a tuple times nought, times one -/
theorem mul_one_meets (l : Addr) (items : Array Value) (n : Nat) (dd : Option Addr) (sl : Array (Option Value)) (u : Tok) :
    Meets (Builtin.«tuple.__mul__» ⟨[.ref l, .int 1 u], []⟩)
      (fun _ R s => s.heap.get? l = some { cls := .type "tuple", dict := dd, data := .seq items n, slots := sl } ∧ R (.ok (.ret (Value.ref l))) s) :=
  .of_wp fun prog w A R s h => by
    obtain ⟨hp, g, d, tk, os⟩ := s
    obtain ⟨hl, h⟩ := h
    have f1 := AutoSeq1.idx_int
    have c1 : (items.isEmpty || (1 : Int) == 1) = true := by simp
    wp_walk using wpAny_loadPart' hl
    repeat (first
      | (refine wpAny_ite_false (decide_eq_false (by decide)) ?_; wp_walk using wpAny_loadPart' hl)
      | (refine wpAny_ite_true (decide_eq_true c1) ?_; wp_walk using wpAny_loadPart' hl))
    exact ⟨_, rfl, h⟩
theorem mul_none_meets (l : Addr) (items : Array Value) (n : Nat) (dd : Option Addr) (sl : Array (Option Value)) (u : Tok) (hi : items.isEmpty = false) :
    Meets (Builtin.«tuple.__mul__» ⟨[.ref l, .int 0 u], []⟩)
      (fun _ R s => s.heap.get? l = some { cls := .type "tuple", dict := dd, data := .seq items n, slots := sl } ∧
        R (.ok (.ret (Value.ref s.heap.objs.size))) { s with heap := s.heap.push { cls := Value.type "tuple", data := Data.seq #[] }, toks := s.toks }) :=
  .of_wp fun prog w A R s h => by
    obtain ⟨hp, g, d, tk, os⟩ := s
    obtain ⟨hl, h⟩ := h
    have f1 := AutoSeq1.idx_int
    have c1 : ¬ (items.isEmpty || (0 : Int) == 1) = true := by rw [hi]; decide
    have c2 : (decide ((0 : Int) ≤ 0) || items.isEmpty) = true := by simp
    wp_walk using wpAny_loadPart' hl
    repeat (first
      | (refine wpAny_ite_false (decide_eq_false (by decide)) ?_; wp_walk using wpAny_loadPart' hl)
      | (refine wpAny_ite_false (decide_eq_false c1) ?_; wp_walk using wpAny_loadPart' hl)
      | (refine wpAny_ite_true (decide_eq_true c2) ?_; wp_walk using wpAny_loadPart' hl))
    exact ⟨_, rfl, h⟩
def rRepA (K : PySem.W.Frag) : R2 := fun x y H Q => ∃ l k xs, x = .ref l ∧ y = .int k ∧ SqT K H l xs ∧ xs ≠ [] ∧ xs.length ≤ 1000 ∧ 0 ≤ k ∧ k ≤ 1000 ∧ ∀ H' p, Same H H' → SqT K H' p (List.replicate k.toNat xs).flatten → Q (.ref p) H'
theorem op_repA {X : Cx} : OpR X (binaryOp .Mult) (rRepA X.K) := by
  intro pins s σ H x y v u Q I rx ry h
  obtain ⟨l, k, xs, rfl, rfl, hT, hne, hz, h0, h1, q⟩ := h
  by_cases h2 : 2 ≤ k
  · exact op_repT pins s σ H _ _ v u Q I rx ry ⟨l, k, xs, rfl, rfl, hT, hne, h2, h1, hz, fun p np => q _ p (same_upd np) (.inl (.inl upd_same))⟩
  · cases rx
    obtain ⟨t, rfl⟩ := ry
    obtain ⟨its, r, ⟨⟨cls, dd, data, sl⟩, ho, hc, n, hd⟩, hs⟩ := I.tuple hT
    simp only at hc hd
    subst hc hd
    rcases (by omega : k = 0 ∨ k = 1) with rfl | rfl
    · have hi : its.toArray.isEmpty = false := by
        cases its with
        | nil =>
          cases r
          exact absurd rfl hne
        | cons a b => rfl
      refine wpAny_binaryOp_repeat_ref (T := "tuple") (U := "int") (by decide) ⟨_, ho, rfl⟩ (fun s' => typeIs_int s' 0 t) noFill_tuple_mul
        F.fills_int_mul F.slot_int_rmul repeat_tuple F.slot_int_index.lookup (call_meets F.slot_int_rmul (typeIs_int s 0 t) F.entry_int_rmul (F.args_int_rmul_2 _ _)
          (int_rmul_tuple 0 t l its.toArray n dd sl) ⟨ho, rfl, ⟨_, ho, rfl⟩, call_meets F.slot_tuple_mul ⟨_, ho, rfl⟩ F.entry_tuple_mul (F.args_tuple_mul_2 _ _) (mul_none_meets l its.toArray n dd sl t hi) ⟨ho, ?_⟩⟩)
      have np := I.hok.fresh (Nat.le_refl s.heap.objs.size)
      refine ⟨.ref s.heap.objs.size, _, I.laid (t' := s.toks) (o := .tup []) (fun b ob e => Heap.get?_push_of_some _ e) (Nat.le_refl _) ?_, rfl, q _ _ (same_upd np) (.inl (.inl upd_same))⟩
      exact ⟨Nat.zero_le _, [], .nil, IsTup.new _ _⟩
    · refine wpAny_binaryOp_repeat_ref (T := "tuple") (U := "int") (by decide) ⟨_, ho, rfl⟩ (fun s' => typeIs_int s' 1 t) noFill_tuple_mul
        F.fills_int_mul F.slot_int_rmul repeat_tuple F.slot_int_index.lookup (call_meets F.slot_int_rmul (typeIs_int s 1 t) F.entry_int_rmul (F.args_int_rmul_2 _ _)
          (int_rmul_tuple 1 t l its.toArray n dd sl) ⟨ho, rfl, ⟨_, ho, rfl⟩, call_meets F.slot_tuple_mul ⟨_, ho, rfl⟩ F.entry_tuple_mul (F.args_tuple_mul_2 _ _) (mul_one_meets l its.toArray n dd sl t) ⟨ho, ?_⟩⟩)
      refine ⟨.ref l, H, I, rfl, q _ _ (Same.refl _) ?_⟩
      show SqT X.K H l (List.replicate 1 xs).flatten
      rw [show (List.replicate 1 xs).flatten = xs by simp]
      exact hT
theorem mkT {K : PySem.W.Frag} {fx : Hp} {p : Addr} {H : Hp} {b : Bool} {vs : List V} {ds : List PyData} (np : H p = none) (h : DgAll K fx H b vs ds) : Dg K fx (upd H p (.tup vs)) b (.ref p) (.tuple ds) := .tup (.inl (.inl upd_same)) (h.sm (same_upd np))
theorem mkL {K : PySem.W.Frag} {fx : Hp} {p : Addr} {H : Hp} {vs : List V} {ds : List PyData} (hf : fx p = none) (np : H p = none) (h : DgAll K fx H true vs ds) : Dg K fx (upd H p (.lst vs)) true (.ref p) (.list ds) := .lst hf upd_same (h.sm (same_upd np))
theorem RowAt.dg {K : PySem.W.Frag} {fx : Hp} {H : Hp} {b : Bool} {v : V} {r : RW} : RowAt K H v r → Dg K fx H b v (rwD r) := by
  rintro ⟨p, rfl, h⟩
  exact .tup h (.cons (.int _) (.cons (.int _) .nil))
theorem rows_dg {K : PySem.W.Frag} {fx : Hp} {H : Hp} {b : Bool} : ∀ {vs : List V} {rs : List RW}, Paired (RowAt K H) vs rs → DgAll K fx H b vs (rs.map rwD)
  | _, _, .nil => .nil
  | _, _, .cons r t => .cons r.dg (rows_dg t)
theorem bk_dg {K : PySem.W.Frag} {fx : Hp} {H : Hp} {b : Bool} (o : Option Int) : Dg K fx H b (bkV o) (bkD o) := by
  cases o with
  | none => exact .non
  | some i => exact .int i
theorem rq_row {r : RW} (h : VRow r) : RQ 2 1000 (rwD r) := by
  obtain ⟨h1, h2, h3, h4⟩ := h
  refine (RQ.tup (k := 0) (w := 100) (n := 202) (fun e he => ?_) (by show 2 * 101 ≤ 202; decide)).more (by decide) (by decide)
  have : e = .int r.1 ∨ e = .int r.2 := by simpa using he
  rcases this with rfl | rfl <;> exact RQ.int (Nat.lt_of_le_of_lt (show _ ≤ 100 by omega) (by decide))
theorem rq_bk {rs : List RW} {bk : Option Int} (v8 : rs.length ≤ 8) (h : VBack rs bk) : RQ 0 100 (bkD bk) := by
  cases bk with
  | none => exact RQ.non
  | some i =>
    have := h i rfl
    exact RQ.int (Nat.lt_of_le_of_lt (show _ ≤ 100 by omega) (by decide))
theorem rq_small {i : Int} (h : -1000 ≤ i ∧ i ≤ 1000) : RQ 0 100 (.int i) := RQ.int (Nat.lt_of_le_of_lt (show _ ≤ 1000 by omega) (by decide))
/-- what is told of rows and a back -/
theorem rq_top {ds : List PyData} {e : PyData} (h : ∀ x ∈ ds, RQ 2 1000 x) (hl : ds.length ≤ 10) (he : RQ 0 100 e) : RQ 5 40000 (.tuple [.tuple ds, e]) := by
  refine (RQ.tup (k := 3) (w := 10010) (n := 40000) (fun x hx => ?_) (by show 2 * 10011 ≤ 40000; decide)).more (by decide) (by decide)
  have : x = .tuple ds ∨ x = e := by simpa using hx
  rcases this with rfl | rfl
  · exact RQ.tup (k := 2) (w := 1000) h (by omega)
  · exact he.more (by decide) (by decide)
theorem MoveAt.dg {K : PySem.W.Frag} {fx : Hp} {H : Hp} {b : Bool} {v : V} {m : MV} : MoveAt K H v m → Dg K fx H b v (mvD m) := by
  rintro ⟨p, rfl, h⟩
  exact .tup h (.cons (.int _) (.cons (.int _) (.cons (.int _) .nil)))
theorem moves_dg {K : PySem.W.Frag} {fx : Hp} {H : Hp} {b : Bool} : ∀ {vs : List V} {ms : List MV}, Paired (MoveAt K H) vs ms → DgAll K fx H b vs (ms.map mvD)
  | _, _, .nil => .nil
  | _, _, .cons r t => .cons r.dg (moves_dg t)
theorem WinAt.dg {K : PySem.W.Frag} {fx : Hp} {H : Hp} {b : Bool} {v : V} {x y : Int} {ms : List MV} : WinAt K H v x y ms → Dg K fx H b v (winD x y ms) := by
  rintro ⟨p, mv, rfl, h, pm, vs, rfl, hq, pd⟩
  exact .tup h (.cons (.int _) (.cons (.int _) (.cons (.tup hq (moves_dg pd)) .nil)))
theorem LyAt.dg {K : PySem.W.Frag} {fx : Hp} {H : Hp} {b : Bool} {v : V} {l : LY} : LyAt K H v l → Dg K fx H b v (lyD l) := by
  rintro ⟨p, rv, rfl, h, pr, vs, rfl, hq, pd⟩
  exact .tup h (.cons (.tup hq (rows_dg pd)) (.cons (bk_dg _) .nil))
theorem lays_dg {K : PySem.W.Frag} {fx : Hp} {H : Hp} {b : Bool} : ∀ {vs : List V} {ls : List LY}, Paired (LyAt K H) vs ls → DgAll K fx H b vs (ls.map lyD)
  | _, _, .nil => .nil
  | _, _, .cons r t => .cons r.dg (lays_dg t)
theorem rq_mv {m : MV} (h : VMove m) : RQ 2 1000 (mvD m) := by
  obtain ⟨h1, h2, h3, h4⟩ := h
  refine (RQ.tup (k := 0) (w := 100) (n := 303) (fun e he => ?_) (by show 3 * 101 ≤ 303; decide)).more (by decide) (by decide)
  have : e = .int m.1 ∨ e = .int m.2.1 ∨ e = .int m.2.2 := by simpa using he
  rcases this with rfl | rfl | rfl <;> exact rq_small ⟨by omega, by omega⟩
theorem rq_ly {l : LY} (h : VLy l) : RQ 4 19000 (lyD l) := by
  obtain ⟨⟨h8, hr⟩, hb⟩ := h
  refine (RQ.tup (k := 3) (w := 9000) (n := 19000) (fun x hx => ?_) (by show 2 * 9001 ≤ 19000; decide)).more (by decide) (by decide)
  have : x = .tuple (l.1.map rwD) ∨ x = bkD l.2 := by simpa using hx
  rcases this with rfl | rfl
  · refine (RQ.tup (k := 2) (w := 1000) (n := 9000) (fun x hx => ?_) ?_)
    · obtain ⟨r, hm, rfl⟩ := List.mem_map.mp hx
      exact rq_row (hr r hm)
    · rw [List.length_map]
      omega
  · exact (rq_bk h8 hb).more (by decide) (by decide)
/-- three of a window, the last the moves -/
theorem rq_win {ds : List PyData} {e f : PyData} (h : ∀ x ∈ ds, RQ 2 1000 x) (hl : ds.length ≤ 10) (he : RQ 2 1000 e) (hf : RQ 2 1000 f) : RQ 5 40000 (.tuple [e, f, .tuple ds]) := by
  refine (RQ.tup (k := 3) (w := 10010) (n := 40000) (fun x hx => ?_) (by show 3 * 10011 ≤ 40000; decide)).more (by decide) (by decide)
  have : x = e ∨ x = f ∨ x = .tuple ds := by simpa using hx
  rcases this with rfl | rfl | rfl
  · exact he.more (by decide) (by decide)
  · exact hf.more (by decide) (by decide)
  · exact RQ.tup (k := 2) (w := 1000) h (by omega)
theorem lay_true {l : LY} (h : VLy l) : isLayD (lyD l) = true := by
  obtain ⟨⟨h8, hr⟩, hb⟩ := h
  show (decide ((l.1.map rwD).length ≤ 8) && (l.1.map rwD).all isRowD && bkOk (bkD l.2) (((l.1.map rwD).length : Int) - 1)) = true
  rw [List.length_map, decide_eq_true h8, Bool.true_and, Bool.and_eq_true]
  constructor
  · rw [List.all_eq_true]
    intro x hx
    obtain ⟨r, hm, rfl⟩ := List.mem_map.mp hx
    obtain ⟨h1, h2, h3, h4⟩ := hr r hm
    show (decide (0 ≤ r.1 ∧ r.1 ≤ 9) && decide (1 ≤ r.2 ∧ r.2 ≤ 24)) = true
    rw [decide_eq_true ⟨h1, h2⟩, decide_eq_true ⟨h3, h4⟩]
    rfl
  · cases e : l.2 with
    | none => rfl
    | some i =>
      have := hb i e
      show decide (0 ≤ i ∧ i ≤ (l.1.length : Int) - 1) = true
      exact decide_eq_true ⟨by omega, by omega⟩
theorem win_true {x y : Int} {ms : List MV} (h : VWin x y ms) : isWinD (winD x y ms) = true := by
  obtain ⟨hx, hy, h8, hm⟩ := h
  show (isSpotD (.int x) (.int y) && decide ((ms.map mvD).length ≤ 8) && (ms.map mvD).all isMoveD) = true
  rw [List.length_map, decide_eq_true h8]
  have e1 : isSpotD (.int x) (.int y) = true := by
    show (decide (-20 ≤ x ∧ x ≤ 20) && decide (-20 ≤ y ∧ y ≤ 20)) = true
    rw [decide_eq_true hx, decide_eq_true hy]
    rfl
  rw [e1, Bool.true_and, Bool.true_and, List.all_eq_true]
  intro d hd
  obtain ⟨m, hmm, rfl⟩ := List.mem_map.mp hd
  obtain ⟨h1, h2, h3, h4⟩ := hm m hmm
  show ((decide (-20 ≤ m.1 ∧ m.1 ≤ 20) && decide (-20 ≤ m.2.1 ∧ m.2.1 ≤ 20)) && decide (0 ≤ m.2.2 ∧ m.2.2 ≤ 24)) = true
  rw [decide_eq_true h1, decide_eq_true h2, decide_eq_true ⟨h3, h4⟩]
  rfl
theorem lays_true {ls : List LY} (h : ∀ l ∈ ls, VLy l) : (ls.map lyD).all isLayD = true := by
  rw [List.all_eq_true]
  intro d hd
  obtain ⟨l, hl, rfl⟩ := List.mem_map.mp hd
  exact lay_true (h l hl)

/-! ### what stands but the state and the tables, in the laws of the first stages -/
def Gv (TS : List (Addr × Str)) (st : Addr) (H H' : Hp) : Prop := (∀ b o, b ≠ st → (∀ ps, o ≠ .tbl ps) → H b = some o → H' b = some o) ∧ (IsSt H st → IsSt H' st) ∧ (LamX.Tabs TS H → LamX.Tabs TS H')
theorem Gv.refl {TS : List (Addr × Str)} {st : Addr} {H : Hp} : Gv TS st H H := ⟨fun _ _ _ _ h => h, id, id⟩
theorem Gv.trans {TS : List (Addr × Str)} {st : Addr} {H H1 H2 : Hp} (a : Gv TS st H H1) (b : Gv TS st H1 H2) : Gv TS st H H2 := ⟨fun c o n z h => b.1 c o n z (a.1 c o n z h), fun h => b.2.1 (a.2.1 h), fun h => b.2.2 (a.2.2 h)⟩
theorem Gr.v {TS : List (Addr × Str)} {st : Addr} {H H' : Hp} (g : Gr st H H') (hs : IsSt H st) : Gv TS st H H' := by
  obtain ⟨x, y, e, _⟩ := id hs
  refine ⟨fun b o n _ h => g.1 b o n h, g.2, fun t p hp => ?_⟩
  obtain ⟨ps, h1, h2, h3⟩ := t p hp
  refine ⟨ps, g.1 _ _ (ne_of h1 e (by intro z; cases z)) h1, h2, fun pos cv hc => ?_⟩
  obtain ⟨c0, e1, e2⟩ := h3 pos cv hc
  exact ⟨c0, e1, g.1 _ _ (ne_of e2 e (by intro z; unfold LamX.CodeO at z; cases z)) e2⟩
theorem gv_same {TS : List (Addr × Str)} {st : Addr} {H H' : Hp} (s : Same H H') : Gv TS st H H' := ⟨fun b o _ _ h => s b o h, fun ⟨a, b, h, r⟩ => ⟨a, b, s _ _ h, r⟩, fun h => h.ext s⟩
theorem gv_ext {TS : List (Addr × Str)} {st : Addr} {H H' : Hp} (e : LamX.ExtN H H') (t : LamX.Tabs TS H') : Gv TS st H H' := ⟨fun b o _ z h => e b o h z, fun ⟨a, b, h, r⟩ => ⟨a, b, e _ _ h lst_tbl, r⟩, fun _ => t⟩
theorem Gv.tk {TS : List (Addr × Str)} {st : Addr} {K : PySem.W.Frag} {H H' : Hp} (g : Gv TS st H H') (s : IsSt H st) : TKeep K H H' := fun a xs h => by
  obtain ⟨u, v, hs, _⟩ := s
  rcases h with (h | ⟨o, h⟩) | h
  · exact .inl (.inl (g.1 _ _ (ne_of h hs (by intro z; cases z)) tup_tbl h))
  · exact .inl (.inr ⟨o, g.1 _ _ (ne_of h hs (by intro z; cases z)) (fun ps z => by cases z) h⟩)
  · exact .inr h
theorem Gv.sqT {TS : List (Addr × Str)} {st : Addr} {K : PySem.W.Frag} {H H' : Hp} {a : Addr} {xs : List V} (g : Gv TS st H H') (s : IsSt H st) (h : SqT K H a xs) : SqT K H' a xs := g.tk s _ _ h
theorem Gv.go {TS : List (Addr × Str)} {st : Addr} {H0 H H1 H2 : Hp} (g : Gv TS st H1 H2) (o : Go TS H0 H) (s : Same H H1) (n : H st = none) : Go TS H0 H2 :=
  ⟨fun b u h z => g.1 b u (ne_of_none (o.e b u h z) n) z (s _ _ (o.e b u h z)), g.2.2 (o.t.ext s)⟩
theorem Gv.lst {TS : List (Addr × Str)} {st D : Addr} {H H' : Hp} {xs : List V} (g : Gv TS st H H') (n : D ≠ st) (h : H D = some (.lst xs)) : H' D = some (.lst xs) := g.1 _ _ n lst_tbl h

/-! ### the text -/
def topS (i : Nat) : Stmt := PySem.Challenge.pw_lanternrows_k08_drawings_folded.main.body.getD i (.Pass ⟨0, 0, 0, 0⟩)
abbrev s_is_whole_from : Stmt := topS 19
theorem sc_is_whole_from : FnScope ["thing", "least"] ["thing", "least"] (defScope s_is_whole_from) := ⟨rfl, rfl, rfl, by decide +kernel, rfl, by decide +kernel, by decide +kernel⟩
abbrev s_is_whole : Stmt := topS 20
theorem sc_is_whole : FnScope ["thing", "least", "most"] ["thing", "least", "most"] (defScope s_is_whole) := ⟨rfl, rfl, rfl, by decide +kernel, rfl, by decide +kernel, by decide +kernel⟩
abbrev s_need_number : Stmt := topS 21
theorem sc_need_number : FnScope ["thing", "least", "most"] ["thing", "least", "most"] (defScope s_need_number) := ⟨rfl, rfl, rfl, by decide +kernel, rfl, by decide +kernel, by decide +kernel⟩
abbrev s_need_at_most : Stmt := topS 22
theorem sc_need_at_most : FnScope ["many", "most"] ["many", "most"] (defScope s_need_at_most) := ⟨rfl, rfl, rfl, by decide +kernel, rfl, by decide +kernel, by decide +kernel⟩
abbrev s_is_tuple : Stmt := topS 27
theorem sc_is_tuple : FnScope ["thing", "least", "most"] ["thing", "least", "most"] (defScope s_is_tuple) := ⟨rfl, rfl, rfl, by decide +kernel, rfl, by decide +kernel, by decide +kernel⟩
abbrev s_is_drawing : Stmt := topS 28
theorem sc_is_drawing : FnScope ["thing"] ["thing"] (defScope s_is_drawing) := ⟨rfl, rfl, rfl, by decide +kernel, rfl, by decide +kernel, by decide +kernel⟩
abbrev s_is_hold : Stmt := topS 29
theorem sc_is_hold : FnScope ["thing"] ["thing"] (defScope s_is_hold) := ⟨rfl, rfl, rfl, by decide +kernel, rfl, by decide +kernel, by decide +kernel⟩
abbrev s_is_row : Stmt := topS 30
theorem sc_is_row : FnScope ["thing", "drawing", "hold"] ["thing"] (defScope s_is_row) := ⟨rfl, rfl, rfl, by decide +kernel, rfl, by decide +kernel, by decide +kernel⟩
abbrev s_is_layer : Stmt := topS 31
theorem sc_is_layer : FnScope ["thing", "rows", "back", "row"] ["thing"] (defScope s_is_layer) := ⟨rfl, rfl, rfl, by decide +kernel, rfl, by decide +kernel, by decide +kernel⟩
abbrev s_need_layer : Stmt := topS 32
theorem sc_need_layer : FnScope ["thing"] ["thing"] (defScope s_need_layer) := ⟨rfl, rfl, rfl, by decide +kernel, rfl, by decide +kernel, by decide +kernel⟩
abbrev s_drawings_of : Stmt := topS 35
theorem sc_drawings_of : FnScope ["rows", "drawing", "hold", "turn"] ["rows"] (defScope s_drawings_of) := ⟨rfl, rfl, rfl, by decide +kernel, rfl, by decide +kernel, by decide +kernel⟩
abbrev s_ahead_and_around : Stmt := topS 36
theorem sc_ahead_and_around : FnScope ["layer", "rows", "back"] ["layer"] (defScope s_ahead_and_around) := ⟨rfl, rfl, rfl, by decide +kernel, rfl, by decide +kernel, by decide +kernel⟩
abbrev s_first_drawings : Stmt := topS 37
theorem sc_first_drawings : FnScope ["layer", "many", "ahead", "around", "times"] ["layer", "many"] (defScope s_first_drawings) := ⟨rfl, rfl, rfl, by decide +kernel, rfl, by decide +kernel, by decide +kernel⟩
abbrev s_laid : Stmt := topS 38
theorem sc_laid : FnScope ["layer", "many"] ["layer", "many"] (defScope s_laid) := ⟨rfl, rfl, rfl, by decide +kernel, rfl, by decide +kernel, by decide +kernel⟩
abbrev s_are_drawings : Stmt := topS 39
theorem sc_are_drawings : FnScope ["thing", "drawing"] ["thing"] (defScope s_are_drawings) := ⟨rfl, rfl, rfl, by decide +kernel, rfl, by decide +kernel, by decide +kernel⟩
abbrev s_runs_of : Stmt := topS 40
theorem sc_runs_of : FnScope ["drawings", "runs", "drawing"] ["drawings"] (defScope s_runs_of) := ⟨rfl, rfl, rfl, by decide +kernel, rfl, by decide +kernel, by decide +kernel⟩
abbrev s_rows_of_run : Stmt := topS 41
theorem sc_rows_of_run : FnScope ["drawing", "many", "full", "rest"] ["drawing", "many"] (defScope s_rows_of_run) := ⟨rfl, rfl, rfl, by decide +kernel, rfl, by decide +kernel, by decide +kernel⟩
abbrev s_folded : Stmt := topS 42
theorem sc_folded : FnScope ["drawings", "rows", "drawing", "many", "row"] ["drawings"] (defScope s_folded) := ⟨rfl, rfl, rfl, by decide +kernel, rfl, by decide +kernel, by decide +kernel⟩
abbrev s__law_cell_at : Stmt := topS 44
theorem sc__law_cell_at : FnScope ["_law_script", "_law_k"] ["_law_script", "_law_k"] (defScope s__law_cell_at) := ⟨rfl, rfl, rfl, by decide +kernel, rfl, by decide +kernel, by decide +kernel⟩
abbrev s__law_state : Stmt := topS 45
theorem sc__law_state : FnScope ["_law_script", "_law_k", "_law_cell"] ["_law_script", "_law_k"] (defScope s__law_state) := ⟨rfl, rfl, rfl, by decide +kernel, rfl, by decide +kernel, by decide +kernel⟩
abbrev s__law_take : Stmt := topS 46
theorem sc__law_take : FnScope ["_law_state_here", "_law_many_here", "_law_found", "_law_stirred"] ["_law_state_here", "_law_many_here"] (defScope s__law_take) := ⟨rfl, rfl, rfl, by decide +kernel, rfl, by decide +kernel, by decide +kernel⟩
abbrev s__law_marks : Stmt := topS 47
theorem sc__law_marks : FnScope ["_law_error", "_law_marks_here"] ["_law_error"] (defScope s__law_marks) := ⟨rfl, rfl, rfl, by decide +kernel, rfl, by decide +kernel, by decide +kernel⟩
abbrev s__law_refused : Stmt := topS 48
theorem sc__law_refused : FnScope ["_law_call", "_law_error", "e", "_law_marks_here", "_law_names"] ["_law_call"] (defScope s__law_refused) := ⟨rfl, rfl, rfl, by decide +kernel, rfl, by decide +kernel, by decide +kernel⟩
abbrev s__law_same : Stmt := topS 49
theorem sc__law_same : FnScope ["_law_found", "_law_due", "_law_one", "_law_other"] ["_law_found", "_law_due"] (defScope s__law_same) := ⟨rfl, rfl, rfl, by decide +kernel, rfl, by decide +kernel, by decide +kernel⟩
abbrev s__law_odd : Stmt := topS 50
theorem sc__law_odd : FnScope ["_law_state_here", "_law_some"] ["_law_state_here"] (defScope s__law_odd) := ⟨rfl, rfl, rfl, by decide +kernel, rfl, by decide +kernel, by decide +kernel⟩
abbrev s__law_runs : Stmt := topS 51
theorem sc__law_runs : FnScope ["_law_state_here", "_law_found", "_law_left", "_law_turn", "_law_drawing", "_law_size"] ["_law_state_here"] (defScope s__law_runs) := ⟨rfl, rfl, rfl, by decide +kernel, rfl, by decide +kernel, by decide +kernel⟩
abbrev s__law_split : Stmt := topS 52
theorem sc__law_split : FnScope ["_law_size", "_law_found"] ["_law_size"] (defScope s__law_split) := ⟨rfl, rfl, rfl, by decide +kernel, rfl, by decide +kernel, by decide +kernel⟩
abbrev s__law_many : Stmt := topS 53
theorem sc__law_many : FnScope ["_law_call", "e"] ["_law_call"] (defScope s__law_many) := ⟨rfl, rfl, rfl, by decide +kernel, rfl, by decide +kernel, by decide +kernel⟩
abbrev s_law : Stmt := topS 54
theorem sc_law : FnScope ["_law_script", "_law_k", "_law_state_here", "_law_drawings", "_law_rows", "_law_drawing", "_law_size", "_law_kept", "_law_told", "_law_at", "_law_odd_here", "_law_bad", "_law_thing", "_law_hold"] ["_law_script"] (defScope s_law) := ⟨rfl, rfl, rfl, by decide +kernel, rfl, by decide +kernel, by decide +kernel⟩
abbrev s_TooMany_init : Stmt := clsB (topS 16) 0
theorem sc_TooMany_init : FnScope ["self", "many", "most"] ["self", "many", "most"] (defScope s_TooMany_init) := ⟨rfl, rfl, rfl, by decide +kernel, rfl, by decide +kernel, by decide +kernel⟩
abbrev s_Leaned_init : Stmt := clsB (topS 17) 0
theorem sc_Leaned_init : FnScope ["self", "numbers"] ["self", "numbers"] (defScope s_Leaned_init) := ⟨rfl, rfl, rfl, by decide +kernel, rfl, by decide +kernel, by decide +kernel⟩
structure Txt (K : PySem.W.Frag) (mg : Str → Option Value) : Prop where
  b_ValueError : mg "ValueError" = none
  b_len : mg "len" = none
  b_isinstance : mg "isinstance" = none
  b_max : mg "max" = none
  b_min : mg "min" = none
  b_all : mg "all" = none
  b_tuple : mg "tuple" = none
  b_list : mg "list" = none
  b_range : mg "range" = none
  b_zip : mg "zip" = none
  b_bool : mg "bool" = none
  b_int : mg "int" = none
  b_repr : mg "repr" = none
  b_divmod : mg "divmod" = none
  c_MOST_DRAWING : ∃ t, mg "MOST_DRAWING" = some (Value.int 9 t)
  c_MOST_HOLD : ∃ t, mg "MOST_HOLD" = some (Value.int 24 t)
  c_MOST_ROWS : ∃ t, mg "MOST_ROWS" = some (Value.int 8 t)
  c_MOST_PICTURES : ∃ t, mg "MOST_PICTURES" = some (Value.int 200 t)

/-! ### the marks of a refusal, its name -/
def ordM : List Nat := [0, 1, 2, 3, 4, 5, 6, 7, 8, 9, 14, 10, 11, 15, 12, 13]
def bitsM (i : Nat) : List Bool := ordM.map fun j => decide (i = j)
def nmsM : List Str := ["layer", "window", "sheet", "moment", "row", "number", "drawings", "unlike", "endless", "squeezed", "many", "paper", "deed", "leaned", "text", "words"]
def posM (i : Nat) : Nat := [0, 1, 2, 3, 4, 5, 6, 7, 8, 9, 11, 12, 14, 15, 10, 13].getD i 0
def rfN (i : Nat) : Str := nmsM.getD (posM i) ""
theorem bitsM_facts : ∀ i, i < 16 → (bitsM i).count true = 1 ∧ (bitsM i)[posM i]? = some true ∧ (∀ m, m < posM i → (bitsM i)[m]? = some false) ∧ posM i < 16 := by decide
theorem nmsM_at (i : Nat) (h : i < 16) : atI (nmsM.map V.str) (posM i : Nat) = some (.str (rfN i)) := by
  have hp := (bitsM_facts i h).2.2.2
  refine atI_nat ?_
  have hl : posM i < nmsM.length := hp
  rw [List.getElem?_map, List.getElem?_eq_getElem hl]
  unfold rfN
  rw [List.getD_eq_getElem?_getD, List.getElem?_eq_getElem hl]
  rfl
def spMrk (c : Nat → Addr) : Addr → Value → Option Addr → Sp := fun a cls d vs H Q _ => ∃ i, i < 16 ∧ vs = [.ref a] ∧ cls = .ref (c i) ∧ HasXd d H ∧ ∀ H' p, Same H H' → H p = none → H' p = some (.lst ((bitsM i).map V.bl)) → Q (.ref p) H'
section
variable {P : Program} {w : World} {K : PySem.W.Frag} {mg : Str → Option Value} {base : Heap}
theorem ok__law_marks {f : Addr} {fd : FuncData} {c : Nat → Addr} {LE : Addr} (F : Fun K "_law_marks" "_law_marks" s__law_marks f fd) (T : Txt K mg) (TX : ExcN K mg c LE) : FnE P w K mg base 1 f fd ["_law_error"] (spMrk c) := by
  refine fun_okE F sc__law_marks (fun a cls d vs H Q E h => ?_) (fun cdv A outer s H vs Q E a oe cls d hz hfs hr h => ?_)
  · obtain ⟨i, _, rfl, _⟩ := h
    rfl
  · obtain ⟨i, hi, rfl, rfl, hx, q⟩ := h
    refine ⟨_, (pss_cons (ps_set (i := 1) sc__law_marks.nd rfl (Or.inl rfl) (pe_lst (pa_cons (pe_callB (call_isQ TX.toExcT List.mem_cons_self hz hfs) (by rfl) T.b_isinstance (by decide +kernel) (pa_cons (pv 0) (pa_cons (pe_gref (by rfl) (TX.g 0 "NoLayer" rfl)) pa_nil))) (pa_cons (pe_callB (call_isQ TX.toExcT List.mem_cons_self hz hfs) (by rfl) T.b_isinstance (by decide +kernel) (pa_cons (pv 0) (pa_cons (pe_gref (by rfl) (TX.g 1 "NoWindow" rfl)) pa_nil))) (pa_cons (pe_callB (call_isQ TX.toExcT List.mem_cons_self hz hfs) (by rfl) T.b_isinstance (by decide +kernel) (pa_cons (pv 0) (pa_cons (pe_gref (by rfl) (TX.g 2 "NoSheet" rfl)) pa_nil))) pa_nil)))))
      (pss_cons (ps_set (i := 1) sc__law_marks.nd rfl (Or.inl rfl) (pe_op op_cat (pv 1) (pe_lst (pa_cons (pe_callB (call_isQ TX.toExcT List.mem_cons_self hz hfs) (by rfl) T.b_isinstance (by decide +kernel) (pa_cons (pv 0) (pa_cons (pe_gref (by rfl) (TX.g 3 "NoMoment" rfl)) pa_nil))) (pa_cons (pe_callB (call_isQ TX.toExcT List.mem_cons_self hz hfs) (by rfl) T.b_isinstance (by decide +kernel) (pa_cons (pv 0) (pa_cons (pe_gref (by rfl) (TX.g 4 "NoRow" rfl)) pa_nil))) (pa_cons (pe_callB (call_isQ TX.toExcT List.mem_cons_self hz hfs) (by rfl) T.b_isinstance (by decide +kernel) (pa_cons (pv 0) (pa_cons (pe_gref (by rfl) (TX.g 5 "NoNumber" rfl)) pa_nil))) pa_nil))))))
      (pss_cons (ps_set (i := 1) sc__law_marks.nd rfl (Or.inl rfl) (pe_op op_cat (pv 1) (pe_lst (pa_cons (pe_callB (call_isQ TX.toExcT List.mem_cons_self hz hfs) (by rfl) T.b_isinstance (by decide +kernel) (pa_cons (pv 0) (pa_cons (pe_gref (by rfl) (TX.g 6 "NoDrawings" rfl)) pa_nil))) (pa_cons (pe_callB (call_isQ TX.toExcT List.mem_cons_self hz hfs) (by rfl) T.b_isinstance (by decide +kernel) (pa_cons (pv 0) (pa_cons (pe_gref (by rfl) (TX.g 7 "Unlike" rfl)) pa_nil))) (pa_cons (pe_callB (call_isQ TX.toExcT List.mem_cons_self hz hfs) (by rfl) T.b_isinstance (by decide +kernel) (pa_cons (pv 0) (pa_cons (pe_gref (by rfl) (TX.g 8 "Endless" rfl)) pa_nil))) pa_nil))))))
      (pss_cons (ps_set (i := 1) sc__law_marks.nd rfl (Or.inl rfl) (pe_op op_cat (pv 1) (pe_lst (pa_cons (pe_callB (call_isQ TX.toExcT List.mem_cons_self hz hfs) (by rfl) T.b_isinstance (by decide +kernel) (pa_cons (pv 0) (pa_cons (pe_gref (by rfl) (TX.g 9 "Squeezed" rfl)) pa_nil))) (pa_cons (pe_callB (call_isQ TX.toExcT List.mem_cons_self hz hfs) (by rfl) T.b_isinstance (by decide +kernel) (pa_cons (pv 0) (pa_cons (pe_gref (by rfl) (TX.g 14 "TooMany" rfl)) pa_nil))) (pa_cons (pe_callB (call_isQ TX.toExcT List.mem_cons_self hz hfs) (by rfl) T.b_isinstance (by decide +kernel) (pa_cons (pv 0) (pa_cons (pe_gref (by rfl) (TX.g 10 "NoPaper" rfl)) pa_nil))) pa_nil))))))
      (pss_cons (ps_set (i := 1) sc__law_marks.nd rfl (Or.inl rfl) (pe_op op_cat (pv 1) (pe_lst (pa_cons (pe_callB (call_isQ TX.toExcT List.mem_cons_self hz hfs) (by rfl) T.b_isinstance (by decide +kernel) (pa_cons (pv 0) (pa_cons (pe_gref (by rfl) (TX.g 11 "NoDeed" rfl)) pa_nil))) (pa_cons (pe_callB (call_isQ TX.toExcT List.mem_cons_self hz hfs) (by rfl) T.b_isinstance (by decide +kernel) (pa_cons (pv 0) (pa_cons (pe_gref (by rfl) (TX.g 15 "Leaned" rfl)) pa_nil))) (pa_cons (pe_callB (call_isQ TX.toExcT List.mem_cons_self hz hfs) (by rfl) T.b_isinstance (by decide +kernel) (pa_cons (pv 0) (pa_cons (pe_gref (by rfl) (TX.g 12 "NoText" rfl)) pa_nil))) pa_nil))))))
      (pss_one (ps_ret (pe_op op_cat (pv 1) (pe_lst (pa_cons (pe_callB (call_isQ TX.toExcT List.mem_cons_self hz hfs) (by rfl) T.b_isinstance (by decide +kernel) (pa_cons (pv 0) (pa_cons (pe_gref (by rfl) (TX.g 13 "NoWords" rfl)) pa_nil))) pa_nil)))))))))), ?_⟩
    have k := TX.ko i hi
    refine ⟨_, rfl, i, hi, rfl, _, _, _, rfl, fun u z => z, k 0 (by decide), hx, _, rfl, i, hi, rfl, _, _, _, rfl, fun u z => z, k 1 (by decide), hx, _, rfl, i, hi, rfl, _, _, _, rfl, fun u z => z, k 2 (by decide), hx, (by show 3 ≤ sizeLine; decide), fun q0 n0 => ?_⟩
    obtain ⟨s0, e0⟩ := new_at (.lst [.bl (decide (i = 0)), .bl (decide (i = 1)), .bl (decide (i = 2))]) n0
    generalize upd H q0 (.lst [.bl (decide (i = 0)), .bl (decide (i = 1)), .bl (decide (i = 2))]) = H0 at s0 e0 ⊢
    have hx0 := hx.sm s0
    refine ⟨_, rfl, _, rfl, i, hi, rfl, _, _, _, rfl, fun u z => z, k 3 (by decide), hx0, _, rfl, i, hi, rfl, _, _, _, rfl, fun u z => z, k 4 (by decide), hx0, _, rfl, i, hi, rfl, _, _, _, rfl, fun u z => z, k 5 (by decide), hx0, (by show 3 ≤ sizeLine; decide), fun r1 m1 => ?_⟩
    obtain ⟨t1, f1⟩ := new_at (.lst [.bl (decide (i = 3)), .bl (decide (i = 4)), .bl (decide (i = 5))]) m1
    generalize upd H0 r1 (.lst [.bl (decide (i = 3)), .bl (decide (i = 4)), .bl (decide (i = 5))]) = G1 at t1 f1 ⊢
    refine ⟨q0, r1, _, _, rfl, rfl, t1 _ _ e0, f1, (by show 6 ≤ sizeLine; decide), fun q1 n1 => ?_⟩
    obtain ⟨u1, e1⟩ := new_at (.lst ([.bl (decide (i = 0)), .bl (decide (i = 1)), .bl (decide (i = 2))] ++ [.bl (decide (i = 3)), .bl (decide (i = 4)), .bl (decide (i = 5))])) n1
    generalize upd G1 q1 (.lst ([.bl (decide (i = 0)), .bl (decide (i = 1)), .bl (decide (i = 2))] ++ [.bl (decide (i = 3)), .bl (decide (i = 4)), .bl (decide (i = 5))])) = H1 at u1 e1 ⊢
    have s1 := s0.trans (t1.trans u1)
    have hx1 := hx.sm s1
    refine ⟨_, rfl, _, rfl, i, hi, rfl, _, _, _, rfl, fun u z => z, k 6 (by decide), hx1, _, rfl, i, hi, rfl, _, _, _, rfl, fun u z => z, k 7 (by decide), hx1, _, rfl, i, hi, rfl, _, _, _, rfl, fun u z => z, k 8 (by decide), hx1, (by show 3 ≤ sizeLine; decide), fun r2 m2 => ?_⟩
    obtain ⟨t2, f2⟩ := new_at (.lst [.bl (decide (i = 6)), .bl (decide (i = 7)), .bl (decide (i = 8))]) m2
    generalize upd H1 r2 (.lst [.bl (decide (i = 6)), .bl (decide (i = 7)), .bl (decide (i = 8))]) = G2 at t2 f2 ⊢
    refine ⟨q1, r2, _, _, rfl, rfl, t2 _ _ e1, f2, (by show 9 ≤ sizeLine; decide), fun q2 n2 => ?_⟩
    obtain ⟨u2, e2⟩ := new_at (.lst (([.bl (decide (i = 0)), .bl (decide (i = 1)), .bl (decide (i = 2))] ++ [.bl (decide (i = 3)), .bl (decide (i = 4)), .bl (decide (i = 5))]) ++ [.bl (decide (i = 6)), .bl (decide (i = 7)), .bl (decide (i = 8))])) n2
    generalize upd G2 q2 (.lst (([.bl (decide (i = 0)), .bl (decide (i = 1)), .bl (decide (i = 2))] ++ [.bl (decide (i = 3)), .bl (decide (i = 4)), .bl (decide (i = 5))]) ++ [.bl (decide (i = 6)), .bl (decide (i = 7)), .bl (decide (i = 8))])) = H2 at u2 e2 ⊢
    have s2 := s1.trans (t2.trans u2)
    have hx2 := hx.sm s2
    refine ⟨_, rfl, _, rfl, i, hi, rfl, _, _, _, rfl, fun u z => z, k 9 (by decide), hx2, _, rfl, i, hi, rfl, _, _, _, rfl, fun u z => z, k 14 (by decide), hx2, _, rfl, i, hi, rfl, _, _, _, rfl, fun u z => z, k 10 (by decide), hx2, (by show 3 ≤ sizeLine; decide), fun r3 m3 => ?_⟩
    obtain ⟨t3, f3⟩ := new_at (.lst [.bl (decide (i = 9)), .bl (decide (i = 14)), .bl (decide (i = 10))]) m3
    generalize upd H2 r3 (.lst [.bl (decide (i = 9)), .bl (decide (i = 14)), .bl (decide (i = 10))]) = G3 at t3 f3 ⊢
    refine ⟨q2, r3, _, _, rfl, rfl, t3 _ _ e2, f3, (by show 12 ≤ sizeLine; decide), fun q3 n3 => ?_⟩
    obtain ⟨u3, e3⟩ := new_at (.lst ((([.bl (decide (i = 0)), .bl (decide (i = 1)), .bl (decide (i = 2))] ++ [.bl (decide (i = 3)), .bl (decide (i = 4)), .bl (decide (i = 5))]) ++ [.bl (decide (i = 6)), .bl (decide (i = 7)), .bl (decide (i = 8))]) ++ [.bl (decide (i = 9)), .bl (decide (i = 14)), .bl (decide (i = 10))])) n3
    generalize upd G3 q3 (.lst ((([.bl (decide (i = 0)), .bl (decide (i = 1)), .bl (decide (i = 2))] ++ [.bl (decide (i = 3)), .bl (decide (i = 4)), .bl (decide (i = 5))]) ++ [.bl (decide (i = 6)), .bl (decide (i = 7)), .bl (decide (i = 8))]) ++ [.bl (decide (i = 9)), .bl (decide (i = 14)), .bl (decide (i = 10))])) = H3 at u3 e3 ⊢
    have s3 := s2.trans (t3.trans u3)
    have hx3 := hx.sm s3
    refine ⟨_, rfl, _, rfl, i, hi, rfl, _, _, _, rfl, fun u z => z, k 11 (by decide), hx3, _, rfl, i, hi, rfl, _, _, _, rfl, fun u z => z, k 15 (by decide), hx3, _, rfl, i, hi, rfl, _, _, _, rfl, fun u z => z, k 12 (by decide), hx3, (by show 3 ≤ sizeLine; decide), fun r4 m4 => ?_⟩
    obtain ⟨t4, f4⟩ := new_at (.lst [.bl (decide (i = 11)), .bl (decide (i = 15)), .bl (decide (i = 12))]) m4
    generalize upd H3 r4 (.lst [.bl (decide (i = 11)), .bl (decide (i = 15)), .bl (decide (i = 12))]) = G4 at t4 f4 ⊢
    refine ⟨q3, r4, _, _, rfl, rfl, t4 _ _ e3, f4, (by show 15 ≤ sizeLine; decide), fun q4 n4 => ?_⟩
    obtain ⟨u4, e4⟩ := new_at (.lst (((([.bl (decide (i = 0)), .bl (decide (i = 1)), .bl (decide (i = 2))] ++ [.bl (decide (i = 3)), .bl (decide (i = 4)), .bl (decide (i = 5))]) ++ [.bl (decide (i = 6)), .bl (decide (i = 7)), .bl (decide (i = 8))]) ++ [.bl (decide (i = 9)), .bl (decide (i = 14)), .bl (decide (i = 10))]) ++ [.bl (decide (i = 11)), .bl (decide (i = 15)), .bl (decide (i = 12))])) n4
    generalize upd G4 q4 (.lst (((([.bl (decide (i = 0)), .bl (decide (i = 1)), .bl (decide (i = 2))] ++ [.bl (decide (i = 3)), .bl (decide (i = 4)), .bl (decide (i = 5))]) ++ [.bl (decide (i = 6)), .bl (decide (i = 7)), .bl (decide (i = 8))]) ++ [.bl (decide (i = 9)), .bl (decide (i = 14)), .bl (decide (i = 10))]) ++ [.bl (decide (i = 11)), .bl (decide (i = 15)), .bl (decide (i = 12))])) = H4 at u4 e4 ⊢
    have s4 := s3.trans (t4.trans u4)
    have hx4 := hx.sm s4
    refine ⟨_, rfl, _, rfl, i, hi, rfl, _, _, _, rfl, fun u z => z, k 13 (by decide), hx4, (by show 1 ≤ sizeLine; decide), fun r5 m5 => ?_⟩
    obtain ⟨t5, f5⟩ := new_at (.lst [.bl (decide (i = 13))]) m5
    generalize upd H4 r5 (.lst [.bl (decide (i = 13))]) = G5 at t5 f5 ⊢
    refine ⟨q4, r5, _, _, rfl, rfl, t5 _ _ e4, f5, (by show 16 ≤ sizeLine; decide), fun q5 n5 => ?_⟩
    have s5 := s4.trans t5
    exact q _ q5 (s5.trans (same_upd n5)) (s5.free n5) upd_same
end
/-- what is wished of a refusal: its name is told -/
def ERef (c : Nat → Addr) (Q : VK) : XK := fun cls d H => ∃ i, i < 16 ∧ cls = .ref (c i) ∧ HasXd d H ∧ ∀ H', Same H H' → Q (.str (rfN i)) H'
/-- the call has to refuse -/
def TRef (c : Nat → Addr) : (XK → Hp → VK → Prop) → Hp → VK → Prop := fun tl H Q => tl (ERef c Q) H fun _ _ => False
section
variable {X : Cx}
theorem refused_mk {c : Nat → Addr} {LE g : Addr} {fd : FuncData} (Fm : Fun X.K "_law_refused" "_law_refused" s__law_refused g fd) (mm : X.mg "_law_refused" = some (.ref g)) (bm : Binds X.K fd ["_law_call"] []) (T : Txt X.K X.mg) (TX : ExcN X.K X.mg c LE)
    (DM : ClE X.prog X.w X.K X.mg X.base 1 "_law_marks" ["_law_error"] (spMrk c)) (hr : Room 3 X.A) : MetF X "_law_refused" "_law_call" (TRef c) := by
  obtain ⟨oc, od, kV, doc, pm, an, cdv, ct, osl, rfl, lk, hcd⟩ := Fm.ex
  refine ⟨g, _, _, _, kV, doc, pm, cdv, ct, oc, an, od, osl, _, mm, Fm.kp, lk, hcd, bm, sc__law_refused, rfl, .inl rfl, ?_⟩
  intro f c' s H Q tl act hc h
  have hrE : L2H.RoomH 1 ((X.A.deeper (envOfC "_law_refused" (defScope s__law_refused) s.heap.objs.size g cdv))) := L2H.roomH_of ((hr.mono (show 2 ≤ 3 by omega)).deeper _)
  refine ⟨_, pss_cons (ps_set (i := 1) sc__law_refused.nd rfl (Or.inl rfl) pe_non) (pss_keep (X := (cxOf C8.CX0 X.prog X.w X.K X.mg X.base _ "_law_refused" (defScope s__law_refused) g cdv X.A X.stack s H C8.E0).nox) (c := .ref LE) (i := 2)
      (tb := fun W D σ H => ∃ Ech : XK, (∀ cls d (σ' : L2.St) H', σ'.length = 5 → Ech cls d H' → W cls d σ' H') ∧ σ[0]? = some (some (.ref f)) ∧ H c' = some (LamX.CodeO c' (X.env.qual ++ "<lambda>")) ∧ tl Ech H fun v H1 => D.nx σ H1)
      rfl rfl sc__law_refused.nd rfl rfl ⟨rfl, by decide, .inl TX.gL⟩ (fun W pn xe tk => ?_) (fun a oe cls d pn hz hfs => (pss_one (ps_set (i := 1) sc__law_refused.nd rfl (Or.inl rfl) (pv 2)))) (fun a oe cls d hz hfs =>
        (pss_cons (ps_set (i := 3) sc__law_refused.nd rfl (Or.inl rfl) (pe_ownE DM ⟨hrE.dp, hrE.un⟩ List.mem_cons_self hz hfs (by rfl) (pa_cons (pv 1) pa_nil)))
      (pss_cons (ps_if (PW.pt (pw_or (pt_not (pt_val (pe_callB (call_isQ TX.toExcT List.mem_cons_self hz hfs) (by rfl) T.b_isinstance (by decide +kernel) (pa_cons (pv 1) (pa_cons (pe_bltn (v := .ty "ValueError") (by rfl) T.b_ValueError (by decide +kernel) rfl) pa_nil))))) (pw_or1 (pt_cmpR op_ne (pe_bmK (K := X.K) (r := rCntB X.K) PySem.F.plainAttrs_list PySem.F.slot_list_count PySem.F.type_list_count mt_bcount (pv 3) (pa_cons pe_bl pa_nil)) pe_int (nomark _))))) (pss_one (ps_ret pe_str)) pss_nil)
      (pss_cons (ps_set (i := 4) sc__law_refused.nd rfl (Or.inl rfl) (pe_lst (pa_cons pe_str (pa_cons pe_str (pa_cons pe_str (pa_cons pe_str (pa_cons pe_str (pa_cons pe_str (pa_cons pe_str (pa_cons pe_str (pa_cons pe_str (pa_cons pe_str pa_nil))))))))))))
      (pss_one (ps_ret (pe_ix (r := rIxL X.K) ix_list (pe_op op_cat (pv 4) (pe_lst (pa_cons pe_str (pa_cons pe_str (pa_cons pe_str (pa_cons pe_str (pa_cons pe_str (pa_cons pe_str pa_nil)))))))) (pe_bmK (K := X.K) (r := rIndex X.K) PySem.F.plainAttrs_list PySem.F.slot_list_index PySem.F.type_list_index mt_index (pv 3) (pa_cons pe_bl pa_nil)) (fun _ _ => rfl))))))))), ?_⟩
  · refine ⟨fun pins s' σ H' D I h' => ?_⟩
    obtain ⟨Ech, hW, h1, h2, h3⟩ := h'
    refine run_ex (X := (cxOf C8.CX0 X.prog X.w X.K X.mg X.base ["_law_call", "_law_error", "e", "_law_marks_here", "_law_names"] "_law_refused" (defScope s__law_refused) g cdv X.A X.stack s H C8.E0).tr pn xe) ⟨_, pss_one (ps_expr (act _ pn xe Ech _ _ (takes_len tk) (fun cls d σ' H' he hl => hW cls d σ' H' hl he))), ?_⟩ I
    exact ⟨h1, h2, h3⟩
  · refine ⟨ERef c Q, fun cls d σ' H' hl hE => ?_, rfl, hc, h⟩
    obtain ⟨i, hi, rfl, hx, hq⟩ := hE
    obtain ⟨x0, x1, x2, x3, x4, rfl⟩ : ∃ x0 x1 x2 x3 x4, σ' = [x0, x1, x2, x3, x4] := by
      match σ', hl with
      | [a, b, c, d, e], _ => exact ⟨a, b, c, d, e, rfl⟩
    obtain ⟨b1, b2, b3, b4⟩ := bitsM_facts i hi
    refine ⟨TX.ex i hi, fun a na => ?_⟩
    refine ⟨_, rfl, ?_⟩
    refine ⟨_, rfl, i, hi, rfl, rfl, hx, fun H1 p1 s1 n1 e1 => ?_⟩
    have hx1 := hx.sm s1
    refine ⟨_, rfl, i, hi, rfl, _, _, _, rfl, fun u z => z, TX.kv i hi, hx1, true, rfl, iteF ?_⟩
    refine ⟨_, rfl, .inl ⟨rfl, _, .inl (.inl e1)⟩, p1, bitsM i, rfl, rfl, .inl (.inl e1), ?_⟩
    rw [b1]
    refine ⟨rfl, _, rfl, iteF ?_⟩
    refine ⟨(by show 10 ≤ sizeLine; decide), fun p2 n2 => ?_⟩
    obtain ⟨s2, e2⟩ := new_at (.lst [.str "layer", .str "window", .str "sheet", .str "moment", .str "row", .str "number", .str "drawings", .str "unlike", .str "endless", .str "squeezed"]) n2
    generalize upd H1 p2 (.lst [.str "layer", .str "window", .str "sheet", .str "moment", .str "row", .str "number", .str "drawings", .str "unlike", .str "endless", .str "squeezed"]) = H2 at s2 e2 ⊢
    refine ⟨_, rfl, (by show 6 ≤ sizeLine; decide), fun p3 n3 => ?_⟩
    obtain ⟨s3, e3⟩ := new_at (.lst [.str "many", .str "paper", .str "deed", .str "leaned", .str "text", .str "words"]) n3
    generalize upd H2 p3 (.lst [.str "many", .str "paper", .str "deed", .str "leaned", .str "text", .str "words"]) = H3 at s3 e3 ⊢
    refine ⟨p2, p3, _, _, rfl, rfl, s3 _ _ e2, e3, (by show 16 ≤ sizeLine; decide), fun p4 n4 => ?_⟩
    obtain ⟨s4, e4⟩ := new_at (.lst (nmsM.map V.str)) n4
    have s14 := (s1.trans s2).trans (s3.trans s4)
    have e14 := s4 _ _ (s3 _ _ (s2 _ _ e1))
    refine ⟨_, rfl, .inl ⟨rfl, _, .inl (.inl e14)⟩, p1, _, .bl true, posM i, .bl true, rfl, rfl, .inl (.inl e14), rfl, bl_flat _, ?_, rfl, fun m z hm hz => ?_, ?_⟩
    · rw [List.getElem?_map, b2]
      rfl
    · rw [List.getElem?_map, b3 m hm] at hz
      cases hz
      rfl
    · exact ⟨p4, _, _, _, rfl, rfl, .inl (.inl e4), nmsM_at i hi, hq _ s14⟩
end

/-- what is wished of a refusal that tells how many -/
def EMany (c : Nat → Addr) (Q : VK) : XK := fun cls d H => cls = .ref (c 14) ∧ ∃ dd fs m n, d = some dd ∧ H dd = some (.xd fs) ∧ fs.lookup ("many" : Str) = some m ∧ fs.lookup ("most" : Str) = some n ∧ ∀ H' p, Same H H' → H p = none → H' p = some (.tup [m, n]) → Q (.ref p) H'
def TMany (c : Nat → Addr) : (XK → Hp → VK → Prop) → Hp → VK → Prop := fun tl H Q => tl (EMany c Q) H fun _ H1 => Q .non H1
section
variable {X : Cx}
theorem many_mk {c : Nat → Addr} {LE g : Addr} {fd : FuncData} (Fm : Fun X.K "_law_many" "_law_many" s__law_many g fd) (mm : X.mg "_law_many" = some (.ref g)) (bm : Binds X.K fd ["_law_call"] []) (xm : PySem.W.exmOne X.K (.ref (c 14)) (.ref (c 14)) = some true) (T : Txt X.K X.mg) (TX : ExcN X.K X.mg c LE)
    (hr : Room 3 X.A) : MetF X "_law_many" "_law_call" (TMany c) := by
  obtain ⟨oc, od, kV, doc, pm, an, cdv, ct, osl, rfl, lk, hcd⟩ := Fm.ex
  refine ⟨g, _, _, _, kV, doc, pm, cdv, ct, oc, an, od, osl, _, mm, Fm.kp, lk, hcd, bm, sc__law_many, rfl, .inl rfl, ?_⟩
  intro f c' s H Q tl act hc h
  refine ⟨_, pss_cons (ps_try_as (X := (cxOf C8.CX0 X.prog X.w X.K X.mg X.base _ "_law_many" (defScope s__law_many) g cdv X.A X.stack s H C8.E0).nox) (c := .ref (c 14)) (i := 1) (Wout := fun _ _ _ _ => False)
      (tb := fun W D σ H => ∃ Ech : XK, (∀ cls d (σ' : L2.St) H', σ'.length = 2 → Ech cls d H' → W cls d σ' H') ∧ σ[0]? = some (some (.ref f)) ∧ H c' = some (LamX.CodeO c' (X.env.qual ++ "<lambda>")) ∧ tl Ech H fun v H1 => D.nx σ H1)
      rfl rfl sc__law_many.nd rfl rfl ⟨rfl, by decide, .inl (TX.g 14 "TooMany" rfl)⟩ takes0 (fun W pn xe tk _ => ?_) (fun a oe cls d pn hz hfs =>
        (pss_one (ps_ret (pe_tup (pa_cons (pe_xf (TX.xf (i := 14) (by decide)) TX.n1 hz hfs (pv 1)) (pa_cons (pe_xf (TX.xf (i := 14) (by decide)) TX.n2 hz hfs (pv 1)) pa_nil))))))) (pss_one (ps_ret pe_non)), ?_⟩
  · refine ⟨fun pins s' σ H' D I h' => ?_⟩
    obtain ⟨Ech, hW, h1, h2, h3⟩ := h'
    refine run_ex (X := (cxOf C8.CX0 X.prog X.w X.K X.mg X.base ["_law_call", "e"] "_law_many" (defScope s__law_many) g cdv X.A X.stack s H C8.E0).tr pn xe) ⟨_, pss_one (ps_expr (act _ pn xe Ech _ _ (takes_len tk) (fun cls d σ' H' he hl => hW cls d σ' H' hl he))), ?_⟩ I
    exact ⟨h1, h2, h3⟩
  · refine ⟨EMany c Q, fun cls d σ' H' hl hE => ?_, rfl, hc, h⟩
    obtain ⟨rfl, dd, fs, m, n, rfl, hd, lm, ln, hq⟩ := hE
    obtain ⟨x0, x1, rfl⟩ : ∃ x0 x1, σ' = [x0, x1] := by
      match σ', hl with
      | [a, b], _ => exact ⟨a, b, rfl⟩
    refine ⟨true, xm, fun _ a na => ?_, fun z => Bool.noConfusion z⟩
    refine ⟨_, rfl, rfl, rfl, dd, fs, m, rfl, hd, lm, _, rfl, rfl, rfl, dd, fs, n, rfl, hd, ln, (by show 2 ≤ sizeLine; decide), fun q2 n2 => ?_⟩
    exact hq _ q2 (same_upd n2) n2 upd_same
end

section
variable {P : Program} {w : World} {K : PySem.W.Frag} {mg : Str → Option Value} {base : Heap}
theorem isW_of {d : PyData} {l m : Int} (h : isB d = true ∨ isI d = false) : isW d l m = false := by
  cases d <;> first | rfl | (rcases h with h | h <;> cases h)
def isWf (d : PyData) (l : Int) : Bool := match d with
  | .int n => decide (l ≤ n)
  | _ => false
theorem isWf_of {d : PyData} {l : Int} (h : isB d = true ∨ isI d = false) : isWf d l = false := by
  cases d <;> first | rfl | (rcases h with h | h <;> cases h)
theorem isWf_int {d : PyData} {l : Int} (h : isWf d l = true) : ∃ n, d = .int n ∧ l ≤ n := by
  cases d with
  | int n => exact ⟨n, rfl, of_decide_eq_true h⟩
  | _ => cases h
theorem isWf_no {d : PyData} {l m : Int} (h : isWf d l = false) : isW d l m = false := by
  cases d with
  | int n =>
    have e : ¬ l ≤ n := of_decide_eq_false h
    simp [isW, e]
  | _ => rfl
def sp_is_whole_from (K : PySem.W.Frag) : Sp := fun vs H Q _ => ∃ (fx : Hp) (b : Bool) (v : V) (d : PyData) (l : Int), vs = [v, .int l] ∧ Dg K fx H b v d ∧ Q (.bl (isWf d l)) H
theorem ok_is_whole_from {f : Addr} {fd : FuncData} (F : Fun K "is_whole_from" "is_whole_from" s_is_whole_from f fd) (T : Txt K mg) : FnOk P w K mg base CX0 1 f fd ["thing", "least"] (sp_is_whole_from K) := by
  refine F.ok sc_is_whole_from (fun vs H Q E h => ?_) (fun cdv A outer s H vs Q E hr h => ?_)
  · obtain ⟨fx, b, v, d, l, rfl, q⟩ := h
    rfl
  · obtain ⟨fx, b, v, d, l, rfl, hd, q⟩ := h
    refine ⟨_, (pss_cons (ps_if (PW.pt (pw_or (pt_val (pe_callB call_isi (by rfl) T.b_isinstance (by decide +kernel) (pa_cons (pv 0) (pa_cons (pe_bltn (v := .ty "bool") (by rfl) T.b_bool (by decide +kernel) rfl) pa_nil)))) (pw_or1 (pt_not (pt_val (pe_callB call_isi (by rfl) T.b_isinstance (by decide +kernel) (pa_cons (pv 0) (pa_cons (pe_bltn (v := .ty "int") (by rfl) T.b_int (by decide +kernel) rfl) pa_nil)))))))) (pss_one (ps_ret pe_bl)) pss_nil)
      (pss_one (ps_ret (pe_cmpR op_le (pv 1) (pv 0) (nomark _))))), ?_⟩
    refine ⟨_, rfl, _, _, _, _, _, rfl, .ty _, hd.ty, kit_ty (kB d), _, rfl, ite2 (fun e => ?_) (fun e => ?_)⟩
    · rw [isWf_of (.inl e)] at q
      exact iteT q
    · refine ⟨_, rfl, _, _, _, _, _, rfl, .ty _, hd.ty, kit_ty (kI d), _, rfl, ?_⟩
      cases hi : isI d with
      | false =>
        rw [isWf_of (.inr hi)] at q
        exact iteT q
      | true =>
        refine iteF ?_
        cases hd with
        | bl x => exact absurd rfl e
        | int n => exact ⟨_, rfl, _, rfl, l, n, rfl, rfl, q⟩
        | non => cases hi
        | str x => cases hi
        | tup h q => cases hi
        | lst n h q => cases hi
        | dic0 n h => cases hi
        | dic1 n h => cases hi
theorem dg_int {K : PySem.W.Frag} {fx H : Hp} {b : Bool} {v : V} {n : Int} (h : Dg K fx H b v (.int n)) : v = .int n := by
  cases h
  rfl
def sp_is_whole (K : PySem.W.Frag) : Sp := fun vs H Q _ => ∃ (fx : Hp) (b : Bool) (v : V) (d : PyData) (l m : Int), vs = [v, .int l, .int m] ∧ Dg K fx H b v d ∧ Q (.bl (isW d l m)) H
theorem ok_is_whole {f : Addr} {fd : FuncData} (F : Fun K "is_whole" "is_whole" s_is_whole f fd) (T : Txt K mg) (D_is_whole_from : Cl P w K mg base 1 "is_whole_from" ["thing", "least"] (sp_is_whole_from K)) : FnOk P w K mg base CX0 2 f fd ["thing", "least", "most"] (sp_is_whole K) := by
  refine F.ok sc_is_whole (fun vs H Q E h => ?_) (fun cdv A outer s H vs Q E hr h => ?_)
  · obtain ⟨fx, b, v, d, l, m, rfl, q⟩ := h
    rfl
  · obtain ⟨fx, b, v, d, l, m, rfl, hd, q⟩ := h
    refine ⟨_, (pss_one (ps_ret (pe_and (pe_own D_is_whole_from (hr.mono (by omega)) (by rfl) (pa_cons (pv 0) (pa_cons (pv 1) pa_nil))) (pe_one (pe_cmpR op_le (pv 0) (pv 2) (nomark _)))))), ?_⟩
    refine ⟨_, rfl, _, rfl, fx, b, v, d, l, rfl, hd, _, rfl, ?_⟩
    cases e : isWf d l with
    | false =>
      rw [isWf_no e] at q
      exact iteF q
    | true =>
      obtain ⟨n, rfl, e1⟩ := isWf_int e
      have ev := dg_int hd
      subst ev
      refine iteT ⟨_, rfl, _, rfl, n, m, rfl, rfl, ?_⟩
      rw [show isW (.int n) l m = decide (n ≤ m) by simp [isW, e1]] at q
      exact q
def sp_is_tuple (K : PySem.W.Frag) : Sp := fun vs H Q _ => ∃ (fx : Hp) (b : Bool) (v : V) (d : PyData) (l m : Int), vs = [v, .int l, .int m] ∧ Dg K fx H b v d ∧ Q (.bl (isTup d l m)) H
theorem ok_is_tuple {f : Addr} {fd : FuncData} (F : Fun K "is_tuple" "is_tuple" s_is_tuple f fd) (T : Txt K mg) : FnOk P w K mg base CX0 1 f fd ["thing", "least", "most"] (sp_is_tuple K) := by
  refine F.ok sc_is_tuple (fun vs H Q E h => ?_) (fun cdv A outer s H vs Q E hr h => ?_)
  · obtain ⟨fx, b, v, d, l, m, rfl, q⟩ := h
    rfl
  · obtain ⟨fx, b, v, d, l, m, rfl, hd, q⟩ := h
    refine ⟨_, (pss_one (ps_ret (pe_and (pe_callB call_isi (by rfl) T.b_isinstance (by decide +kernel) (pa_cons (pv 0) (pa_cons (pe_bltn (v := .ty "tuple") (by rfl) T.b_tuple (by decide +kernel) rfl) pa_nil))) (pe_one (pe_chain op_le op_le (pv 1) (pe_callB call_len_seq (by rfl) T.b_len (by decide +kernel) (pa_cons (pv 0) pa_nil)) (pv 2)))))), ?_⟩
    refine ⟨_, rfl, _, _, _, _, _, rfl, .ty _, hd.ty, kit_ty (kT d), _, rfl, ?_⟩
    cases hd with
    | @tup b a xs ds ha hall =>
      have hl := DgAll.len hall
      refine iteT ⟨_, rfl, _, rfl, a, xs, rfl, .inr ha, l, _, rfl, rfl, _, rfl, ite2 (fun e => ?_) (fun e => ?_)⟩
      · refine ⟨_, rfl, _, m, rfl, rfl, ?_⟩
        have e1 : l ≤ (xs.length : Int) := of_decide_eq_true e
        rw [show isTup (.tuple ds) l m = decide ((xs.length : Int) ≤ m) by simp [isTup, ← hl, e1]] at q
        exact q
      · have e1 : ¬ l ≤ (xs.length : Int) := fun z => e (decide_eq_true z)
        rw [show isTup (.tuple ds) l m = false by simp [isTup, ← hl, e1]] at q
        exact q
    | non => exact iteF q
    | bl x => exact iteF q
    | int i => exact iteF q
    | str x => exact iteF q
    | lst n h q' => exact iteF q
    | dic0 n h => exact iteF q
    | dic1 n h => exact iteF q
theorem tup_of {K : PySem.W.Frag} {fx : Hp} {H : Hp} {b : Bool} {v : V} {d : PyData} {l m : Int} (h : Dg K fx H b v d) (e : isTup d l m = true) : ∃ a xs ds, v = .ref a ∧ d = .tuple ds ∧ SqT K H a xs ∧ DgAll K fx H b xs ds ∧ l ≤ (ds.length : Int) ∧ (ds.length : Int) ≤ m := by
  cases h with
  | @tup b a xs ds ha hall =>
    have := of_decide_eq_true (show decide (l ≤ (ds.length : Int) ∧ (ds.length : Int) ≤ m) = true from e)
    exact ⟨a, xs, ds, rfl, rfl, ha, hall, this.1, this.2⟩
  | non => cases e
  | bl x => cases e
  | int i => cases e
  | str x => cases e
  | lst n h q' => cases e
  | dic0 n h => cases e
  | dic1 n h => cases e
theorem two_of {α : Type} {xs : List α} (h : xs.length = 2) : ∃ a b, xs = [a, b] := by
  match xs, h with
  | [a, b], _ => exact ⟨a, b, rfl⟩
theorem isRow_no {d : PyData} (h : isTup d 2 2 = false) : isRowD d = false := by
  unfold isRowD
  split
  · simp [isTup] at h
  · rfl
def sp_is_drawing (K : PySem.W.Frag) : Sp := fun vs H Q _ => ∃ (fx : Hp) (b : Bool) (v : V) (d : PyData), vs = [v] ∧ Dg K fx H b v d ∧ Q (.bl (isW d 0 9)) H
theorem ok_is_drawing {f : Addr} {fd : FuncData} (F : Fun K "is_drawing" "is_drawing" s_is_drawing f fd) (T : Txt K mg) (D_is_whole : Cl P w K mg base 2 "is_whole" ["thing", "least", "most"] (sp_is_whole K)) : FnOk P w K mg base CX0 3 f fd ["thing"] (sp_is_drawing K) := by
  refine F.ok sc_is_drawing (fun vs H Q E h => ?_) (fun cdv A outer s H vs Q E hr h => ?_)
  · obtain ⟨fx, b, v, d, rfl, q⟩ := h
    rfl
  · obtain ⟨fx, b, v, d, rfl, hd, q⟩ := h
    refine ⟨_, (pss_one (ps_ret (pe_own D_is_whole (hr.mono (by omega)) (by rfl) (pa_cons (pv 0) (pa_cons pe_int (pa_cons (pe_gint (by rfl) T.c_MOST_DRAWING) pa_nil)))))), ?_⟩
    exact ⟨_, rfl, fx, b, v, d, 0, 9, rfl, hd, q⟩
def sp_is_hold (K : PySem.W.Frag) : Sp := fun vs H Q _ => ∃ (fx : Hp) (b : Bool) (v : V) (d : PyData), vs = [v] ∧ Dg K fx H b v d ∧ Q (.bl (isW d 1 24)) H
theorem ok_is_hold {f : Addr} {fd : FuncData} (F : Fun K "is_hold" "is_hold" s_is_hold f fd) (T : Txt K mg) (D_is_whole : Cl P w K mg base 2 "is_whole" ["thing", "least", "most"] (sp_is_whole K)) : FnOk P w K mg base CX0 3 f fd ["thing"] (sp_is_hold K) := by
  refine F.ok sc_is_hold (fun vs H Q E h => ?_) (fun cdv A outer s H vs Q E hr h => ?_)
  · obtain ⟨fx, b, v, d, rfl, q⟩ := h
    rfl
  · obtain ⟨fx, b, v, d, rfl, hd, q⟩ := h
    refine ⟨_, (pss_one (ps_ret (pe_own D_is_whole (hr.mono (by omega)) (by rfl) (pa_cons (pv 0) (pa_cons pe_int (pa_cons (pe_gint (by rfl) T.c_MOST_HOLD) pa_nil)))))), ?_⟩
    exact ⟨_, rfl, fx, b, v, d, 1, 24, rfl, hd, q⟩
def sp_is_row (K : PySem.W.Frag) : Sp := fun vs H Q _ => ∃ (fx : Hp) (b : Bool) (v : V) (d : PyData), vs = [v] ∧ Dg K fx H b v d ∧ Q (.bl (isRowD d)) H
theorem ok_is_row {f : Addr} {fd : FuncData} (F : Fun K "is_row" "is_row" s_is_row f fd) (T : Txt K mg) (D_is_tuple : Cl P w K mg base 1 "is_tuple" ["thing", "least", "most"] (sp_is_tuple K)) (D_is_drawing : Cl P w K mg base 3 "is_drawing" ["thing"] (sp_is_drawing K)) (D_is_hold : Cl P w K mg base 3 "is_hold" ["thing"] (sp_is_hold K)) : FnOk P w K mg base CX0 4 f fd ["thing"] (sp_is_row K) := by
  refine F.ok sc_is_row (fun vs H Q E h => ?_) (fun cdv A outer s H vs Q E hr h => ?_)
  · obtain ⟨fx, b, v, d, rfl, q⟩ := h
    rfl
  · obtain ⟨fx, b, v, d, rfl, hd, q⟩ := h
    refine ⟨_, (pss_cons (ps_if (pt_not (pt_val (pe_own D_is_tuple (hr.mono (by omega)) (by rfl) (pa_cons (pv 0) (pa_cons pe_int (pa_cons pe_int pa_nil)))))) (pss_one (ps_ret pe_bl)) pss_nil)
      (pss_cons (ps_asg (pv 0) (pg_tup (by rfl) (pgs_cons (pg_name (i := 1) sc_is_row.nd rfl (Or.inl rfl)) (pgs_cons (pg_name (i := 2) sc_is_row.nd rfl (Or.inl rfl)) pgs_nil))))
      (pss_one (ps_ret (pe_and (pe_own D_is_drawing (hr.mono (by omega)) (by rfl) (pa_cons (pv 1) pa_nil)) (pe_one (pe_own D_is_hold (hr.mono (by omega)) (by rfl) (pa_cons (pv 2) pa_nil)))))))), ?_⟩
    refine ⟨_, rfl, fx, b, v, d, 2, 2, rfl, hd, _, rfl, ?_⟩
    cases et : isTup d 2 2 with
    | false =>
      rw [isRow_no et] at q
      exact iteT q
    | true =>
      obtain ⟨a, xs, ds, rfl, rfl, ha, hall, l1, l2⟩ := tup_of hd et
      obtain ⟨d1, d2, rfl⟩ := two_of (show ds.length = 2 by omega)
      cases hall with | @cons _ v1 _ _ _ h1 hr =>
      cases hr with | @cons _ v2 _ _ _ h2 hn =>
      cases hn
      refine iteF ?_
      refine ⟨_, rfl, a, _, rfl, ha, rfl, _, _, rfl, _, _, rfl, rfl, ?_⟩
      refine ⟨_, rfl, fx, b, v1, d1, rfl, h1, _, rfl, ?_⟩
      cases e1 : isW d1 0 9 with
      | false =>
        rw [show isRowD (.tuple [d1, d2]) = false by simp [isRowD, e1]] at q
        exact iteF q
      | true =>
        refine iteT ⟨_, rfl, fx, b, v2, d2, rfl, h2, ?_⟩
        rw [show isRowD (.tuple [d1, d2]) = isW d2 1 24 by simp [isRowD, e1]] at q
        exact q
def sp_is_layer (K : PySem.W.Frag) : Sp := fun vs H Q _ => ∃ (fx : Hp) (b : Bool) (v : V) (d : PyData), vs = [v] ∧ Dg K fx H b v d ∧ ∀ H', Same H H' → Q (.bl (isLayD d)) H'
theorem isLay_no {d : PyData} (h : isTup d 2 2 = false) : isLayD d = false := by
  unfold isLayD
  split
  · simp [isTup] at h
  · rfl
theorem isLay_no2 {r b : PyData} (h : isTup r 0 8 = false) : isLayD (.tuple [r, b]) = false := by
  unfold isLayD
  split
  · rename_i rs b' e
    cases e
    have : ¬ rs.length ≤ 8 := by
      intro z
      have : isTup (.tuple rs) 0 8 = true := decide_eq_true ⟨by omega, by omega⟩
      rw [this] at h
      cases h
    simp [this]
  · rfl
theorem ok_is_layer {f : Addr} {fd : FuncData} (F : Fun K "is_layer" "is_layer" s_is_layer f fd) (T : Txt K mg) (D_is_tuple : Cl P w K mg base 1 "is_tuple" ["thing", "least", "most"] (sp_is_tuple K)) (D_is_row : Cl P w K mg base 4 "is_row" ["thing"] (sp_is_row K)) (D_is_whole : Cl P w K mg base 2 "is_whole" ["thing", "least", "most"] (sp_is_whole K)) : FnOk P w K mg base CX0 5 f fd ["thing"] (sp_is_layer K) := by
  refine F.ok sc_is_layer (fun vs H Q E h => ?_) (fun cdv A outer s H vs Q E hr h => ?_)
  · obtain ⟨fx, b, v, d, rfl, q⟩ := h
    rfl
  · obtain ⟨fx, b, v, d, rfl, hd, q⟩ := h
    refine ⟨_, (pss_cons (ps_if (pt_not (pt_val (pe_own D_is_tuple (hr.mono (by omega)) (by rfl) (pa_cons (pv 0) (pa_cons pe_int (pa_cons pe_int pa_nil)))))) (pss_one (ps_ret pe_bl)) pss_nil)
      (pss_cons (ps_asg (pv 0) (pg_tup (by rfl) (pgs_cons (pg_name (i := 1) sc_is_layer.nd rfl (Or.inl rfl)) (pgs_cons (pg_name (i := 2) sc_is_layer.nd rfl (Or.inl rfl)) pgs_nil))))
      (pss_cons (ps_if (PW.pt (pw_or (pt_not (pt_val (pe_own D_is_tuple (hr.mono (by omega)) (by rfl) (pa_cons (pv 1) (pa_cons pe_int (pa_cons (pe_gint (by rfl) T.c_MOST_ROWS) pa_nil)))))) (pw_or1 (pt_not (pt_val (pe_callB (cr_all rfl) (by rfl) T.b_all (by decide +kernel) (pa_cons (pe_lc (own := [("row", 3)]) (g := (gName 3)) (tt := tYes) (by rfl) sc_is_layer.nd (pi_tup (pv 1)) (blkOk_by (own := [("row", 3)]) (N := ["thing", "rows", "back", "row"]) (sc := defScope s_is_layer) (by decide +kernel)) (fun _ _ _ _ _ => (pg_name (i := 3) sc_is_layer.nd rfl (Or.inl rfl))) (fun _ _ _ _ _ => pts_nil) (fun _ _ _ _ _ => (pe_own D_is_row (hr.mono (by omega)) (by rfl) (pa_cons (pv 3) pa_nil)))) pa_nil))))))) (pss_one (ps_ret pe_bl)) pss_nil)
      (pss_one (ps_ret (pe_or (pe_cmpR op_isN (pv 2) pe_non (nomark _)) (pe_one (pe_own D_is_whole (hr.mono (by omega)) (by rfl) (pa_cons (pv 2) (pa_cons pe_int (pa_cons (pe_op op_sub (pe_callB call_len_seq (by rfl) T.b_len (by decide +kernel) (pa_cons (pv 1) pa_nil)) pe_int) pa_nil))))))))))), ?_⟩
    refine ⟨_, rfl, fx, b, v, d, 2, 2, rfl, hd, _, rfl, ?_⟩
    cases et : isTup d 2 2 with
    | false =>
      rw [isLay_no et] at q
      exact iteT (q _ (Same.refl _))
    | true =>
      obtain ⟨a, xs, ds, rfl, rfl, ha, hall, l1, l2⟩ := tup_of hd et
      obtain ⟨d1, d2, rfl⟩ := two_of (show ds.length = 2 by omega)
      cases hall with | @cons _ v1 _ _ _ h1 hr =>
      cases hr with | @cons _ v2 _ _ _ h2 hn =>
      cases hn
      refine iteF ?_
      refine ⟨_, rfl, a, _, rfl, ha, rfl, _, _, rfl, _, _, rfl, rfl, ?_⟩
      refine ⟨_, rfl, fx, b, v1, d1, 0, 8, rfl, h1, _, rfl, ?_⟩
      cases e8 : isTup d1 0 8 with
      | false =>
        rw [isLay_no2 e8] at q
        exact iteT (iteT (q _ (Same.refl _)))
      | true =>
        obtain ⟨pr, vs, rs, rfl, rfl, hq, pd, _, l8⟩ := tup_of h1 e8
        have hl := DgAll.len pd
        refine iteF ?_
        refine ⟨_, rfl, pr, rfl, ⟨_, hq⟩, fun D hD => ?_⟩
        refine lcmap_tup ((rs.map isRowD).map V.bl) (by simp [hl]) (by omega) hq hD (fun i x y H2 R Z hx hy s2 hR => ?_) (fun H2 s2 hL => ?_)
        · obtain ⟨r, hr1, hrow⟩ := DgAll.at pd hx
          have ey : y = .bl (isRowD r) := by
            rw [List.map_map, List.getElem?_map, hr1] at hy
            exact (Option.some.inj hy).symm
          subst ey
          exact ⟨rfl, yes_ok ⟨_, rfl, fx, b, x, r, rfl, hrow.sm s2, hR _ (Same.refl _)⟩⟩
        · refine ⟨D, _, rfl, .inl (.inl hL), _, rfl, ?_⟩
          have hdef : isLayD (.tuple [.tuple rs, d2]) = ((rs.map isRowD).all id && bkOk d2 ((rs.length : Int) - 1)) := by
            have z : decide (rs.length ≤ 8) = true := decide_eq_true (by omega)
            show (decide (rs.length ≤ 8) && rs.all isRowD && bkOk d2 ((rs.length : Int) - 1)) = _
            rw [z, List.all_map]
            rfl
          cases ea : (rs.map isRowD).all id with
          | false =>
            rw [ea] at hdef
            rw [show isLayD (.tuple [.tuple rs, d2]) = false from hdef] at q
            exact iteT (q _ s2)
          | true =>
            rw [ea, Bool.true_and] at hdef
            refine iteF ?_
            refine ⟨_, rfl, rfl, _, rfl, ?_⟩
            cases h2 with
            | non =>
              rw [hdef] at q
              exact ite2 (fun _ => q _ s2) (fun e => absurd (decide_eq_true rfl) e)
            | bl x =>
              rw [hdef] at q
              exact ite2 (fun e => nomatch (of_decide_eq_true e)) (fun _ => ⟨_, rfl, _, rfl, pr, vs, rfl, .inr (Same.sqT s2 hq), _, _, rfl, rfl, fx, b, _, _, 0, _, rfl, .bl x, q _ s2⟩)
            | int n =>
              rw [hdef, ← hl] at q
              exact ite2 (fun e => nomatch (of_decide_eq_true e)) (fun _ => ⟨_, rfl, _, rfl, pr, vs, rfl, .inr (Same.sqT s2 hq), _, _, rfl, rfl, fx, b, _, _, 0, _, rfl, .int n, q _ s2⟩)
            | str x =>
              rw [hdef] at q
              exact ite2 (fun e => nomatch (of_decide_eq_true e)) (fun _ => ⟨_, rfl, _, rfl, pr, vs, rfl, .inr (Same.sqT s2 hq), _, _, rfl, rfl, fx, b, _, _, 0, _, rfl, .str x, q _ s2⟩)
            | @tup _ a' xs' ds' h' q' =>
              rw [hdef] at q
              exact ite2 (fun e => nomatch (of_decide_eq_true e)) (fun _ => ⟨_, rfl, _, rfl, pr, vs, rfl, .inr (Same.sqT s2 hq), _, _, rfl, rfl, fx, b, _, _, 0, _, rfl, (Dg.tup h' q').sm s2, q _ s2⟩)
            | @lst a' xs' ds' n' h' q' =>
              rw [hdef] at q
              exact ite2 (fun e => nomatch (of_decide_eq_true e)) (fun _ => ⟨_, rfl, _, rfl, pr, vs, rfl, .inr (Same.sqT s2 hq), _, _, rfl, rfl, fx, true, _, _, 0, _, rfl, (Dg.lst n' h' q').sm s2, q _ s2⟩)
            | @dic0 a' n' h' =>
              rw [hdef] at q
              exact ite2 (fun e => nomatch (of_decide_eq_true e)) (fun _ => ⟨_, rfl, _, rfl, pr, vs, rfl, .inr (Same.sqT s2 hq), _, _, rfl, rfl, fx, false, _, _, 0, _, rfl, (Dg.dic0 n' h').sm s2, q _ s2⟩)
            | @dic1 a' k' i' n' h' =>
              rw [hdef] at q
              exact ite2 (fun e => nomatch (of_decide_eq_true e)) (fun _ => ⟨_, rfl, _, rfl, pr, vs, rfl, .inr (Same.sqT s2 hq), _, _, rfl, rfl, fx, false, _, _, 0, _, rfl, (Dg.dic1 n' h').sm s2, q _ s2⟩)
end

theorem ShAt.dg {K : PySem.W.Frag} {fx : Hp} {H : Hp} {b : Bool} {v : V} {ls : List LY} {x y : Int} {ms : List MV} : ShAt K H v ls x y ms → Dg K fx H b v (shD ls x y ms) := by
  rintro ⟨p, lv, wv, rfl, hp, ⟨pl, us, rfl, hq, pd⟩, hw⟩
  exact .tup hp (.cons (.tup hq (lays_dg pd)) (.cons hw.dg .nil))
theorem sh_true {ls : List LY} {x y : Int} {ms : List MV} (h : VLays ls) (hw : VWin x y ms) : isShD (shD ls x y ms) = true := by
  show isShD (.tuple [.tuple (ls.map lyD), winD x y ms]) = true
  rw [sh_eq ⟨by rw [List.length_map]; exact h.1, by rw [List.length_map]; exact h.2.1⟩, lays_true h.2.2, win_true hw]
  rfl
section
variable {P : Program} {w : World} {K : PySem.W.Frag} {mg : Str → Option Value} {base : Heap}
def sp_need_layer (K : PySem.W.Frag) (c : Nat → Addr) : Sp := fun vs H Q E => ∃ (fx : Hp) (b : Bool) (v : V) (d : PyData), vs = [v] ∧ Dg K fx H b v d ∧ (isLayD d = true → ∀ H', Same H H' → Q .non H') ∧ (isLayD d = false → ∀ H', Same H H' → E (.ref (c 0)) none H')
theorem ok_need_layer {f : Addr} {fd : FuncData} {c : Nat → Addr} {LE : Addr} (F : Fun K "need_layer" "need_layer" s_need_layer f fd) (T : Txt K mg) (TX : ExcN K mg c LE) (D_is_layer : Cl P w K mg base 5 "is_layer" ["thing"] (sp_is_layer K)) : FnOk P w K mg base (L2.CX P w) 6 f fd ["thing"] (sp_need_layer K c) := by
  refine F.okX sc_need_layer (fun vs H Q E h => ?_) (fun cdv A outer s H vs Q E hr h => ?_)
  · obtain ⟨fx, b, v, d, rfl, _⟩ := h
    rfl
  · obtain ⟨fx, b, v, d, rfl, hd, q1, q2⟩ := h
    refine ⟨_, (pss_one (ps_if (pt_not (pt_val (pe_own D_is_layer (hr.mono (by omega)) (by rfl) (pa_cons (pv 0) pa_nil)))) (pss_one (ps_raise rfl (takes_of rfl rfl rfl rfl) (pmk_own PySem.F.excBase_ValueError (TX.nw 0 (by decide)) (TX.g 0 "NoLayer" rfl) (TX.kp 0 (by decide)) (TX.rs (i := 0) (by decide)) rfl))) pss_nil)), ?_⟩
    refine ⟨_, rfl, fx, b, v, d, rfl, hd, fun H1 s1 => ⟨_, rfl, ?_⟩⟩
    cases e : isLayD d with
    | true => exact iteF (q1 e _ s1)
    | false => exact iteT (q2 e _ s1)
def sp_need_number (K : PySem.W.Frag) (c : Nat → Addr) : Sp := fun vs H Q E => ∃ (fx : Hp) (b : Bool) (v : V) (d : PyData) (l m : Int), vs = [v, .int l, .int m] ∧ l.natAbs ≤ 1000000000 ∧ m.natAbs ≤ 1000000000 ∧ Dg K fx H b v d ∧ (isW d l m = true → Q .non H) ∧ (isW d l m = false → E (.ref (c 5)) none H)
theorem ok_need_number {f : Addr} {fd : FuncData} {c : Nat → Addr} {LE : Addr} (F : Fun K "need_number" "need_number" s_need_number f fd) (T : Txt K mg) (TX : ExcN K mg c LE) (D_is_whole : Cl P w K mg base 2 "is_whole" ["thing", "least", "most"] (sp_is_whole K)) : FnOk P w K mg base (L2.CX P w) 3 f fd ["thing", "least", "most"] (sp_need_number K c) := by
  refine F.okX sc_need_number (fun vs H Q E h => ?_) (fun cdv A outer s H vs Q E hr h => ?_)
  · obtain ⟨fx, b, v, d, l, m, rfl, _⟩ := h
    rfl
  · obtain ⟨fx, b, v, d, l, m, rfl, hl, hm, hd, q1, q2⟩ := h
    refine ⟨_, (pss_one (ps_if (pt_not (pt_val (pe_own D_is_whole (hr.mono (by omega)) (by rfl) (pa_cons (pv 0) (pa_cons (pv 1) (pa_cons (pv 2) pa_nil)))))) (pss_one (ps_raise rfl (takes_of rfl rfl rfl rfl) (SkE.pmk_own1 PySem.F.excBase_ValueError (TX.nw 5 (by decide)) (TX.g 5 "NoNumber" rfl) (TX.kp 5 (by decide)) (TX.rs (i := 5) (by decide)) (by rfl) (pe_joined (.cons pe_str (.cons (pe_fmt (pv 1)) (.cons pe_str (.cons (pe_fmt (pv 2)) (.cons pe_str .nil))))))))) pss_nil)), ?_⟩
    refine ⟨_, rfl, _, rfl, _, rfl, fx, b, v, d, l, m, rfl, hd, _, rfl, ?_⟩
    cases e : isW d l m with
    | true => exact iteF (q1 e)
    | false =>
      refine iteT ?_
      have A1 := js_len (a := Str.empty) (b := "a whole number from ") (m := 0) (n := 60) (by decide) (by decide +kernel)
      have A2 := js_len A1 (it_len hl).1
      have A3 := js_len A2 (b := " to ") (n := 60) (by decide +kernel)
      have A4 := js_len A3 (it_len hm).1
      have A5 := js_len A4 (b := " is needed") (n := 60) (by decide +kernel)
      exact ⟨_, rfl, js_ok A1 (by decide), _, rfl, .inr ⟨_, rfl, (it_len hl).2, _, rfl, js_ok A2 (by decide), _, rfl, js_ok A3 (by decide), _, rfl, .inr ⟨_, rfl, (it_len hm).2, _, rfl, js_ok A4 (by decide), _, rfl, js_ok A5 (by decide), q2 e⟩⟩⟩
end

section
variable {P : Program} {w : World} {K : PySem.W.Frag} {mg : Str → Option Value} {base : Heap}
def sp_TooMany_init (c : Nat → Addr) (K : PySem.W.Frag) : Sp := fun vs H Q _ => ∃ (a : Addr) (m n : V), vs = [.ref a, m, n] ∧ OexC K (c 14) ∧ PySem.W.findIn K (.ref (c 14)) "many" = some none ∧ PySem.W.findIn K (.ref (c 14)) "most" = some none ∧ H a = some (exo a (c 14) none) ∧
  ∀ H' d, H' a = some (exo a (c 14) (some d)) → H' d = some (exd d [("most", n), ("many", m)]) → H d = none → (∀ b o, b ≠ a → H b = some o → H' b = some o) → Q .non H'
theorem ok_TooMany_init {f : Addr} {fd : FuncData} {c : Nat → Addr} (F : Fun K "__init__" "TooMany.__init__" s_TooMany_init f fd) : FnOk P w K mg base CX0 1 f fd ["self", "many", "most"] (sp_TooMany_init c K) := by
  refine F.ok sc_TooMany_init (fun vs H Q E h => ?_) (fun cdv A outer s H vs Q E hr h => ?_)
  · obtain ⟨a, m, n, rfl, _⟩ := h
    rfl
  · obtain ⟨a, m, n, rfl, o, f1, f2, ha, q⟩ := h
    refine ⟨_, (pss_cons (ps_ost (pv 0) (pv 1))
      (pss_one (ps_ost (pv 0) (pv 2)))), ?_⟩
    refine ⟨_, rfl, _, rfl, a, c 14, rfl, o, f1, .inl ⟨ha, fun d nd da => ?_⟩⟩
    refine ⟨_, rfl, _, rfl, a, c 14, rfl, o, f2, .inr ⟨d, [("many", m)], upd_same, ?_, (by show 1 ≤ 900; decide), ?_⟩⟩
    · rw [upd_ne da, upd_same]
    · refine q _ d ?_ upd_same nd fun b o' hb e => ?_
      · rw [upd_ne (Ne.symm da), upd_same]
      · rw [upd_ne (ne_of_none e nd), upd_ne hb, upd_ne (ne_of_none e nd)]
        exact e
def sp_need_at_most (K : PySem.W.Frag) (c : Nat → Addr) : Sp := fun vs H Q E => ∃ m n : Int, vs = [.int m, .int n] ∧ (m ≤ n → Q .non H) ∧ (n < m → ∀ H' d, Same H H' → H d = none → H' d = some (.xd [("most", .int n), ("many", .int m)]) → E (.ref (c 14)) (some d) H')
theorem ok_need_at_most {f : Addr} {fd : FuncData} {c : Nat → Addr} {LE : Addr} (F : Fun K "need_at_most" "need_at_most" s_need_at_most f fd) (T : Txt K mg) (TX : ExcN K mg c LE) (TI : IniT P w K mg base (c 14) 3 (sp_TooMany_init c K)) : FnOk P w K mg base (L2.CX P w) 3 f fd ["many", "most"] (sp_need_at_most K c) := by
  refine F.okX sc_need_at_most (fun vs H Q E h => ?_) (fun cdv A outer s H vs Q E hr h => ?_)
  · obtain ⟨m, n, rfl, _⟩ := h
    rfl
  · obtain ⟨m, n, rfl, q1, q2⟩ := h
    refine ⟨_, (pss_one (ps_if (pt_cmpR op_gt (pv 0) (pv 1) (nomark _)) (pss_one (ps_raise rfl (takes_of rfl rfl rfl rfl) (pmk_init TI (hr.mono (by omega)) (by rfl) (TX.g 14 "TooMany" rfl) (pa_cons (pv 0) (pa_cons (pv 1) pa_nil))))) pss_nil)), ?_⟩
    refine ⟨_, rfl, _, rfl, m, n, rfl, rfl, _, rfl, ite2 (fun e => ?_) (fun e => ?_)⟩
    · have e1 : n < m := of_decide_eq_true e
      obtain ⟨_, _, _, ox, _⟩ := TI.ex
      refine ⟨_, rfl, _, rfl, (by show 2 ≤ 1000; decide), fun a na => ⟨a, _, _, rfl, ox, TX.n1, TX.n2, upd_same, fun H' d e1' e2' nd hk => ⟨rfl, d, _, e1', e2', ?_, ?_⟩⟩⟩
      · have : d ≠ a := fun z => by rw [z, upd_same] at nd; cases nd
        rw [upd_ne this] at nd
        exact nd
      · have da : d ≠ a := fun z => by rw [z, upd_same] at nd; cases nd
        have nd' : H d = none := by rw [upd_ne da] at nd; exact nd
        refine q2 e1 _ d (fun b o hb => ?_) nd' upd_same
        have ba : b ≠ a := ne_of_none hb na
        rw [upd_ne (ne_of_none hb nd'), del_ne ba]
        exact hk b o ba (by rw [upd_ne ba]; exact hb)
    · exact q1 (by have := of_decide_eq_false (Bool.eq_false_iff.mpr e); omega)
end

section
variable {P : Program} {w : World} {K : PySem.W.Frag} {mg : Str → Option Value} {base : Heap}
def sp_drawings_of (K : PySem.W.Frag) : Sp := fun vs H Q _ => ∃ (v : V) (rs : List RW), vs = [v] ∧ RowsAt K H v rs ∧ VRows rs ∧ ∀ H' p, Same H H' → H p = none → H' p = some (.lst ((dwg rs).map V.int)) → Q (.ref p) H'
theorem ok_drawings_of {f : Addr} {fd : FuncData} (F : Fun K "drawings_of" "drawings_of" s_drawings_of f fd) (T : Txt K mg) : FnOk P w K mg base CX0 1 f fd ["rows"] (sp_drawings_of K) := by
  refine F.ok sc_drawings_of (fun vs H Q E h => ?_) (fun cdv A outer s H vs Q E hr h => ?_)
  · obtain ⟨v, rs, rfl, _⟩ := h
    rfl
  · obtain ⟨v, rs, rfl, ⟨pr, vs, rfl, hq, pd⟩, ⟨v8, vr⟩, q⟩ := h
    have hl : vs.length = rs.length := Paired.length pd
    refine ⟨_, (pss_one (ps_ret (pe_lc2 (own := [("drawing", 1), ("hold", 2), ("turn", 3)]) (vs1 := [3]) (g := (gTup _ 2 (gCons (gName 1) (gCons (gName 2) gNil)))) (g1 := (gName 3)) (tt := tYes) (tt1 := tYes) (by rfl) sc_drawings_of.nd (pi_tup (pv 0)) (blkOk_by (own := [("drawing", 1), ("hold", 2), ("turn", 3)]) (N := ["rows", "drawing", "hold", "turn"]) (sc := defScope s_drawings_of) (by decide +kernel)) (by decide) (fun _ _ _ _ _ => (pg_tup (by rfl) (pgs_cons (pg_name (i := 1) sc_drawings_of.nd rfl (Or.inl rfl)) (pgs_cons (pg_name (i := 2) sc_drawings_of.nd rfl (Or.inl rfl)) pgs_nil)))) (fun _ _ _ _ _ => pts_nil) (fun _ _ _ _ _ => (pi_range1 (by rfl) T.b_range (pa_cons (pv 2) pa_nil))) (fun _ _ _ _ _ => (pg_name (i := 3) sc_drawings_of.nd rfl (Or.inl rfl))) (fun _ _ _ _ _ => pts_nil) (fun _ _ _ _ _ => (pv 1))))), ?_⟩
    refine ⟨_, rfl, pr, rfl, ⟨_, hq⟩, fun D hD => ?_⟩
    refine wk_tup (K := K) (a := pr) (xs := vs) (fun i H' => Same H H' ∧ H' D = some (.lst ((dwg (rs.take i)).map V.int))) ⟨same_upd hD, upd_same⟩ (fun i H' _ z => Same.sqT z.1 hq) (fun i x H1 hx p1 => ?_) (fun H1 p1 => ?_)
    · obtain ⟨s1, e1⟩ := p1
      obtain ⟨r, hr1, p, rfl, hrow⟩ := Paired.at pd hx
      have vr1 := vr r (List.mem_of_getElem? hr1)
      obtain ⟨_, _, v3, v4⟩ := vr1
      have hi : i < rs.length := (List.getElem?_eq_some_iff.mp hr1).1
      have dl : (dwg (rs.take i)).length ≤ 192 := by
        have h := dwg_len (rs := rs.take i) fun r hr => vr r (List.mem_of_mem_take hr)
        have t := (tot_nonneg (rs := rs.take i) fun r hr => vr r (List.mem_of_mem_take hr)).2
        rw [List.length_take] at t
        omega
      refine ⟨p, _, rfl, Same.sqT s1 hrow, rfl, _, _, rfl, _, _, rfl, rfl, rfl, yes_ok2 ?_⟩
      refine ⟨_, rfl, r.2, rfl, by omega, by omega, ?_⟩
      refine wk_range (lo := 0) (n := r.2.toNat) (fun j H' => Same H H' ∧ H' D = some (.lst ((dwg (rs.take i) ++ List.replicate j r.1).map V.int))) ⟨s1, by rw [List.replicate_zero, List.append_nil]; exact e1⟩ (fun j H2 hj p2 => ?_) (fun H2 p2 => ?_)
      · obtain ⟨s2, e2⟩ := p2
        refine ⟨rfl, yes_ok ⟨_, rfl, _, e2, ?_, fun b o e => ?_, ?_⟩⟩
        · rw [List.length_map, List.length_append, List.length_replicate]
          exact small1000 (by omega)
        · rw [upd_ne (ne_of_none e hD)]
          exact s2 _ _ e
        · rw [upd_same, List.replicate_succ', ← List.append_assoc, List.map_append (l₂ := [r.1])]
          rfl
      · obtain ⟨s2, e2⟩ := p2
        refine ⟨s2, ?_⟩
        rw [e2, List.take_add_one, hr1, dwg_append]
        show some (HO.lst (((dwg (rs.take i)) ++ List.replicate r.2.toNat r.1).map V.int)) = some (.lst ((dwg (rs.take i) ++ (List.replicate r.2.toNat r.1 ++ [])).map V.int))
        rw [List.append_nil]
    · obtain ⟨s1, e1⟩ := p1
      rw [List.take_of_length_le (by omega)] at e1
      exact q _ D s1 hD e1
def sp_ahead_and_around (K : PySem.W.Frag) : Sp := fun vs H Q _ => ∃ (v : V) (rs : List RW) (bk : Option Int), vs = [v] ∧ LayAt K H v rs bk ∧ VRows rs ∧ VBack rs bk ∧
  ∀ H' p a b, Same H H' → SqT K H' p [.ref a, .ref b] → H a = none → H b = none → H' a = some (.lst ((ahL rs bk).map V.int)) → H' b = some (.lst ((arL rs bk).map V.int)) → Q (.ref p) H'
theorem ok_ahead_and_around {f : Addr} {fd : FuncData} (F : Fun K "ahead_and_around" "ahead_and_around" s_ahead_and_around f fd) (T : Txt K mg) (D_drawings_of : Cl P w K mg base 1 "drawings_of" ["rows"] (sp_drawings_of K)) : FnOk P w K mg base CX0 2 f fd ["layer"] (sp_ahead_and_around K) := by
  refine F.ok sc_ahead_and_around (fun vs H Q E h => ?_) (fun cdv A outer s H vs Q E hr h => ?_)
  · obtain ⟨v, rs, bk, rfl, _⟩ := h
    rfl
  · obtain ⟨v, rs, bk, rfl, ⟨p, rv, rfl, hp, pr, vs, rfl, hq, pd⟩, vR, vb, q⟩ := h
    have hl : vs.length = rs.length := Paired.length pd
    refine ⟨_, (pss_cons (ps_asg (pv 0) (pg_tup (by rfl) (pgs_cons (pg_name (i := 1) sc_ahead_and_around.nd rfl (Or.inl rfl)) (pgs_cons (pg_name (i := 2) sc_ahead_and_around.nd rfl (Or.inl rfl)) pgs_nil))))
      (pss_cons (ps_if (pt_cmpR op_isN (pv 2) pe_non (nomark _)) (pss_one (ps_ret (pe_tup (pa_cons (pe_own D_drawings_of (hr.mono (by omega)) (by rfl) (pa_cons (pv 1) pa_nil)) (pa_cons (pe_lst (pa_cons pe_int pa_nil)) pa_nil))))) pss_nil)
      (pss_one (ps_ret (pe_tup (pa_cons (pe_own D_drawings_of (hr.mono (by omega)) (by rfl) (pa_cons (pe_slice sl_tupA (pv 1) po_none (po_some (pv 2))) pa_nil)) (pa_cons (pe_own D_drawings_of (hr.mono (by omega)) (by rfl) (pa_cons (pe_slice sl_tupA (pv 1) (po_some (pv 2)) po_none) pa_nil)) pa_nil))))))), ?_⟩
    refine ⟨_, rfl, p, _, rfl, hp, rfl, _, _, rfl, _, _, rfl, rfl, ?_⟩
    refine ⟨_, rfl, rfl, _, rfl, ?_⟩
    cases bk with
    | none =>
      refine ite2 (fun _ => ?_) (fun e => absurd (decide_eq_true rfl) e)
      refine ⟨_, rfl, _, rs, rfl, ⟨pr, vs, rfl, hq, pd⟩, vR, fun H1 A s1 nA eA => ?_⟩
      refine ⟨(by show 1 ≤ sizeLine; decide), fun B nB => ?_⟩
      obtain ⟨s2, e2⟩ := new_at (.lst [.int 0]) nB
      refine ⟨(by show 2 ≤ sizeLine; decide), fun T nT => ?_⟩
      have s3 := same_upd (o := .tup [.ref A, .ref B]) nT
      exact q _ T A B ((s1.trans s2).trans s3) (.inl (.inl upd_same)) nA (s1.free nB) (s3 _ _ (s2 _ _ eA)) (s3 _ _ e2)
    | some b =>
      refine ite2 (fun e => nomatch (of_decide_eq_true e)) (fun _ => ?_)
      have hb := vb b rfl
      obtain ⟨k, rfl⟩ : ∃ k : Nat, b = (k : Int) := ⟨b.toNat, by omega⟩
      refine ⟨_, rfl, _, rfl, _, rfl, sl_rows (rs.take k) hq (by rw [cut_to]; exact Paired.takeP k pd) (fun H1 v1 s1 h1 => ?_)⟩
      refine ⟨v1, rs.take k, rfl, h1, vR.takeV k, fun H2 A s2 nA eA => ?_⟩
      have pd2 : Paired (RowAt K H2) vs rs := Paired.mono pd fun _ _ => RowAt.keep (Same.tk (s1.trans s2))
      have hq2 := Same.sqT (s1.trans s2) hq
      refine ⟨_, rfl, _, rfl, _, rfl, ?_⟩
      dsimp only [tNoPart]
      refine sl_rows (rs.drop k) hq2 (by rw [cut_from]; exact Paired.dropP k pd2) (fun H3 v3 s3 h3 => ?_)
      refine ⟨v3, rs.drop k, rfl, h3, vR.dropV k, fun H4 B s4 nB eB => ?_⟩
      refine ⟨(by show 2 ≤ sizeLine; decide), fun T nT => ?_⟩
      have s5 := same_upd (o := .tup [.ref A, .ref B]) nT
      exact q _ T A B ((((s1.trans s2).trans s3).trans s4).trans s5) (.inl (.inl upd_same)) (s1.free nA) (((s1.trans s2).trans s3).free nB) (s5 _ _ (s4 _ _ (s3 _ _ eA))) (s5 _ _ eB)
def sp_first_drawings (K : PySem.W.Frag) : Sp := fun vs H Q _ => ∃ (v : V) (rs : List RW) (bk : Option Int) (n : Int), vs = [v, .int n] ∧ LayAt K H v rs bk ∧ VRows rs ∧ VBack rs bk ∧ 0 ≤ n ∧ n ≤ 1000 ∧
  ∀ H' p, Same H H' → H p = none → H' p = some (.lst (lays rs bk n.toNat)) → Q (.ref p) H'
theorem ok_first_drawings {f : Addr} {fd : FuncData} (F : Fun K "first_drawings" "first_drawings" s_first_drawings f fd) (T : Txt K mg) (D_ahead_and_around : Cl P w K mg base 2 "ahead_and_around" ["layer"] (sp_ahead_and_around K)) : FnOk P w K mg base CX0 3 f fd ["layer", "many"] (sp_first_drawings K) := by
  refine F.ok sc_first_drawings (fun vs H Q E h => ?_) (fun cdv A outer s H vs Q E hr h => ?_)
  · obtain ⟨v, rs, bk, n, rfl, _⟩ := h
    rfl
  · obtain ⟨v, rs, bk, n, rfl, hL, vR, vb, n0, n1, q⟩ := h
    obtain ⟨m, rfl⟩ : ∃ m : Nat, n = (m : Int) := ⟨n.toNat, by omega⟩
    have la := ahL_len (bk := bk) vR
    have lr := arL_len vR vb
    refine ⟨_, (pss_cons (ps_asg (pe_own D_ahead_and_around (hr.mono (by omega)) (by rfl) (pa_cons (pv 0) pa_nil)) (pg_tup (by rfl) (pgs_cons (pg_name (i := 2) sc_first_drawings.nd rfl (Or.inl rfl)) (pgs_cons (pg_name (i := 3) sc_first_drawings.nd rfl (Or.inl rfl)) pgs_nil))))
      (pss_cons (ps_set (i := 4) sc_first_drawings.nd rfl (Or.inl rfl) (pe_op op_add (pe_op op_fdivN (pe_callB (call_max2 rfl) (by rfl) T.b_max (by decide +kernel) (pa_cons pe_int (pa_cons (pe_op op_sub (pv 1) (pe_callB call_len_seq (by rfl) T.b_len (by decide +kernel) (pa_cons (pv 2) pa_nil))) pa_nil))) (pe_callB call_len_seq (by rfl) T.b_len (by decide +kernel) (pa_cons (pv 3) pa_nil))) pe_int))
      (pss_one (ps_ret (pe_slice sl_list (pe_op op_cat (pv 2) (pe_op op_rep (pv 3) (pv 4))) po_none (po_some (pv 1))))))), ?_⟩
    refine ⟨_, rfl, v, rs, bk, rfl, hL, vR, vb, fun H1 T A B s1 hT nA nB eA eB => ?_⟩
    refine ⟨T, _, rfl, hT, rfl, _, _, rfl, _, _, rfl, rfl, ?_⟩
    refine ⟨_, rfl, _, rfl, A, _, rfl, .inl (.inl (.inl eA)), _, _, rfl, rfl, _, _, rfl, _, rfl, B, _, rfl, .inl (.inl (.inl eB)), _, _, rfl, rfl, ⟨?_, ?_⟩, _, _, rfl, rfl, ?_⟩
    · rw [List.length_map]
      omega
    · rw [List.length_map]
      omega
    rw [List.length_map, List.length_map]
    obtain ⟨t, ht, ht1, ht2⟩ : ∃ t : Nat, (if (m : Int) - ((ahL rs bk).length : Int) > 0 then (m : Int) - ((ahL rs bk).length : Int) else 0).fdiv ((arL rs bk).length : Int) + 1 = (t : Int) ∧ t ≤ 1001 ∧ m ≤ (ahL rs bk).length + t * (arL rs bk).length := by
      generalize hx : (if (m : Int) - ((ahL rs bk).length : Int) > 0 then (m : Int) - ((ahL rs bk).length : Int) else 0) = x
      obtain ⟨y, rfl⟩ : ∃ y : Nat, x = (y : Int) := ⟨x.toNat, by split at hx <;> omega⟩
      have hy : m ≤ (ahL rs bk).length + y ∧ y ≤ 1000 := by split at hx <;> omega
      refine ⟨y / (arL rs bk).length + 1, ?_, ?_, ?_⟩
      · rw [Int.fdiv_eq_ediv_of_nonneg _ (by omega)]
        rfl
      · have := Nat.div_le_self y (arL rs bk).length
        omega
      · rw [Nat.add_mul, Nat.one_mul]
        have := Nat.lt_div_mul_add (show 0 < (arL rs bk).length by omega) (a := y)
        omega
    dsimp only [gName]
    rw [ht]
    refine ⟨_, rfl, _, rfl, _, rfl, B, _, _, rfl, rfl, eB, by omega, by omega, ?_, fun p2 np2 => ?_⟩
    · rw [List.length_map, Int.toNat_natCast]
      exact Nat.le_trans (Nat.mul_le_mul lr.2 ht1) (by decide)
    obtain ⟨s2, e2⟩ := new_at (.lst (List.replicate ((t : Int)).toNat ((arL rs bk).map V.int)).flatten) np2
    generalize upd H1 p2 (.lst (List.replicate ((t : Int)).toNat ((arL rs bk).map V.int)).flatten) = H2 at s2 e2 ⊢
    have ef : (List.replicate ((t : Int)).toNat ((arL rs bk).map V.int)).flatten = ((List.replicate t (arL rs bk)).flatten).map V.int := by
      rw [Int.toNat_natCast, List.map_flatten, List.map_replicate]
    rw [ef] at e2
    have fl : ((List.replicate t (arL rs bk)).flatten).length ≤ 1001 * 192 := by
      rw [List.length_flatten, List.map_replicate, List.sum_replicate_nat]
      exact Nat.mul_le_mul ht1 lr.2
    refine ⟨A, p2, _, _, rfl, rfl, s2 _ _ eA, e2, ?_, fun p3 np3 => ?_⟩
    · rw [List.length_map, List.length_map]
      exact Nat.le_trans (Nat.add_le_add la fl) (by decide)
    obtain ⟨s3, e3⟩ := new_at (.lst ((ahL rs bk).map V.int ++ ((List.replicate t (arL rs bk)).flatten).map V.int)) np3
    refine ⟨_, rfl, _, rfl, p3, _, rfl, .inl (.inl e3), fun p4 np4 => ?_⟩
    refine q _ p4 (((s1.trans s2).trans s3).trans (same_upd np4)) (((s1.trans s2).trans s3).free np4) ?_
    rw [upd_same, cut_to, ← List.map_append, ← List.map_take, first_lay vR vb ht2, laysI_map]
    rfl
end

section
variable {P : Program} {w : World} {K : PySem.W.Frag} {mg : Str → Option Value} {base : Heap}
def sp_laid (K : PySem.W.Frag) (c : Nat → Addr) : Sp := fun vs H Q E => ∃ (v : V) (rs : List RW) (bk : Option Int) (n : Int), vs = [v, .int n] ∧ LayAt K H v rs bk ∧ VRows rs ∧ VBack rs bk ∧ 0 ≤ n ∧ n ≤ 200 ∧
  ∀ H' p, Same H H' → H p = none → H' p = some (.lst (lays rs bk n.toNat)) → Q (.ref p) H'
theorem ok_laid {f : Addr} {fd : FuncData} {c : Nat → Addr} {LE : Addr} (F : Fun K "laid" "laid" s_laid f fd) (T : Txt K mg) (TX : ExcN K mg c LE) (D_need_layer : ClX P w K mg base 6 "need_layer" ["thing"] (sp_need_layer K c)) (D_need_number : ClX P w K mg base 3 "need_number" ["thing", "least", "most"] (sp_need_number K c)) (D_first_drawings : Cl P w K mg base 3 "first_drawings" ["layer", "many"] (sp_first_drawings K)) : FnOk P w K mg base (L2.CX P w) 7 f fd ["layer", "many"] (sp_laid K c) := by
  refine F.okX sc_laid (fun vs H Q E h => ?_) (fun cdv A outer s H vs Q E hr h => ?_)
  · obtain ⟨v, rs, bk, n, rfl, _⟩ := h
    rfl
  · obtain ⟨v, rs, bk, n, rfl, hL, vR, vb, n0, n1, q⟩ := h
    refine ⟨_, (pss_cons (ps_expr (pe_ownX D_need_layer (hr.mono (by omega)) (takes_of rfl rfl rfl rfl) (by rfl) (pa_cons (pv 0) pa_nil)))
      (pss_cons (ps_expr (pe_ownX D_need_number (hr.mono (by omega)) (takes_of rfl rfl rfl rfl) (by rfl) (pa_cons (pv 1) (pa_cons pe_int (pa_cons (pe_gint (by rfl) T.c_MOST_PICTURES) pa_nil)))))
      (pss_one (ps_ret (pe_own D_first_drawings (hr.mono (by omega)) (by rfl) (pa_cons (pv 0) (pa_cons (pv 1) pa_nil))))))), ?_⟩
    refine ⟨_, rfl, H, true, v, _, rfl, LyAt.dg (l := (rs, bk)) hL, fun _ H1 s1 => ?_, fun z => absurd (lay_true (l := (rs, bk)) ⟨vR, vb⟩) (by rw [z]; decide)⟩
    have eW : isW (.int n) 0 200 = true := by
      show decide (0 ≤ n ∧ n ≤ 200) = true
      exact decide_eq_true ⟨n0, n1⟩
    refine ⟨_, rfl, H, true, .int n, .int n, 0, 200, rfl, by decide, by decide, .int n, fun _ => ?_, fun z => absurd eW (by rw [z]; decide)⟩
    exact ⟨_, rfl, _, rfl, v, rs, bk, n, rfl, hL.keep (Same.tk s1), vR, vb, n0, by omega, fun H2 p s2 np e => q _ p (s1.trans s2) (s1.free np) e⟩
end

section
variable {P : Program} {w : World} {K : PySem.W.Frag} {mg : Str → Option Value} {base : Heap}
def IsDrw (xs : List Int) : Prop := ∀ x ∈ xs, 0 ≤ x ∧ x ≤ 9
/-- things that are no lists of drawings -/
def BadD (K : PySem.W.Frag) (H : Hp) (v : V) : Prop :=
  (∃ a xs, v = .ref a ∧ SqT K H a xs) ∨ (∃ x, v = .str x) ∨ v = .non ∨ (∃ i, v = .int i) ∨ (∃ a kvs, v = .ref a ∧ H a = some (.dK kvs)) ∨ (∃ a xs, v = .ref a ∧ H a = some (.lst xs) ∧ 200 < xs.length) ∨
  ∃ a xs ds, v = .ref a ∧ H a = some (.lst xs) ∧ DgAll K (fun _ => some (.tup [])) H true xs ds ∧ (ds.all fun d => isW d 0 9) = false
theorem BadD.sm {K : PySem.W.Frag} {H H' : Hp} {v : V} (k : TKeep K H H') (kl : ∀ a o, v = .ref a → (∀ xs, o ≠ .tup xs) → (∀ ps, o ≠ .tbl ps) → H a = some o → H' a = some o) : BadD K H v → BadD K H' v
  | .inl ⟨a, xs, e, h⟩ => .inl ⟨a, xs, e, k _ _ h⟩
  | .inr (.inl h) => .inr (.inl h)
  | .inr (.inr (.inl h)) => .inr (.inr (.inl h))
  | .inr (.inr (.inr (.inl h))) => .inr (.inr (.inr (.inl h)))
  | .inr (.inr (.inr (.inr (.inl ⟨a, kvs, e, h⟩)))) => .inr (.inr (.inr (.inr (.inl ⟨a, kvs, e, kl a _ e (fun _ z => nomatch z) (fun _ z => nomatch z) h⟩))))
  | .inr (.inr (.inr (.inr (.inr (.inl ⟨a, xs, e, h, l⟩))))) => .inr (.inr (.inr (.inr (.inr (.inl ⟨a, xs, e, kl a _ e (fun _ z => nomatch z) (fun _ z => nomatch z) h, l⟩)))))
  | .inr (.inr (.inr (.inr (.inr (.inr ⟨a, xs, ds, e, h, hd, l⟩))))) => .inr (.inr (.inr (.inr (.inr (.inr ⟨a, xs, ds, e, kl a _ e (fun _ z => nomatch z) (fun _ z => nomatch z) h, hd.kp k (fun b o z => by cases z), l⟩)))))
def sp_are_drawings (K : PySem.W.Frag) : Sp := fun vs H Q _ => ∃ v : V, vs = [v] ∧ ((∃ (p : Addr) (xs : List Int), v = .ref p ∧ SqL K H p (xs.map V.int) ∧ IsDrw xs ∧ xs.length ≤ 200 ∧ ∀ H', Same H H' → Q (.bl true) H') ∨ (BadD K H v ∧ ∀ H', Same H H' → Q (.bl false) H'))
theorem ok_are_drawings {f : Addr} {fd : FuncData} (F : Fun K "are_drawings" "are_drawings" s_are_drawings f fd) (T : Txt K mg) (D_is_drawing : Cl P w K mg base 3 "is_drawing" ["thing"] (sp_is_drawing K)) : FnOk P w K mg base CX0 4 f fd ["thing"] (sp_are_drawings K) := by
  refine F.ok sc_are_drawings (fun vs H Q E h => ?_) (fun cdv A outer s H vs Q E hr h => ?_)
  · obtain ⟨v, rfl, _⟩ := h
    rfl
  · obtain ⟨v, rfl, h⟩ := h
    refine ⟨_, (pss_cons (ps_if (PW.pt (pw_or (pt_not (pt_val (pe_callB call_isi (by rfl) T.b_isinstance (by decide +kernel) (pa_cons (pv 0) (pa_cons (pe_bltn (v := .ty "list") (by rfl) T.b_list (by decide +kernel) rfl) pa_nil))))) (pw_or1 (pt_cmpR op_gt (pe_callB call_len_seq (by rfl) T.b_len (by decide +kernel) (pa_cons (pv 0) pa_nil)) (pe_gint (by rfl) T.c_MOST_PICTURES) (nomark _))))) (pss_one (ps_ret pe_bl)) pss_nil)
      (pss_one (ps_ret (pe_callB (cr_all rfl) (by rfl) T.b_all (by decide +kernel) (pa_cons (pe_lc (own := [("drawing", 1)]) (g := (gName 1)) (tt := tYes) (by rfl) sc_are_drawings.nd (pi_list (pv 0)) (blkOk_by (own := [("drawing", 1)]) (N := ["thing", "drawing"]) (sc := defScope s_are_drawings) (by decide +kernel)) (fun _ _ _ _ _ => (pg_name (i := 1) sc_are_drawings.nd rfl (Or.inl rfl))) (fun _ _ _ _ _ => pts_nil) (fun _ _ _ _ _ => (pe_own D_is_drawing (hr.mono (by omega)) (by rfl) (pa_cons (pv 1) pa_nil)))) pa_nil))))), ?_⟩
    rcases h with ⟨p, xs, rfl, hp, hx, hl, q⟩ | ⟨h, q⟩
    · refine ⟨_, rfl, _, _, _, _, true, rfl, .ty _, tyL hp, kit_ty (by decide +kernel), _, rfl, iteF ?_⟩
      refine ⟨_, rfl, p, _, rfl, .inl hp, _, 200, rfl, rfl, _, rfl, ?_⟩
      rw [List.length_map, decide_eq_false (show ¬ (xs.length : Int) > 200 by omega)]
      refine iteF ?_
      refine ⟨_, rfl, p, rfl, ⟨_, hp⟩, fun D hD => ?_⟩
      refine lcmap_list ((xs.map fun _ => true).map V.bl) (by simp) (by rw [List.length_map]; omega) hp hD (fun i x y H2 R Z hu hy s2 hR => ?_) (fun H2 s2 hL => ?_)
      · rw [List.getElem?_map] at hu
        obtain ⟨z, hz, rfl⟩ := Option.map_eq_some_iff.mp hu
        have ey : y = .bl true := by
          rw [List.map_map, List.getElem?_map, hz] at hy
          exact (Option.some.inj hy).symm
        subst ey
        refine ⟨rfl, yes_ok ⟨_, rfl, H, true, .int z, .int z, rfl, .int z, ?_⟩⟩
        have e : isW (.int z) 0 9 = true := decide_eq_true (hx z (List.mem_of_getElem? hz))
        rw [e]
        exact hR _ (Same.refl _)
      · refine ⟨D, _, rfl, .inl (.inl hL), ?_⟩
        rw [show ((xs.map fun _ => true).all id) = true by simp]
        exact q _ s2
    rcases h with ⟨a, xs, rfl, ha⟩ | ⟨x, rfl⟩ | rfl | ⟨i, rfl⟩ | ⟨a, kvs, rfl, ha⟩ | ⟨a, xs, rfl, ha, hl⟩ | ⟨a, xs, ds, rfl, ha, hd, hl⟩
    · exact ⟨_, rfl, _, _, _, _, false, rfl, .ty _, tyT ha, kit_ty (by decide +kernel), _, rfl, iteT (iteT (q _ (Same.refl _)))⟩
    · exact ⟨_, rfl, _, _, _, _, false, rfl, .ty _, .base (.str x), kit_ty (by decide +kernel), _, rfl, iteT (iteT (q _ (Same.refl _)))⟩
    · exact ⟨_, rfl, _, _, _, _, false, rfl, .ty _, .base .non, kit_ty (by decide +kernel), _, rfl, iteT (iteT (q _ (Same.refl _)))⟩
    · exact ⟨_, rfl, _, _, _, _, false, rfl, .ty _, .base (.int i), kit_ty (by decide +kernel), _, rfl, iteT (iteT (q _ (Same.refl _)))⟩
    · exact ⟨_, rfl, _, _, _, _, false, rfl, .ty _, .base (.dK ha), kit_ty (by decide +kernel), _, rfl, iteT (iteT (q _ (Same.refl _)))⟩
    · refine ⟨_, rfl, _, _, _, _, true, rfl, .ty _, .base (.lst ha), kit_ty (by decide +kernel), _, rfl, iteF ?_⟩
      refine ⟨_, rfl, a, _, rfl, .inl (.inl (.inl ha)), _, 200, rfl, rfl, _, rfl, ?_⟩
      rw [decide_eq_true (show (xs.length : Int) > 200 by omega)]
      exact iteT (q _ (Same.refl _))
    · refine ⟨_, rfl, _, _, _, _, true, rfl, .ty _, .base (.lst ha), kit_ty (by decide +kernel), _, rfl, iteF ?_⟩
      refine ⟨_, rfl, a, _, rfl, .inl (.inl (.inl ha)), _, 200, rfl, rfl, _, rfl, ite2 (fun _ => q _ (Same.refl _)) (fun e => ?_)⟩
      have l200 : xs.length ≤ 200 := by
        have : ¬ (xs.length : Int) > 200 := fun z => e (decide_eq_true z)
        omega
      have ld := DgAll.len hd
      refine ⟨_, rfl, a, rfl, ⟨_, .inl (.inl ha)⟩, fun D hD => ?_⟩
      refine lcmap_list ((ds.map fun d => isW d 0 9).map V.bl) (by simp [ld]) (by omega) (.inl (.inl ha)) hD (fun i x y H2 R Z hu hy s2 hR => ?_) (fun H2 s2 hL => ?_)
      · obtain ⟨d, hd1, hdg⟩ := DgAll.at hd hu
        have ey : y = .bl (isW d 0 9) := by
          rw [List.map_map, List.getElem?_map, hd1] at hy
          exact (Option.some.inj hy).symm
        subst ey
        exact ⟨rfl, yes_ok ⟨_, rfl, _, true, x, d, rfl, hdg.sm s2, hR _ (Same.refl _)⟩⟩
      · refine ⟨D, _, rfl, .inl (.inl hL), ?_⟩
        rw [List.all_map]
        have : (ds.all (id ∘ fun d => isW d 0 9)) = false := hl
        rw [this]
        exact q _ s2
theorem ixN_last {α : Type} {ws : List α} {v : α} : ixN (ws ++ [v]).length (-1) = some ws.length := by
  have hl : (ws ++ [v]).length = ws.length + 1 := by simp
  unfold ixN
  rw [if_neg (by omega), hl, if_pos (by omega)]
  congr 1
  omega
def sp_runs_of (K : PySem.W.Frag) : Sp := fun vs H Q _ => ∃ (p : Addr) (xs : List Int), vs = [.ref p] ∧ SqL K H p (xs.map V.int) ∧ xs.length ≤ 200 ∧ ∀ H' r us, Same H H' → H r = none → H' r = some (.lst us) → Paired (RowAt K H') us (runs xs) → Q (.ref r) H'
theorem runs_take {xs : List Int} {i : Nat} {x : Int} (h : xs[i]? = some x) : runs (xs.take (i + 1)) = rstep (runs (xs.take i)) x := by
  rw [List.take_add_one, h, ← runs_snoc]
  rfl
theorem runs_le (xs : List Int) : (runs xs).length ≤ xs.length := by
  refine snoc_ind (P := fun xs => (runs xs).length ≤ xs.length) (Nat.le_refl _) (fun ys y ih => ?_) xs
  rw [runs_snoc, List.length_append]
  rcases snoc_cases (runs ys) with h | ⟨qs, r, h⟩
  · rw [h, rstep_nil]
    show 1 ≤ ys.length + 1
    omega
  · rw [h] at ih ⊢
    rw [rstep_snoc]
    rw [List.length_append] at ih
    split
    · rw [List.length_append]
      show qs.length + 1 ≤ ys.length + 1
      have : qs.length + 1 ≤ ys.length := ih
      omega
    · rw [List.length_append, List.length_append]
      show qs.length + 1 + 1 ≤ ys.length + 1
      have : qs.length + 1 ≤ ys.length := ih
      omega
theorem ok_runs_of {f : Addr} {fd : FuncData} (F : Fun K "runs_of" "runs_of" s_runs_of f fd) (T : Txt K mg) : FnOk P w K mg base CX0 1 f fd ["drawings"] (sp_runs_of K) := by
  refine F.ok sc_runs_of (fun vs H Q E h => ?_) (fun cdv A outer s H vs Q E hr h => ?_)
  · obtain ⟨p, xs, rfl, _⟩ := h
    rfl
  · obtain ⟨p, xs, rfl, hp, hl, q⟩ := h
    refine ⟨_, (pss_cons (ps_set (i := 1) sc_runs_of.nd rfl (Or.inl rfl) (pe_lst pa_nil))
      (pss_cons (ps_for PassesOwn.never rfl (pi_list (pv 0)) (pg_name (i := 2) sc_runs_of.nd rfl (Or.inl rfl))
        (pss_one (ps_if (PW.pt (pw_and (pt_truth (pv 1) (by intro _; rfl)) (pw_and1 (pt_cmpR op_eq (pe_ix ix_tup (pe_ix ix_list (pv 1) (pe_un un_neg pe_int) (fun _ _ => rfl)) pe_int (fun _ _ => rfl)) (pv 2) (nomark _))))) (pss_one (ps_asg (pe_tup (pa_cons (pv 2) (pa_cons (pe_op op_add (pe_ix ix_tup (pe_ix ix_list (pv 1) (pe_un un_neg pe_int) (fun _ _ => rfl)) pe_int (fun _ _ => rfl)) pe_int) pa_nil))) (pg_sub (pv 1) (pe_un un_neg pe_int) set_list))) (pss_one (ps_expr (pe_bm PySem.F.plainAttrs_list PySem.F.slot_list_append PySem.F.type_list_append mt_append (pv 1) (pa_cons (pe_tup (pa_cons (pv 2) (pa_cons pe_int pa_nil))) pa_nil)))))))
      (pss_one (ps_ret (pv 1))))), ?_⟩
    refine ⟨Nat.zero_le _, fun R nR => ?_⟩
    obtain ⟨s0, e0⟩ := new_at (.lst []) nR
    generalize upd H R (.lst []) = H0 at s0 e0 ⊢
    refine ⟨_, rfl, p, rfl, ⟨_, s0.seq hp⟩, for_list (K := K) (a := p) (xs := xs.map V.int) (fun i σ H' => Same H H' ∧ ∃ (y : Option V) (us : List V), σ = [some (.ref p), some (.ref R), y] ∧ H' R = some (.lst us) ∧ Paired (RowAt K H') us (runs (xs.take i)))
      ⟨s0, _, [], rfl, e0, .nil⟩ (fun i σ H' _ z => z.1.seq hp) ?_ ?_⟩
    · rintro i u σ H1 hu ⟨s1, y, us, rfl, eR, pd⟩
      rw [List.getElem?_map] at hu
      obtain ⟨d, hd, rfl⟩ := Option.map_eq_some_iff.mp hu
      have hi : i < xs.length := (List.getElem?_eq_some_iff.mp hd).1
      have lus := Paired.length pd
      have ll := runs_le (xs.take i)
      rw [List.length_take] at ll
      have keepR : ∀ (H2 : Hp) (ws : List V), Same H1 H2 → Same H (upd H2 R (.lst ws)) := fun H2 ws s2 b o e => by
        rw [upd_ne (ne_of_none e nR)]
        exact s2 _ _ (s1 _ _ e)
      have app : ∀ (D : Hp → Prop), (∀ H' us', Same H H' → H' R = some (.lst us') → Paired (RowAt K H') us' (runs (xs.take i) ++ [(d, 1)]) → D H') →
          ∀ p2, H1 p2 = none → D (upd (upd H1 p2 (.tup [.int d, .int 1])) R (.lst (us ++ [.ref p2]))) := fun D hD p2 np2 => by
        have s2 := same_upd (o := .tup [.int d, .int 1]) np2
        have eR2 := s2 _ _ eR
        refine hD _ _ (keepR _ _ s2) upd_same (Paired.snocP (Paired.mono pd fun _ _ => RowAt.keep fun a zs h => tk_updL eR2 _ _ (Same.sqT s2 h)) ⟨p2, rfl, tk_updL eR2 _ _ (.inl (.inl upd_same))⟩)
      refine ⟨_, rfl, !us.isEmpty, .inl ⟨us, .inl (.inl eR), rfl⟩, ?_⟩
      rcases snoc_cases us with rfl | ⟨ws, lv, rfl⟩
      · have er : runs (xs.take i) = [] := by
          cases pd' : runs (xs.take i) with
          | nil => rfl
          | cons a t =>
            rw [pd'] at pd
            cases pd
        refine iteF ⟨_, rfl, .inl ⟨rfl, _, .inl (.inl eR)⟩, _, rfl, (by show 2 ≤ sizeLine; decide), fun p2 np2 => ⟨R, _, _, rfl, rfl, (same_upd np2) _ _ eR, (by show 0 < sizeLine; decide), ?_⟩⟩
        refine app _ (fun H' us' s' e' pd' => ⟨s', _, us', rfl, e', ?_⟩) p2 np2
        rw [runs_take hd, er]
        rw [er] at pd'
        exact pd'
      · rcases snoc_cases (runs (xs.take i)) with er | ⟨qs, r, er⟩
        · rw [er] at lus
          simp at lus
        · rw [er] at pd
          have hlq : ws.length = qs.length := by
            have := Paired.length pd
            rw [List.length_append, List.length_append] at this
            simpa using this
          obtain ⟨pd1, hlast⟩ : Paired (RowAt K H1) ws qs ∧ RowAt K H1 lv r := by
            have a1 := Paired.takeP ws.length pd
            rw [List.take_left', hlq, List.take_left' rfl] at a1
            · refine ⟨a1, ?_⟩
              obtain ⟨y2, hy2, hrow⟩ := Paired.at (i := ws.length) pd (List.getElem?_concat_length)
              rw [hlq, List.getElem?_concat_length] at hy2
              cases hy2
              exact hrow
            · rfl
          obtain ⟨lp, rfl, hlp⟩ := hlast
          have lastAt : atI (ws ++ [V.ref lp]) (-1) = some (.ref lp) := atI_last ..
          rw [show (!(ws ++ [V.ref lp]).isEmpty) = true by simp]
          refine iteT ⟨_, rfl, _, rfl, R, _, _, _, rfl, rfl, .inl (.inl eR), lastAt, lp, _, 0, _, rfl, rfl, hlp, rfl, _, rfl, rfl, _, rfl, ite2 (fun e => ?_) (fun e => ?_)⟩
          · have e1 : r.1 = d := V.int.inj (of_decide_eq_true e)
            refine ⟨_, rfl, _, rfl, _, rfl, R, _, _, _, rfl, rfl, .inl (.inl eR), lastAt, lp, _, 1, _, rfl, rfl, hlp, rfl, _, _, rfl, rfl, (by show 2 ≤ sizeLine; decide), fun p2 np2 => ?_⟩
            have s2 := same_upd (o := .tup [.int d, .int (r.2 + 1)]) np2
            have eR2 := s2 _ _ eR
            refine ⟨_, rfl, _, rfl, R, _, _, ws.length, rfl, rfl, eR2, ixN_last, ?_⟩
            rw [show (ws ++ [V.ref lp]).set ws.length (.ref p2) = ws ++ [.ref p2] by simp]
            refine ⟨keepR _ _ s2, _, ws ++ [.ref p2], rfl, upd_same, ?_⟩
            rw [runs_take hd, er, rstep_snoc, if_pos e1]
            exact Paired.snocP (Paired.mono pd1 fun _ _ => RowAt.keep fun a zs h => tk_updL eR2 _ _ (Same.sqT s2 h)) ⟨p2, rfl, tk_updL eR2 _ _ (.inl (.inl upd_same))⟩
          · have e1 : ¬ r.1 = d := fun z => e (decide_eq_true (by rw [z]))
            refine ⟨_, rfl, .inl ⟨rfl, _, .inl (.inl eR)⟩, _, rfl, (by show 2 ≤ sizeLine; decide), fun p2 np2 => ⟨R, _, _, rfl, rfl, (same_upd np2) _ _ eR, small1000 (by omega), ?_⟩⟩
            refine app _ (fun H' us' s' e' pd' => ⟨s', _, us', rfl, e', ?_⟩) p2 np2
            rw [runs_take hd, er, rstep_snoc, if_neg e1]
            rw [er] at pd'
            exact pd'
    · rintro σ H1 ⟨s1, y, us, rfl, eR, pd⟩
      rw [List.length_map, List.take_length] at pd
      exact ⟨_, rfl, q _ R us s1 nR eR pd⟩
end

section
variable {P : Program} {w : World} {K : PySem.W.Frag} {mg : Str → Option Value} {base : Heap}
def sp_rows_of_run (K : PySem.W.Frag) : Sp := fun vs H Q _ => ∃ d n : Int, vs = [.int d, .int n] ∧ 1 ≤ n ∧ n ≤ 200 ∧ ∀ H' r us, Same H H' → H r = none → H' r = some (.lst us) → Paired (RowAt K H') us (rrun d n) → Q (.ref r) H'
theorem ok_rows_of_run {f : Addr} {fd : FuncData} (F : Fun K "rows_of_run" "rows_of_run" s_rows_of_run f fd) (T : Txt K mg) : FnOk P w K mg base CX0 1 f fd ["drawing", "many"] (sp_rows_of_run K) := by
  refine F.ok sc_rows_of_run (fun vs H Q E h => ?_) (fun cdv A outer s H vs Q E hr h => ?_)
  · obtain ⟨d, n, rfl, _⟩ := h
    rfl
  · obtain ⟨d, n, rfl, n0, n1, q⟩ := h
    refine ⟨_, (pss_cons (ps_asg (pe_callB call_divmod (by rfl) T.b_divmod (by decide +kernel) (pa_cons (pe_op op_sub (pv 1) pe_int) (pa_cons (pe_gint (by rfl) T.c_MOST_HOLD) pa_nil))) (pg_tup (by rfl) (pgs_cons (pg_name (i := 2) sc_rows_of_run.nd rfl (Or.inl rfl)) (pgs_cons (pg_name (i := 3) sc_rows_of_run.nd rfl (Or.inl rfl)) pgs_nil))))
      (pss_one (ps_ret (pe_op op_cat (pe_lst (pa_cons (pe_tup (pa_cons (pv 0) (pa_cons (pe_op op_add (pv 3) pe_int) pa_nil))) pa_nil)) (pe_op op_rep (pe_lst (pa_cons (pe_tup (pa_cons (pv 0) (pa_cons (pe_gint (by rfl) T.c_MOST_HOLD) pa_nil))) pa_nil)) (pv 2)))))), ?_⟩
    refine ⟨_, rfl, _, _, rfl, rfl, _, 24, rfl, ⟨by decide, by decide⟩, fun p1 np1 => ?_⟩
    obtain ⟨s1, e1⟩ := new_at (.tup [.int ((n - 1) / 24), .int ((n - 1) % 24)]) np1
    generalize upd H p1 (.tup [.int ((n - 1) / 24), .int ((n - 1) % 24)]) = H1 at s1 e1 ⊢
    refine ⟨p1, _, rfl, .inl (.inl e1), rfl, _, _, rfl, _, _, rfl, rfl, ?_⟩
    refine ⟨_, rfl, _, rfl, _, _, rfl, rfl, (by show 2 ≤ sizeLine; decide), fun p2 np2 => ⟨(by show 1 ≤ sizeLine; decide), fun p3 np3 => ?_⟩⟩
    obtain ⟨s2, e2⟩ := new_at (.tup [.int d, .int ((n - 1) % 24 + 1)]) np2
    generalize upd H1 p2 (.tup [.int d, .int ((n - 1) % 24 + 1)]) = H2 at s2 e2 np3 ⊢
    obtain ⟨s3, e3⟩ := new_at (.lst [.ref p2]) np3
    generalize upd H2 p3 (.lst [.ref p2]) = H3 at s3 e3 ⊢
    refine ⟨_, rfl, (by show 2 ≤ sizeLine; decide), fun p4 np4 => ⟨(by show 1 ≤ sizeLine; decide), fun p5 np5 => ?_⟩⟩
    obtain ⟨s4, e4⟩ := new_at (.tup [.int d, .int 24]) np4
    generalize upd H3 p4 (.tup [.int d, .int 24]) = H4 at s4 e4 np5 ⊢
    obtain ⟨s5, e5⟩ := new_at (.lst [.ref p4]) np5
    generalize upd H4 p5 (.lst [.ref p4]) = H5 at s5 e5 ⊢
    refine ⟨_, rfl, p5, _, _, rfl, rfl, e5, by omega, by omega, ?_, fun p6 np6 => ?_⟩
    · show 1 * ((n - 1) / 24).toNat ≤ sizeLine
      exact Nat.le_of_lt (small1000 (by omega))
    obtain ⟨s6, e6⟩ := new_at (.lst (List.replicate ((n - 1) / 24).toNat [V.ref p4]).flatten) np6
    generalize upd H5 p6 (.lst (List.replicate ((n - 1) / 24).toNat [V.ref p4]).flatten) = H6 at s6 e6 ⊢
    have ef : (List.replicate ((n - 1) / 24).toNat [V.ref p4]).flatten = List.replicate ((n - 1) / 24).toNat (.ref p4) := by
      induction ((n - 1) / 24).toNat with
      | zero => rfl
      | succ k ih => rw [List.replicate_succ, List.replicate_succ, List.flatten_cons, ih]; rfl
    rw [ef] at e6
    have s36 := (s4.trans s5).trans s6
    refine ⟨p3, p6, _, _, rfl, rfl, s36 _ _ e3, e6, ?_, fun p7 np7 => ?_⟩
    · rw [List.length_replicate]
      show 1 + _ ≤ sizeLine
      exact Nat.le_of_lt (small1000 (by omega))
    have s7 := same_upd (o := .lst ([V.ref p2] ++ List.replicate ((n - 1) / 24).toNat (.ref p4))) np7
    have s17 := ((s1.trans s2).trans s3).trans (s36.trans s7)
    refine q _ p7 _ s17 ((((s1.trans s2).trans s3).trans s36).free np7) upd_same ?_
    refine Paired.appP (.cons ⟨p2, rfl, .inl (.inl (s7 _ _ (s36 _ _ (s3 _ _ e2))))⟩ .nil) ?_
    have rep : ∀ (k : Nat) (H7 : Hp), H7 p4 = some (.tup [.int d, .int 24]) → Paired (RowAt K H7) (List.replicate k (V.ref p4)) (List.replicate k (d, 24)) := fun k H7 h4 => by
      induction k with
      | zero => exact .nil
      | succ k ih => exact .cons ⟨p4, rfl, .inl (.inl h4)⟩ ih
    exact rep _ _ (s7 _ _ (s6 _ _ (s5 _ _ e4)))
def sp_folded (K : PySem.W.Frag) (c : Nat → Addr) : Sp := fun vs H Q E => ∃ v : V, vs = [v] ∧ ((∃ (p : Addr) (xs : List Int), v = .ref p ∧ SqL K H p (xs.map V.int) ∧ IsDrw xs ∧ xs.length ≤ 200 ∧ ((foldR xs).length ≤ 8 → ∀ H' v, Same H H' → LayAt K H' v (foldR xs) none → Q v H') ∧
    (8 < (foldR xs).length → ∀ H' d, Same H H' → H d = none → H' d = some (.xd [("most", .int 8), ("many", .int ((foldR xs).length : Int))]) → E (.ref (c 14)) (some d) H')) ∨ (BadD K H v ∧ ∀ H', Same H H' → E (.ref (c 6)) none H'))
theorem ok_folded {f : Addr} {fd : FuncData} {c : Nat → Addr} {LE : Addr} (F : Fun K "folded" "folded" s_folded f fd) (T : Txt K mg) (TX : ExcN K mg c LE) (D_are_drawings : Cl P w K mg base 4 "are_drawings" ["thing"] (sp_are_drawings K)) (D_runs_of : Cl P w K mg base 1 "runs_of" ["drawings"] (sp_runs_of K)) (D_rows_of_run : Cl P w K mg base 1 "rows_of_run" ["drawing", "many"] (sp_rows_of_run K)) (D_need_at_most : ClX P w K mg base 3 "need_at_most" ["many", "most"] (sp_need_at_most K c)) : FnOk P w K mg base (L2.CX P w) 5 f fd ["drawings"] (sp_folded K c) := by
  refine F.okX sc_folded (fun vs H Q E h => ?_) (fun cdv A outer s H vs Q E hr h => ?_)
  · obtain ⟨v, rfl, _⟩ := h
    rfl
  · obtain ⟨v, rfl, h⟩ := h
    refine ⟨_, (pss_cons (ps_if (pt_not (pt_val (pe_own D_are_drawings (hr.mono (by omega)) (by rfl) (pa_cons (pv 0) pa_nil)))) (pss_one (ps_raise rfl (takes_of rfl rfl rfl rfl) (SkE.pmk_own1 PySem.F.excBase_ValueError (TX.nw 6 (by decide)) (TX.g 6 "NoDrawings" rfl) (TX.kp 6 (by decide)) (TX.rs (i := 6) (by decide)) (by rfl) (pe_joined (.cons pe_str (.cons (pe_fmt (pe_gint (by rfl) T.c_MOST_PICTURES)) (.cons pe_str .nil))))))) pss_nil)
      (pss_cons (ps_setLc2 (i := 1) (own := [("drawing", 2), ("many", 3), ("row", 4)]) (vs1 := [4]) (g := (gTup _ 2 (gCons (gName 2) (gCons (gName 3) gNil)))) (g1 := (gName 4)) (tt := tYes) (tt1 := tYes) (by rfl) sc_folded.nd rfl rfl (sw_true rfl rfl rfl (by decide +kernel)) (pi_list (pe_own D_runs_of (hr.mono (by omega)) (by rfl) (pa_cons (pv 0) pa_nil))) (blkOk_by (own := [("drawing", 2), ("many", 3), ("row", 4)]) (N := ["drawings", "rows", "drawing", "many", "row"]) (sc := defScope s_folded) (by decide +kernel)) (by decide) (fun _ _ _ _ _ => (pg_tup (by rfl) (pgs_cons (pg_name (i := 2) sc_folded.nd rfl (Or.inl rfl)) (pgs_cons (pg_name (i := 3) sc_folded.nd rfl (Or.inl rfl)) pgs_nil)))) (fun _ _ _ _ _ => pts_nil) (fun _ _ _ _ _ => (pi_listK (K := K) (pe_own D_rows_of_run (hr.mono (by omega)) (by rfl) (pa_cons (pv 2) (pa_cons (pv 3) pa_nil))))) (fun _ _ _ _ _ => (pg_name (i := 4) sc_folded.nd rfl (Or.inl rfl))) (fun _ _ _ _ _ => pts_nil) (fun _ _ _ _ _ => (pv 4)))
      (pss_cons (ps_expr (pe_ownX D_need_at_most (hr.mono (by omega)) (takes_of rfl rfl rfl rfl) (by rfl) (pa_cons (pe_callB call_len_seq (by rfl) T.b_len (by decide +kernel) (pa_cons (pv 1) pa_nil)) (pa_cons (pe_gint (by rfl) T.c_MOST_ROWS) pa_nil))))
      (pss_one (ps_ret (pe_tup (pa_cons (pe_callTy call_tuple_of (by rfl) T.b_tuple (by decide +kernel) (pa_cons (pv 1) pa_nil)) (pa_cons pe_non pa_nil)))))))), ?_⟩
    rcases h with ⟨p, xs, rfl, hp, hx, hl, q, qE⟩ | ⟨hb, qE⟩
    rotate_left 1
    · refine ⟨_, rfl, v, rfl, .inr ⟨hb, fun H1 s1 => ⟨_, rfl, iteT ?_⟩⟩⟩
      have A1 := js_len (a := Str.empty) (b := "a list of at most ") (m := 0) (n := 60) (by decide) (by decide +kernel)
      have A2 := js_len A1 (it_len (i := 200) (by decide)).1
      have A3 := js_len A2 (b := " drawings is needed") (n := 60) (by decide +kernel)
      exact ⟨_, rfl, js_ok A1 (by decide), .inr ⟨200, rfl, (it_len (by decide)).2, _, rfl, js_ok A2 (by decide), _, rfl, js_ok A3 (by decide), qE _ s1⟩⟩
    refine ⟨_, rfl, .ref p, rfl, .inl ⟨p, xs, rfl, hp, hx, hl, fun H1 s1 => ⟨_, rfl, iteF ?_⟩⟩⟩
    refine ⟨_, rfl, p, xs, rfl, s1.seq hp, hl, fun H2 R us s2 nR eR pd => ?_⟩
    refine ⟨R, rfl, ⟨_, .inl (.inl eR)⟩, fun D hD => ?_⟩
    have lus := Paired.length pd
    have lrn := runs_le xs
    refine wk_list (K := K) (a := R) (xs := us) (fun i H' => Same H2 H' ∧ ∃ ws, H' D = some (.lst ws) ∧ Paired (RowAt K H') ws (((runs xs).take i).flatMap fun r => rrun r.1 r.2)) ⟨same_upd hD, [], upd_same, .nil⟩ (fun i H' _ z => .inl (.inl (z.1 _ _ eR))) (fun i u H3 hu p3 => ?_) (fun H3 p3 => ?_)
    · obtain ⟨s3, ws, eD, pd3⟩ := p3
      obtain ⟨r, hr1, rp, rfl, hrow⟩ := Paired.at pd hu
      have hmem := List.mem_of_getElem? hr1
      have hpos := (runs_ok xs).pos r hmem
      have r200 : r.2 ≤ 200 := by
        have e := (runs_ok xs).all
        have hle : r.2.toNat ≤ (dwg (runs xs)).length := by
          obtain ⟨a, b, e2⟩ := List.append_of_mem hmem
          rw [e2, dwg_append]
          show _ ≤ (dwg a ++ (List.replicate r.2.toNat r.1 ++ dwg b)).length
          rw [List.length_append, List.length_append, List.length_replicate]
          omega
        rw [e] at hle
        omega
      refine ⟨rp, _, rfl, Same.sqT s3 hrow, rfl, _, _, rfl, _, _, rfl, rfl, rfl, yes_ok2 ?_⟩
      refine ⟨_, rfl, _, rfl, r.1, r.2, rfl, hpos.1, r200, fun H4 R4 vs4 s4 nR4 eR4 pd4 => ?_⟩
      have l4 := Paired.length pd4
      rw [rrun_len] at l4
      have eD4 := s4 _ _ eD
      have nRD : R4 ≠ D := fun z => by rw [z, eD] at nR4; cases nR4
      have lws : ws.length ≤ 200 := by
        have a1 := Paired.length pd3
        have a2 := flat_len ((runs xs).take i) fun q hq => ((runs_ok xs).pos q (List.mem_of_mem_take hq)).1
        have a3 : (dwg ((runs xs).take i)).length ≤ xs.length := by
          have e := (runs_ok xs).all
          rw [← List.take_append_drop i (runs xs), dwg_append] at e
          have := congrArg List.length e
          rw [List.length_append] at this
          omega
        have a4 : ((runs xs).take i).length ≤ (runs xs).length := by
          rw [List.length_take]
          omega
        omega
      refine ⟨R4, rfl, ⟨_, .inl (.inl eR4)⟩, wk_list (K := K) (a := R4) (xs := vs4) (fun j H' => Same H2 H' ∧ H' R4 = some (.lst vs4) ∧ Paired (RowAt K H') vs4 (rrun r.1 r.2) ∧ ∃ ws', H' D = some (.lst ws') ∧ ws'.length ≤ 200 + j ∧ Paired (RowAt K H') ws' (((runs xs).take i).flatMap (fun r => rrun r.1 r.2) ++ (rrun r.1 r.2).take j))
        ⟨s3.trans s4, eR4, pd4, ws, eD4, by omega, by rw [List.take_zero, List.append_nil]; exact Paired.mono pd3 fun _ _ => RowAt.keep (Same.tk s4)⟩ (fun j H' _ z => .inl (.inl z.2.1)) (fun j u5 H5 hu5 p5 => ?_) (fun H5 p5 => ?_)⟩
      · obtain ⟨s5, e5, pd5, ws', eD5, l5, pw5⟩ := p5
        obtain ⟨r5, hr5, hrow5⟩ := Paired.at pd5 hu5
        have hj : j < vs4.length := (List.getElem?_eq_some_iff.mp hu5).1
        refine ⟨rfl, yes_ok ⟨_, rfl, ws', eD5, small1000 (by omega), ?_⟩⟩
        refine ⟨fun b o e => ?_, ?_, ?_, ws' ++ [u5], upd_same, ?_, ?_⟩
        · rw [upd_ne (ne_of_none e hD)]
          exact s5 _ _ e
        · rw [upd_ne nRD]
          exact e5
        · exact Paired.mono pd5 fun _ _ => RowAt.keep fun a zs h => tk_updL eD5 _ _ h
        · rw [List.length_append]
          show ws'.length + 1 ≤ 200 + (j + 1)
          omega
        · rw [List.take_add_one, hr5, ← List.append_assoc]
          exact Paired.snocP (Paired.mono pw5 fun _ _ => RowAt.keep fun a zs h => tk_updL eD5 _ _ h) (hrow5.keep fun a zs h => tk_updL eD5 _ _ h)
      · obtain ⟨s5, e5, pd5, ws', eD5, l5, pw5⟩ := p5
        refine ⟨s5, ws', eD5, ?_⟩
        rw [List.take_of_length_le (l := rrun r.1 r.2) (by rw [rrun_len]; omega)] at pw5
        rw [List.take_add_one, hr1, List.flatMap_append]
        show Paired _ _ (_ ++ (rrun r.1 r.2 ++ []))
        rw [List.append_nil]
        exact pw5
    · obtain ⟨s3, ws, eD, pd3⟩ := p3
      rw [lus, List.take_length] at pd3
      have lw : ws.length = (foldR xs).length := Paired.length pd3
      refine ⟨_, rfl, D, ws, rfl, .inl (.inl (.inl eD)), _, 8, rfl, fun h8 => ?_, fun h8 H4 d s4 nd ed => ?_⟩
      rotate_left 1
      · rw [lw] at ed
        exact qE (by omega) H4 d (((s1.trans s2).trans s3).trans s4) (((s1.trans s2).trans s3).free nd) ed
      have q := q (by omega)
      refine ⟨_, rfl, D, ws, rfl, .inl ⟨.inl (.inl eD), fun l nl => ⟨(by show 2 ≤ sizeLine; decide), fun p4 np4 => ?_⟩⟩⟩
      have s4 := same_upd (o := .tup ws) nl
      have s5 := same_upd (o := .tup [.ref l, .non]) np4
      exact q _ _ (((s1.trans s2).trans s3).trans (s4.trans s5)) ⟨p4, _, rfl, .inl (.inl upd_same), l, ws, rfl, .inl (.inl (s5 _ _ upd_same)), Paired.mono pd3 fun _ _ => RowAt.keep (Same.tk (s4.trans s5))⟩
end

section
variable {P : Program} {w : World} {K : PySem.W.Frag} {mg : Str → Option Value} {base : Heap}
def sp__law_cell_at (K : PySem.W.Frag) : Sp := fun vs H Q _ => ∃ (a : Addr) (ns : List Int) (k : Int), vs = [.ref a, .int k] ∧ SqL K H a (ns.map V.int) ∧ 0 ≤ k ∧ ∀ c, Q (.int c) H
theorem ok__law_cell_at {f : Addr} {fd : FuncData} (F : Fun K "_law_cell_at" "_law_cell_at" s__law_cell_at f fd) (T : Txt K mg) : FnOk P w K mg base CX0 1 f fd ["_law_script", "_law_k"] (sp__law_cell_at K) := by
  refine F.ok sc__law_cell_at (fun vs H Q E h => ?_) (fun cdv A outer s H vs Q E hr h => ?_)
  · obtain ⟨a, ns, k, rfl, _⟩ := h
    rfl
  · obtain ⟨a, ns, k, rfl, hS, hk, q⟩ := h
    refine ⟨_, (pss_cons (ps_if (pt_cmpR op_lt (pv 1) (pe_callB call_len_seq (by rfl) T.b_len (by decide +kernel) (pa_cons (pv 0) pa_nil)) (nomark _)) (pss_one (ps_ret (pe_ix ix_list (pv 0) (pv 1) (fun _ _ => rfl)))) pss_nil)
      (pss_one (ps_ret pe_int))), ?_⟩
    refine ⟨_, rfl, _, rfl, a, _, rfl, .inl hS, k, _, rfl, rfl, _, rfl, ite2 (fun e => ?_) (fun _ => q 0)⟩
    have e1 : k < ((ns.map V.int).length : Int) := of_decide_eq_true e
    rw [List.length_map] at e1
    have hj : k.toNat < ns.length := by omega
    have g : (ns.map V.int)[k.toNat]? = some (.int ns[k.toNat]) := by
      rw [List.getElem?_map, List.getElem?_eq_getElem hj]
      rfl
    exact ⟨_, rfl, _, rfl, a, _, k, _, rfl, rfl, hS, at_of (j := k.toNat) (by omega) g, q _⟩
def sp__law_state (K : PySem.W.Frag) : Sp := fun vs H Q _ => ∃ (a : Addr) (ns : List Int) (k : Int), vs = [.ref a, .int k] ∧ SqL K H a (ns.map V.int) ∧ 0 ≤ k ∧ ∀ H' p, Same H H' → H p = none → IsSt H' p → Q (.ref p) H'
theorem ok__law_state {f : Addr} {fd : FuncData} (F : Fun K "_law_state" "_law_state" s__law_state f fd) (T : Txt K mg) (D__law_cell_at : Cl P w K mg base 1 "_law_cell_at" ["_law_script", "_law_k"] (sp__law_cell_at K)) : FnOk P w K mg base CX0 2 f fd ["_law_script", "_law_k"] (sp__law_state K) := by
  refine F.ok sc__law_state (fun vs H Q E h => ?_) (fun cdv A outer s H vs Q E hr h => ?_)
  · obtain ⟨a, ns, k, rfl, _⟩ := h
    rfl
  · obtain ⟨a, ns, k, rfl, hS, hk, q⟩ := h
    refine ⟨_, (pss_cons (ps_set (i := 2) sc__law_state.nd rfl (Or.inl rfl) (pe_own D__law_cell_at (hr.mono (by omega)) (by rfl) (pa_cons (pv 0) (pa_cons (pv 1) pa_nil))))
      (pss_one (ps_ret (pe_lst (pa_cons (pe_callB (call_max2 rfl) (by rfl) T.b_max (by decide +kernel) (pa_cons pe_int (pa_cons (pe_op op_sub (pv 2) (pe_op op_pow pe_int pe_int)) pa_nil))) (pa_cons (pe_op op_modN (pv 2) pe_int) pa_nil)))))), ?_⟩
    refine ⟨_, rfl, _, rfl, a, ns, k, rfl, hS, hk, fun c => ?_⟩
    refine ⟨_, rfl, 10, 18, rfl, rfl, ⟨by decide, by decide, by decide⟩, _, _, rfl, rfl, _, _, rfl, _, rfl, _, _, rfl, rfl, (by show (2147483647 : Int) ≠ 0; decide), (by show 2 ≤ sizeLine; decide), fun p np => ?_⟩
    refine q _ p (same_upd np) np ⟨_, _, upd_same, ?_, (fm (by decide)).1, (fm (by decide)).2⟩
    split <;> omega
def sp__law_take (K : PySem.W.Frag) : Sp := fun vs H Q _ => ∃ (st : Addr) (n : Int), vs = [.ref st, .int n] ∧ IsSt H st ∧ 0 < n ∧ n < 1073741824 ∧ ∀ r H', 0 ≤ r → r < n → Gr st H H' → Q (.int r) H'
theorem ok__law_take {f : Addr} {fd : FuncData} (F : Fun K "_law_take" "_law_take" s__law_take f fd) (T : Txt K mg) : FnOk P w K mg base CX0 1 f fd ["_law_state_here", "_law_many_here"] (sp__law_take K) := by
  refine F.ok sc__law_take (fun vs H Q E h => ?_) (fun cdv A outer s H vs Q E hr h => ?_)
  · obtain ⟨st, n, rfl, _⟩ := h
    rfl
  · obtain ⟨st, n, rfl, ⟨a, b, hs, ha, hb0, hb1⟩, n0, n1, q⟩ := h
    refine ⟨_, (pss_cons (ps_if (pt_cmpR op_gt (pe_ix ix_list (pv 0) pe_int (fun _ _ => rfl)) pe_int (nomark _)) (pss_cons (ps_set (i := 2) sc__law_take.nd rfl (Or.inl rfl) (pe_op op_modN (pe_ix ix_list (pv 0) pe_int (fun _ _ => rfl)) (pv 1)))
      (pss_cons (ps_asg (pe_op op_fdivN (pe_ix ix_list (pv 0) pe_int (fun _ _ => rfl)) (pv 1)) (pg_sub (pv 0) pe_int set_list))
      (pss_one (ps_ret (pv 2))))) pss_nil)
      (pss_cons (ps_asg (pe_op op_modN (pe_op op_add (pe_op op_mul (pe_ix ix_list (pv 0) pe_int (fun _ _ => rfl)) pe_int) pe_int) pe_int) (pg_sub (pv 0) pe_int set_list))
      (pss_cons (ps_set (i := 3) sc__law_take.nd rfl (Or.inl rfl) (pe_op op_modN (pe_op op_add (pe_op op_add (pe_op op_mul (pe_ix ix_list (pv 0) pe_int (fun _ _ => rfl)) (pe_ix ix_list (pv 0) pe_int (fun _ _ => rfl))) (pe_op op_mul pe_int (pe_ix ix_list (pv 0) pe_int (fun _ _ => rfl)))) pe_int) pe_int))
      (pss_cons (ps_set (i := 3) sc__law_take.nd rfl (Or.inl rfl) (pe_op op_modN (pe_op op_add (pe_op op_mul (pv 3) (pv 3)) (pe_op op_mul pe_int (pv 3))) pe_int))
      (pss_one (ps_ret (pe_op op_modN (pe_op op_fdivN (pv 3) pe_int) (pv 1)))))))), ?_⟩
    refine ⟨_, rfl, st, _, 0, _, rfl, rfl, .inl (.inl hs), rfl, a, 0, rfl, rfl, _, rfl, ite2 (fun e => ?_) (fun e => ?_)⟩
    · have e1 : 0 < a := of_decide_eq_true e
      refine ⟨_, rfl, st, _, 0, _, rfl, rfl, .inl (.inl hs), rfl, _, rfl, a, n, rfl, rfl, by omega, ?_⟩
      refine ⟨_, rfl, st, _, 0, _, rfl, rfl, .inl (.inl hs), rfl, _, rfl, a, n, rfl, rfl, ⟨by omega, by omega⟩, _, rfl, st, _, 0, 0, rfl, rfl, hs, rfl, ?_⟩
      refine ⟨_, rfl, q _ _ (fm n0).1 (fm n0).2 (gr_set ?_ hb0 hb1)⟩
      rw [Int.fdiv_eq_ediv_of_nonneg _ (by omega)]
      exact Int.ediv_nonneg ha (by omega)
    · refine ⟨_, rfl, st, _, 1, _, rfl, rfl, .inl (.inl hs), rfl, b, 48271, rfl, rfl, .inl ⟨by omega, by omega⟩, _, _, rfl, rfl, _, _, rfl, rfl, (by show (2147483647 : Int) ≠ 0; decide), _, rfl, st, _, 1, 1, rfl, rfl, hs, rfl, ?_⟩
      dsimp only
      have f1 := fm (x := b * 48271 + 29) (m := 2147483647) (by decide)
      generalize (b * 48271 + 29).fmod 2147483647 = b1 at f1 ⊢
      obtain ⟨f1a, f1b⟩ := f1
      have hs1 : (upd H st (.lst [.int a, .int b1])) st = some (.lst [.int a, .int b1]) := upd_same
      refine ⟨_, rfl, st, _, 1, _, rfl, rfl, .inl (.inl hs1), rfl, _, rfl, st, _, 1, _, rfl, rfl, .inl (.inl hs1), rfl, b1, b1, rfl, rfl, .inl ⟨by omega, by omega⟩, _, rfl, st, _, 1, _, rfl, rfl, .inl (.inl hs1), rfl, 39373, b1, rfl, rfl, .inl ⟨by decide, by decide⟩, _, _, rfl, rfl, _, _, rfl, rfl, _, _, rfl, rfl, (by show (2147483629 : Int) ≠ 0; decide), ?_⟩
      dsimp only
      have f2 := fm (x := b1 * b1 + 39373 * b1 + 7) (m := 2147483629) (by decide)
      generalize (b1 * b1 + 39373 * b1 + 7).fmod 2147483629 = b2 at f2 ⊢
      obtain ⟨f2a, f2b⟩ := f2
      refine ⟨_, rfl, _, rfl, b2, b2, rfl, rfl, .inl ⟨by omega, by omega⟩, _, rfl, 16807, b2, rfl, rfl, .inl ⟨by decide, by decide⟩, _, _, rfl, rfl, _, _, rfl, rfl, (by show (2147483587 : Int) ≠ 0; decide), ?_⟩
      dsimp only
      generalize (b2 * b2 + 16807 * b2).fmod 2147483587 = b3
      refine ⟨_, rfl, b3, 8, rfl, rfl, ⟨by decide, by decide⟩, _, rfl, _, n, rfl, rfl, by omega, ?_⟩
      exact q _ _ (fm n0).1 (fm n0).2 (gr_set ha f1a f1b)
end

/-! ### runs as they are drawn -/
theorem runs_rep {xs : List Int} {d : Int} (h : ∀ qs r, runs xs = qs ++ [r] → r.1 ≠ d) : ∀ k : Nat, runs (xs ++ List.replicate (k + 1) d) = runs xs ++ [(d, (k : Int) + 1)]
  | 0 => by
    show runs (xs ++ [d]) = _
    rw [runs_snoc]
    rcases snoc_cases (runs xs) with e | ⟨qs, r, e⟩
    · rw [e]
      rfl
    · rw [e, rstep_snoc, if_neg (h qs r e)]
      rfl
  | k + 1 => by
    rw [List.replicate_succ', ← List.append_assoc, runs_snoc, runs_rep h k, rstep_snoc, if_pos rfl]
    congr 2
theorem atI_end8 {xs : List V} {v : V} (h : xs[xs.length - 1]? = some v) : atI xs (-1) = some v := by
  have : xs.length - 1 < xs.length := (List.getElem?_eq_some_iff.mp h).1
  unfold atI ixN
  rw [if_neg (by decide), if_pos (by omega)]
  show xs[(-1 + (xs.length : Int)).toNat]? = _
  rw [show (-1 + (xs.length : Int)).toNat = xs.length - 1 by omega]
  exact h
structure RL (rs : List RW) : Prop where
  rn : runs (dwg rs) = rs
  row : ∀ r ∈ rs, 0 ≤ r.1 ∧ r.1 ≤ 9 ∧ 1 ≤ r.2 ∧ r.2 ≤ 200
  all : (dwg rs).length ≤ 200
theorem RL.drw {rs : List RW} (h : RL rs) : ∀ x ∈ dwg rs, 0 ≤ x ∧ x ≤ 9 := fun x hx => by
  have : ∀ (l : List RW), (∀ r ∈ l, 0 ≤ r.1 ∧ r.1 ≤ 9 ∧ 1 ≤ r.2 ∧ r.2 ≤ 200) → ∀ x ∈ dwg l, 0 ≤ x ∧ x ≤ 9 := fun l => by
    induction l with
    | nil => intro _ x hx; cases hx
    | cons r t ih =>
      intro hv x hx
      rcases List.mem_append.mp (show x ∈ List.replicate r.2.toNat r.1 ++ dwg t from hx) with z | z
      · rw [List.eq_of_mem_replicate z]
        exact ⟨(hv r (List.mem_cons_self ..)).1, (hv r (List.mem_cons_self ..)).2.1⟩
      · exact ih (fun q hq => hv q (List.mem_cons_of_mem _ hq)) x z
  exact this rs h.row x hx
theorem RL.nil : RL [] := ⟨rfl, (fun r hr => nomatch hr), Nat.zero_le _⟩
theorem RL.snoc {rs : List RW} {d n : Int} (h : RL rs) (hd : ∀ qs r, rs = qs ++ [r] → r.1 ≠ d) (d0 : 0 ≤ d) (d9 : d ≤ 9) (n1 : 1 ≤ n) (hn : ((dwg rs).length : Int) + n ≤ 200) : RL (rs ++ [(d, n)]) := by
  have e : dwg (rs ++ [(d, n)]) = dwg rs ++ List.replicate n.toNat d := by rw [dwg_append, dwg_one]
  refine ⟨?_, fun r hr => ?_, ?_⟩
  · obtain ⟨k, hk⟩ : ∃ k : Nat, n = (k : Int) + 1 := ⟨(n - 1).toNat, by omega⟩
    rw [e, hk, show ((k : Int) + 1).toNat = k + 1 by omega, runs_rep (by rw [h.rn]; exact hd), h.rn]
  · rcases List.mem_append.mp hr with z | z
    · exact h.row r z
    · rw [List.mem_singleton.mp z]
      exact ⟨d0, d9, n1, by show n ≤ 200; omega⟩
  · rw [e, List.length_append, List.length_replicate]
    omega
theorem RL.fold {rs : List RW} (h : RL rs) : foldR (dwg rs) = rs.flatMap fun r => rrun r.1 r.2 := by
  unfold foldR
  rw [h.rn]
theorem RL.len {rs : List RW} (h : RL rs) : rs.length ≤ 200 := by
  have := runs_le (dwg rs)
  rw [h.rn] at this
  exact Nat.le_trans this h.all
/-- the holds of a run -/
def hrun (n : Int) : List Int := [(n - 1) % 24 + 1] ++ List.replicate ((n - 1) / 24).toNat 24
theorem rrun_holds (d n : Int) : rrun d n = (hrun n).map fun h => (d, h) := by
  unfold rrun hrun
  rw [List.map_append, List.map_replicate]
  rfl
section
variable {P : Program} {w : World} {K : PySem.W.Frag} {mg : Str → Option Value} {base : Heap}
def sp__law_split (K : PySem.W.Frag) : Sp := fun vs H Q _ => ∃ n : Int, vs = [.int n] ∧ 1 ≤ n ∧ n ≤ 200 ∧ ∀ H' p, Same H H' → H p = none → H' p = some (.lst ((hrun n).map V.int)) → Q (.ref p) H'
theorem ok__law_split {f : Addr} {fd : FuncData} (F : Fun K "_law_split" "_law_split" s__law_split f fd) (T : Txt K mg) : FnOk P w K mg base CX0 1 f fd ["_law_size"] (sp__law_split K) := by
  refine F.ok sc__law_split (fun vs H Q E h => ?_) (fun cdv A outer s H vs Q E hr h => ?_)
  · obtain ⟨n, rfl, _⟩ := h
    rfl
  · obtain ⟨n, rfl, n1, n2, q⟩ := h
    refine ⟨_, (pss_cons (ps_set (i := 1) sc__law_split.nd rfl (Or.inl rfl) (pe_lst pa_nil))
      (pss_cons (ps_while PassesOwn.never (pt_cmpR op_gt (pv 0) pe_int (nomark _)) (pss_cons (ps_set (i := 1) sc__law_split.nd rfl (Or.inl rfl) (pe_op op_cat (pe_lst (pa_cons pe_int pa_nil)) (pv 1)))
      (pss_one (ps_set (i := 0) sc__law_split.nd rfl (Or.inl rfl) (pe_op op_sub (pv 0) pe_int)))))
      (pss_one (ps_ret (pe_op op_cat (pe_ifExp (pt_cmpR op_gt (pv 0) pe_int (nomark _)) (pe_lst (pa_cons (pv 0) pa_nil)) (pe_lst pa_nil)) (pv 1)))))), ?_⟩
    refine ⟨Nat.zero_le _, fun F0 nF0 => ?_⟩
    obtain ⟨s0, e0⟩ := new_at (.lst []) nF0
    generalize upd H F0 (.lst []) = H0 at s0 e0 ⊢
    refine while_R (fun σ H' => Same H H' ∧ ∃ (s : Int) (k : Nat) (F : Addr), σ = [some (.int s), some (.ref F)] ∧ 1 ≤ s ∧ n = s + 24 * (k : Int) ∧ H' F = some (.lst ((List.replicate k (24 : Int)).map V.int))) (fun σ _ => match σ with | [some (.int s), _] => s.toNat | _ => 0) ?_ ?_
    · exact ⟨s0, n, 0, F0, rfl, n1, by omega, e0⟩
    · rintro σ H1 ⟨s1, s, k, F, rfl, h1, hn, eF⟩ R hT hF
      refine ⟨_, rfl, _, _, rfl, rfl, _, rfl, ?_⟩
      by_cases e : (24 : Int) < s
      · have e24 := e
        rw [decide_eq_true (show s > 24 from e)]
        refine hT _ ⟨(by show 1 ≤ sizeLine; decide), fun p2 np2 => ?_⟩
        obtain ⟨s2, e2⟩ := new_at (.lst [.int 24]) np2
        generalize upd H1 p2 (.lst [.int 24]) = H2 at s2 e2 ⊢
        refine ⟨_, rfl, p2, F, _, _, rfl, rfl, e2, s2 _ _ eF, Nat.le_of_lt (small1000 (by rw [List.length_map, List.length_replicate]; show 1 + k ≤ 1000; omega)), fun p3 np3 => ?_⟩
        refine ⟨_, rfl, _, _, rfl, rfl, ⟨(s1.trans s2).trans (same_upd np3), s - 24, k + 1, p3, rfl, by omega, by omega, ?_⟩, ?_⟩
        · rw [upd_same, List.replicate_succ]
          rfl
        · show (s - 24).toNat < s.toNat
          omega
      · have e24 : s ≤ 24 := by omega
        rw [decide_eq_false (show ¬ s > 24 from e)]
        refine hF _ ⟨_, rfl, _, _, rfl, rfl, _, rfl, ite2 (fun _ => ?_) (fun z => absurd (decide_eq_true (show s > 0 by omega)) z)⟩
        refine ⟨_, rfl, (by show 1 ≤ sizeLine; decide), fun p2 np2 => ?_⟩
        obtain ⟨s2, e2⟩ := new_at (.lst [.int s]) np2
        generalize upd H1 p2 (.lst [.int s]) = H2 at s2 e2 ⊢
        refine ⟨_, rfl, p2, F, _, _, rfl, rfl, e2, s2 _ _ eF, Nat.le_of_lt (small1000 (by rw [List.length_map, List.length_replicate]; show 1 + k ≤ 1000; omega)), fun p3 np3 => ?_⟩
        refine q _ p3 ((s1.trans s2).trans (same_upd np3)) ((s1.trans s2).free np3) ?_
        have es : (n - 1) % 24 + 1 = s := by omega
        have ek : ((n - 1) / 24).toNat = k := by omega
        rw [upd_same]
        unfold hrun
        rw [es, ek, List.map_append]
        rfl
def sp__law_runs (K : PySem.W.Frag) : Sp := fun vs H Q _ => ∃ st : Addr, vs = [.ref st] ∧ IsSt H st ∧ ∀ (F : Addr) (us : List V) (rs : List RW) (H' : Hp), Gr st H H' → H F = none → H' F = some (.lst us) → Paired (RowAt K H') us rs → RL rs → Q (.ref F) H'
theorem ok__law_runs {f : Addr} {fd : FuncData} (F : Fun K "_law_runs" "_law_runs" s__law_runs f fd) (T : Txt K mg) (D__law_take : Cl P w K mg base 1 "_law_take" ["_law_state_here", "_law_many_here"] (sp__law_take K)) : FnOk P w K mg base CX0 2 f fd ["_law_state_here"] (sp__law_runs K) := by
  refine F.ok sc__law_runs (fun vs H Q E h => ?_) (fun cdv A outer s H vs Q E hr h => ?_)
  · obtain ⟨st, rfl, _⟩ := h
    rfl
  · obtain ⟨st, rfl, hs, q⟩ := h
    refine ⟨_, (pss_cons (ps_par (i := 1) (j := 2) (by rfl) sc__law_runs.nd rfl rfl (by decide) rfl rfl (pa_cons (pe_lst pa_nil) (pa_cons pe_int pa_nil)) (by rfl))
      (pss_cons (ps_for PassesOwn.never rfl (pi_range1 (by rfl) T.b_range (pa_cons (pe_own D__law_take (hr.mono (by omega)) (by rfl) (pa_cons (pv 0) (pa_cons pe_int pa_nil))) pa_nil)) (pg_name (i := 3) sc__law_runs.nd rfl (Or.inl rfl))
        (C8.pss_cut (ps_set (i := 4) sc__law_runs.nd rfl (Or.inl rfl) (pe_ifExp (pt_cmpR (op_neD hr.units) (pv 1) (pe_lst pa_nil) (nomark _)) (pe_op op_modN (pe_op op_add (pe_op op_add (pe_ix ix_tup (pe_ix ix_list (pv 1) (pe_un un_neg pe_int) (fun _ _ => rfl)) pe_int (fun _ _ => rfl)) pe_int) (pe_own D__law_take (hr.mono (by omega)) (by rfl) (pa_cons (pv 0) (pa_cons pe_int pa_nil)))) pe_int) (pe_own D__law_take (hr.mono (by omega)) (by rfl) (pa_cons (pv 0) (pa_cons pe_int pa_nil)))))
      (pss_cons (ps_set (i := 5) sc__law_runs.nd rfl (Or.inl rfl) (pe_ix ix_list (pe_lst (pa_cons pe_int (pa_cons pe_int (pa_cons pe_int (pa_cons pe_int (pa_cons pe_int (pa_cons pe_int (pa_cons (pe_op op_add pe_int (pe_own D__law_take (hr.mono (by omega)) (by rfl) (pa_cons (pv 0) (pa_cons pe_int pa_nil)))) (pa_cons (pe_op op_add pe_int (pe_own D__law_take (hr.mono (by omega)) (by rfl) (pa_cons (pv 0) (pa_cons pe_int pa_nil)))) pa_nil))))))))) (pe_own D__law_take (hr.mono (by omega)) (by rfl) (pa_cons (pv 0) (pa_cons pe_int pa_nil))) (fun _ _ => rfl)))
      (pss_one (ps_if (pt_cmpR op_le (pv 5) (pv 2) (nomark _)) (pss_cons (ps_expr (pe_bm PySem.F.plainAttrs_list PySem.F.slot_list_append PySem.F.type_list_append mt_append (pv 1) (pa_cons (pe_tup (pa_cons (pv 4) (pa_cons (pv 5) pa_nil))) pa_nil)))
      (pss_one (ps_set (i := 2) sc__law_runs.nd rfl (Or.inl rfl) (pe_op op_sub (pv 2) (pv 5))))) pss_nil)))))
      (pss_one (ps_ret (pv 1))))), ?_⟩
    refine ⟨Nat.zero_le _, fun F nF => ⟨_, _, rfl, ?_⟩⟩
    have nFs := st_ne hs nF
    obtain ⟨s0, e0⟩ := new_at (.lst []) nF
    generalize upd H F (.lst []) = H0 at s0 e0 ⊢
    have g0 := gr_same (st := st) s0
    refine ⟨_, rfl, st, 10, rfl, g0.2 hs, by decide, by decide, fun r1 H1 a1 b1 g1 => ⟨r1, rfl, by omega, by omega, ?_⟩⟩
    have g01 := g0.trans g1
    refine for_range (lo := 0) (n := r1.toNat) (fun i σ H' => Gr st H H' ∧ ∃ (us : List V) (rs : List RW) (y3 y4 y5 : Option V), σ = [some (.ref st), some (.ref F), some (.int (200 - ((dwg rs).length : Int))), y3, y4, y5] ∧ H' F = some (.lst us) ∧ Paired (RowAt K H') us rs ∧ RL rs)
      ⟨g01, [], [], none, none, none, rfl, g1.1 _ _ nFs e0, .nil, RL.nil⟩ ?_ ?_
    · rintro i σ H2 hi ⟨g2, us, rs, y3, y4, y5, rfl, eF, pd, rl⟩
      have hs2 := g2.2 hs
      have lus := Paired.length pd
      have l200 := rl.len
      have a200 := rl.all
      refine ⟨fun σ' H' => Gr st H H' ∧ ∃ (d : Int) (y5 : Option V), σ' = [some (.ref st), some (.ref F), some (.int (200 - ((dwg rs).length : Int))), some (.int (0 + (i : Int))), some (.int d), y5] ∧ H' F = some (.lst us) ∧ Paired (RowAt K H') us rs ∧ 0 ≤ d ∧ d ≤ 9 ∧ ∀ qs r, rs = qs ++ [r] → r.1 ≠ d, ?_, ?_⟩
      · refine ⟨_, rfl, Nat.zero_le _, fun p3 np3 => ?_⟩
        obtain ⟨s3, e3⟩ := new_at (.lst []) np3
        generalize upd H2 p3 (.lst []) = H3 at s3 e3 ⊢
        have g23 := gr_same (st := st) s3
        have hs3 := g23.2 hs2
        have pd3 : Paired (RowAt K H3) us rs := Paired.mono pd fun _ _ => RowAt.keep (Same.tk s3)
        refine ne_data (.lst (.inl (.inl (s3 _ _ eF))) (dpAll_of (f := rwD) (fun _ _ h => RowAt.dp h) pd3)) (.lst (.inl (.inl e3)) .nil) (Sd.lst (k := 1) fun e he => by obtain ⟨m, _, rfl⟩ := List.mem_map.mp he; exact sd_rw m) (Sd.lst (k := 1) fun e he => nomatch he) (by decide) fun b hb => ⟨_, rfl, ite2 (fun c => ?_) (fun c => ?_)⟩
        · have rne : rs ≠ [] := fun e => by
            rw [hb.mpr (by rw [e]; rfl)] at c
            cases c
          obtain ⟨qs, r, rfl⟩ : ∃ qs r, rs = qs ++ [r] := ⟨_, _, (List.dropLast_concat_getLast rne).symm⟩
          obtain ⟨u, hu, pu, rfl, hru⟩ := Paired.at2 pd3 (show (qs ++ [r])[qs.length]? = some r by rw [List.getElem?_append_right (Nat.le_refl _), Nat.sub_self]; rfl)
          have lu' : us.length = qs.length + 1 := by rw [lus, List.length_append]; rfl
          obtain ⟨v1, v2, _, _⟩ := rl.row r (by simp)
          refine ⟨_, rfl, _, rfl, F, us, _, _, rfl, rfl, .inl (.inl (s3 _ _ eF)), atI_end8 (by rw [lu', Nat.add_sub_cancel]; exact hu), pu, _, 0, _, rfl, rfl, hru, rfl, _, _, rfl, rfl, _, rfl, st, 9, rfl, hs3, by decide, by decide, fun r4 H4 a4 b4 g4 => ⟨_, _, rfl, rfl, _, _, rfl, rfl, (show (10 : Int) ≠ 0 by decide), ?_⟩⟩
          have g24 := g23.trans g4
          refine ⟨g2.trans g24, _, _, rfl, g24.1 _ _ nFs eF, Paired.mono pd fun _ _ => RowAt.keep (g24.tk hs2), ?_, ?_, fun qs' r' e => ?_⟩
          · exact (fm (by decide)).1
          · have := (fm (x := r.1 + 1 + r4) (m := 10) (by decide)).2
            omega
          · have er : r' = r := by
              have := (List.append_inj' e rfl).2
              exact (List.cons.inj this).1.symm
            rw [er, Int.fmod_eq_emod_of_nonneg _ (by decide)]
            omega
        · have re : rs = [] := by
            have : b = true := by
              cases b
              · exact absurd rfl c
              · rfl
            exact List.map_eq_nil_iff.mp (PyData.list.inj (hb.mp this))
          subst re
          refine ⟨_, rfl, st, 10, rfl, hs3, by decide, by decide, fun r4 H4 a4 b4 g4 => ?_⟩
          have g24 := g23.trans g4
          exact ⟨g2.trans g24, _, _, rfl, g24.1 _ _ nFs eF, Paired.mono pd fun _ _ => RowAt.keep (g24.tk hs2), a4, by omega, fun qs r e => by simp at e⟩
      clear eF pd hs2 g2
      rintro σ3 H3 ⟨g3, d, z5, rfl, eF, pd, d0, d9, hd⟩
      have hs3 := g3.2 hs
      refine ⟨_, rfl, st, 30, rfl, hs3, by decide, by decide, fun r4 H4 a4 b4 g4 => ⟨_, _, rfl, rfl, ?_⟩⟩
      refine ⟨_, rfl, st, 120, rfl, g4.2 hs3, by decide, by decide, fun r5 H5 a5 b5 g5 => ⟨_, _, rfl, rfl, (by show 8 ≤ sizeLine; decide), fun p6 np6 => ?_⟩⟩
      have g35 := g4.trans g5
      have hs5 := g35.2 hs3
      have n6 := st_ne hs5 np6
      obtain ⟨s6, e6⟩ := new_at (.lst [.int 1, .int 2, .int 24, .int 25, .int 48, .int 49, .int (1 + r4), .int (1 + r5)]) np6
      generalize upd H5 p6 (.lst [.int 1, .int 2, .int 24, .int 25, .int 48, .int 49, .int (1 + r4), .int (1 + r5)]) = H6 at s6 e6 ⊢
      have g36 := g35.trans (gr_same (st := st) s6)
      refine ⟨_, rfl, st, 8, rfl, g36.2 hs3, by decide, by decide, fun r7 H7 a7 b7 g7 => ?_⟩
      have g37 := g36.trans g7
      have hs7 := g37.2 hs3
      obtain ⟨m, m1, em⟩ : ∃ m : Int, 1 ≤ m ∧ atI [V.int 1, .int 2, .int 24, .int 25, .int 48, .int 49, .int (1 + r4), .int (1 + r5)] r7 = some (.int m) := by
        rcases (by omega : r7 = 0 ∨ r7 = 1 ∨ r7 = 2 ∨ r7 = 3 ∨ r7 = 4 ∨ r7 = 5 ∨ r7 = 6 ∨ r7 = 7) with e | e | e | e | e | e | e | e <;> subst e
        · exact ⟨1, by omega, rfl⟩
        · exact ⟨2, by omega, rfl⟩
        · exact ⟨24, by omega, rfl⟩
        · exact ⟨25, by omega, rfl⟩
        · exact ⟨48, by omega, rfl⟩
        · exact ⟨49, by omega, rfl⟩
        · exact ⟨1 + r4, by omega, rfl⟩
        · exact ⟨1 + r5, by omega, rfl⟩
      refine ⟨p6, _, _, _, rfl, rfl, .inl (.inl (g7.1 _ _ n6 e6)), em, ?_⟩
      have eF7 := g37.1 _ _ nFs eF
      have g07 := g3.trans g37
      have pd7 : Paired (RowAt K H7) us rs := Paired.mono pd fun _ _ => RowAt.keep (g37.tk hs3)
      refine ⟨_, rfl, _, rfl, m, _, rfl, rfl, _, rfl, ite2 (fun e => ?_) (fun _ => ⟨g07, us, rs, _, _, _, rfl, eF7, pd7, rl⟩)⟩
      have hle : m ≤ 200 - ((dwg rs).length : Int) := of_decide_eq_true e
      refine ⟨_, rfl, .inl ⟨rfl, _, .inl (.inl eF7)⟩, _, rfl, _, rfl, (by show 2 ≤ sizeLine; decide), fun p8 np8 => ?_⟩
      obtain ⟨s8, e8⟩ := new_at (.tup [.int d, .int m]) np8
      generalize upd H7 p8 (.tup [.int d, .int m]) = H8 at s8 e8 ⊢
      have eF8 := s8 _ _ eF7
      refine ⟨F, _, _, rfl, rfl, eF8, small1000 (by omega), ?_⟩
      refine ⟨_, rfl, _, rfl, _, _, rfl, rfl, ?_⟩
      have k8 : TKeep K H8 (upd H8 F (.lst (us ++ [.ref p8]))) := fun a xs h => tk_updL eF8 _ _ h
      have el : (200 : Int) - ((dwg rs).length : Int) - m = 200 - ((dwg (rs ++ [(d, m)])).length : Int) := by
        rw [dwg_append, dwg_one, List.length_append, List.length_replicate]
        omega
      exact ⟨gr_upd (g07.trans (gr_same (st := st) s8)) nF nFs, us ++ [.ref p8], rs ++ [(d, m)], some (.int (0 + (i : Int))), some (.int d), some (.int m), (by rw [← el]; rfl), upd_same, Paired.snocP (Paired.mono pd7 fun _ _ h => (RowAt.keep (Same.tk s8) h).keep k8) ⟨p8, rfl, k8 _ _ (.inl (.inl e8))⟩, rl.snoc hd d0 d9 m1 (by omega)⟩
    · rintro σ H2 ⟨g2, us, rs, y3, y4, y5, rfl, eF, pd, rl⟩
      exact ⟨_, rfl, q F us rs _ g2 nF eF pd rl⟩
end

def spSame (n : Nat) (K : PySem.W.Frag) : Sp := fun vs H Q _ => ∃ (x y : V) (d : PyData), vs = [x, y] ∧ Dp K H x d ∧ Dp K H y d ∧ dOk n d ∧ ∀ H', Same H H' → Q (.bl true) H'
section
variable {P : Program} {w : World} {K : PySem.W.Frag} {mg : Str → Option Value} {base : Heap}
theorem same_step {f : Addr} {fd : FuncData} (F : Fun K "_law_same" "_law_same" s__law_same f fd) (T : Txt K mg) (n : Nat) (D__law_same : ∀ m, n = m + 1 → Cl P w K mg base n "_law_same" ["_law_found", "_law_due"] (spSame m K)) :
    FnOk P w K mg base CX0 (n + 1) f fd ["_law_found", "_law_due"] (spSame n K) := by
  refine F.ok sc__law_same (fun vs H Q E h => ?_) (fun cdv A outer s H vs Q E hr h => ?_)
  · obtain ⟨x, y, d, rfl, _⟩ := h
    rfl
  · obtain ⟨x, y, d, rfl, hx, hy, hd, q⟩ := h
    have flat : flD d → ∃ t, PSs (cxOf CX0 P w K mg base ["_law_found", "_law_due", "_law_one", "_law_other"] "_law_same" (defScope s__law_same) f cdv A outer s H E).nox (defBody s__law_same) t ∧ t { nx := fun _ H' => Q .non H', rt := Q } (L2.start ["_law_found", "_law_due", "_law_one", "_law_other"] [x, y]) H := by
      intro fl
      obtain ⟨rfl, t, b, fx⟩ := fl.fl hx hy
      refine ⟨_, (pss_cons (ps_if (pt_val (pe_callB call_isiT (by rfl) T.b_isinstance (by decide +kernel) (pa_cons (pv 1) (pa_cons (pe_tup (pa_cons (pe_bltn (v := .ty "tuple") (by rfl) T.b_tuple (by decide +kernel) rfl) (pa_cons (pe_bltn (v := .ty "list") (by rfl) T.b_list (by decide +kernel) rfl) pa_nil))) pa_nil)))) (pss_cons ps_never
      (pss_one ps_never)) pss_nil)
      (pss_one (ps_ret (pe_and (pe_cmpR op_eq (pe_callB call_isi (by rfl) T.b_isinstance (by decide +kernel) (pa_cons (pv 0) (pa_cons (pe_bltn (v := .ty "bool") (by rfl) T.b_bool (by decide +kernel) rfl) pa_nil))) (pe_callB call_isi (by rfl) T.b_isinstance (by decide +kernel) (pa_cons (pv 1) (pa_cons (pe_bltn (v := .ty "bool") (by rfl) T.b_bool (by decide +kernel) rfl) pa_nil))) (nomark _)) (pe_one (pe_cmpR op_eq (pv 0) (pv 1) (nomark _))))))), ?_⟩
      refine ⟨_, rfl, (by show 2 ≤ sizeLine; decide), fun p np => ⟨x, p, [.ty "tuple", .ty "list"], _, _, false, rfl, upd_same, .cons (.ty _) (.cons (.ty _) .nil), fx.ty, fx.kit2, _, rfl, iteF ?_⟩⟩
      refine ⟨_, rfl, _, _, _, _, b, rfl, .ty _, fx.ty, kit_ty fx.kit, _, rfl, _, _, _, _, b, rfl, .ty _, fx.ty, kit_ty fx.kit, rfl, _, rfl, ite2 (fun e => ?_) (fun e => absurd (decide_eq_true rfl) e)⟩
      refine ⟨_, rfl, _, rfl, Fl.scal fx fx, ?_⟩
      rw [decide_eq_true rfl]
      exact q _ (same_upd np)
    cases n with
    | zero => exact flat hd
    | succ m =>
      rcases hd with fl | ⟨ds, hds, hlen, hall⟩
      · exact flat fl
      · have D__law_same := D__law_same m rfl
        rcases hds with rfl | rfl
        · cases hx with | @lst a xs _ ha hxs =>
          cases hy with | @lst b ys _ hb hys =>
          have l1 := DpAll.len hxs
          have l2 := DpAll.len hys
          refine ⟨_, (pss_cons (ps_if (pt_val (pe_callB call_isiT (by rfl) T.b_isinstance (by decide +kernel) (pa_cons (pv 1) (pa_cons (pe_tup (pa_cons (pe_bltn (v := .ty "tuple") (by rfl) T.b_tuple (by decide +kernel) rfl) (pa_cons (pe_bltn (v := .ty "list") (by rfl) T.b_list (by decide +kernel) rfl) pa_nil))) pa_nil)))) (pss_cons (ps_if (PW.pt (pw_or (pt_cmpR op_ne (pe_callB call_isi (by rfl) T.b_isinstance (by decide +kernel) (pa_cons (pv 0) (pa_cons (pe_bltn (v := .ty "tuple") (by rfl) T.b_tuple (by decide +kernel) rfl) pa_nil))) (pe_callB call_isi (by rfl) T.b_isinstance (by decide +kernel) (pa_cons (pv 1) (pa_cons (pe_bltn (v := .ty "tuple") (by rfl) T.b_tuple (by decide +kernel) rfl) pa_nil))) (nomark _)) (pw_or1 (pt_cmpR op_ne (pe_callB call_isi (by rfl) T.b_isinstance (by decide +kernel) (pa_cons (pv 0) (pa_cons (pe_bltn (v := .ty "list") (by rfl) T.b_list (by decide +kernel) rfl) pa_nil))) (pe_callB call_isi (by rfl) T.b_isinstance (by decide +kernel) (pa_cons (pv 1) (pa_cons (pe_bltn (v := .ty "list") (by rfl) T.b_list (by decide +kernel) rfl) pa_nil))) (nomark _))))) (pss_one (ps_ret pe_bl)) pss_nil)
      (pss_one (ps_ret (pe_and (pe_cmpR op_eq (pe_callB call_len_seq (by rfl) T.b_len (by decide +kernel) (pa_cons (pv 0) pa_nil)) (pe_callB call_len_seq (by rfl) T.b_len (by decide +kernel) (pa_cons (pv 1) pa_nil)) (nomark _)) (pe_one (pe_callB (cr_all rfl) (by rfl) T.b_all (by decide +kernel) (pa_cons (pe_lc (own := [("_law_one", 2), ("_law_other", 3)]) (g := (gTup _ 2 (gCons (gName 2) (gCons (gName 3) gNil)))) (tt := tYes) (by rfl) sc__law_same.nd (RZ.pi_zipA (by rfl) T.b_zip (pa_cons (pv 0) (pa_cons (pv 1) pa_nil))) (blkOk_by (own := [("_law_one", 2), ("_law_other", 3)]) (N := ["_law_found", "_law_due", "_law_one", "_law_other"]) (sc := defScope s__law_same) (by decide +kernel)) (fun _ _ _ _ _ => (pg_tup (by rfl) (pgs_cons (pg_name (i := 2) sc__law_same.nd rfl (Or.inl rfl)) (pgs_cons (pg_name (i := 3) sc__law_same.nd rfl (Or.inl rfl)) pgs_nil)))) (fun _ _ _ _ _ => pts_nil) (fun _ _ _ _ _ => (pe_own D__law_same (hr.mono (by omega)) (by rfl) (pa_cons (pv 2) (pa_cons (pv 3) pa_nil))))) pa_nil))))))) pss_nil)
      (pss_one (ps_ret (pe_and (pe_cmpR op_eq (pe_callB call_isi (by rfl) T.b_isinstance (by decide +kernel) (pa_cons (pv 0) (pa_cons (pe_bltn (v := .ty "bool") (by rfl) T.b_bool (by decide +kernel) rfl) pa_nil))) (pe_callB call_isi (by rfl) T.b_isinstance (by decide +kernel) (pa_cons (pv 1) (pa_cons (pe_bltn (v := .ty "bool") (by rfl) T.b_bool (by decide +kernel) rfl) pa_nil))) (nomark _)) (pe_one (pe_cmpR op_eq (pv 0) (pv 1) (nomark _))))))), ?_⟩
          refine ⟨_, rfl, (by show 2 ≤ sizeLine; decide), fun p np => ⟨.ref b, p, [.ty "tuple", .ty "list"], _, _, true, rfl, upd_same, .cons (.ty _) (.cons (.ty _) .nil), tyL ((same_upd np).seq hb),
            kitAny_cons (kit_ty (r := false) (by decide +kernel)) (fun _ => kitAny_cons (kit_ty (r := true) (by decide +kernel)) (fun z => nomatch z) (fun _ => rfl)) (fun z => nomatch z), _, rfl, iteT ?_⟩⟩
          have s1 := same_upd (o := .tup [.ty "tuple", .ty "list"]) np
          generalize upd H p (.tup [.ty "tuple", .ty "list"]) = H1 at s1 ⊢
          have ta := tyL (s1.seq ha)
          have tb := tyL (s1.seq hb)
          refine ⟨_, rfl, _, _, _, _, false, rfl, .ty _, ta, kit_ty (by decide +kernel), _, rfl, _, _, _, _, false, rfl, .ty _, tb, kit_ty (by decide +kernel), rfl, _, rfl, ite2 (fun e => nomatch e) (fun _ => ?_)⟩
          refine ⟨_, rfl, _, _, _, _, true, rfl, .ty _, ta, kit_ty (by decide +kernel), _, rfl, _, _, _, _, true, rfl, .ty _, tb, kit_ty (by decide +kernel), rfl, _, rfl, ite2 (fun e => nomatch e) (fun _ => ?_)⟩
          refine ⟨_, rfl, a, xs, rfl, .inl (s1.seq ha), _, rfl, b, ys, rfl, .inl (s1.seq hb), rfl, _, rfl, ite2 (fun _ => ?_) (fun e => absurd (decide_eq_true (by rw [l1, l2])) e)⟩
          refine ⟨_, rfl, _, rfl, a, b, xs, ys, rfl, .inl ⟨s1.seq ha, s1.seq hb, fun D hD => ?_⟩⟩
          refine lc_zip (J := Itz K a b) (by omega) (by omega) hD (fun H2 s2 => ⟨xs, ys, s2.seq (s1.seq ha), s2.seq (s1.seq hb), .inl (Nat.le_refl _)⟩)
            (fun i H2 s2 hi => ⟨xs, ys, xs[i], ys[i]'(by omega), s2.seq (s1.seq ha), s2.seq (s1.seq hb), List.getElem?_eq_getElem hi, List.getElem?_eq_getElem (by omega)⟩)
            (fun i H2 v H3 s2 ⟨T, x, y, e1, e2, e3, f1, f2⟩ => ⟨T, x, y, e1, e2, e3, f1 _ (s2.seq (s1.seq ha)), f2 _ (s2.seq (s1.seq hb))⟩) (fun i x y T H2 R Z hx hy s2 eT hR => ?_) (fun H2 s2 hL => ?_)
          · obtain ⟨d, hd1, hdx⟩ := DpAll.at hxs hx
            obtain ⟨d', hd2, hdy⟩ := DpAll.at hys hy
            have ed : d = d' := Option.some.inj (hd1.symm.trans hd2)
            subst ed
            exact ⟨T, _, rfl, .inl (.inl eT), rfl, _, _, rfl, _, _, rfl, rfl, rfl, yes_ok ⟨_, rfl, _, rfl, x, y, d, rfl, Dp.sm (s1.trans s2) hdx, Dp.sm (s1.trans s2) hdy, hall d (List.mem_of_getElem? hd1), hR⟩⟩
          · refine ⟨D, _, rfl, .inl (.inl hL), ?_⟩
            rw [show (List.replicate xs.length true).all id = true by simp]
            exact q _ (s1.trans s2)
        · cases hx with | @tup a xs _ ha hxs =>
          cases hy with | @tup b ys _ hb hys =>
          have l1 := DpAll.len hxs
          have l2 := DpAll.len hys
          refine ⟨_, (pss_cons (ps_if (pt_val (pe_callB call_isiT (by rfl) T.b_isinstance (by decide +kernel) (pa_cons (pv 1) (pa_cons (pe_tup (pa_cons (pe_bltn (v := .ty "tuple") (by rfl) T.b_tuple (by decide +kernel) rfl) (pa_cons (pe_bltn (v := .ty "list") (by rfl) T.b_list (by decide +kernel) rfl) pa_nil))) pa_nil)))) (pss_cons (ps_if (PW.pt (pw_or (pt_cmpR op_ne (pe_callB call_isi (by rfl) T.b_isinstance (by decide +kernel) (pa_cons (pv 0) (pa_cons (pe_bltn (v := .ty "tuple") (by rfl) T.b_tuple (by decide +kernel) rfl) pa_nil))) (pe_callB call_isi (by rfl) T.b_isinstance (by decide +kernel) (pa_cons (pv 1) (pa_cons (pe_bltn (v := .ty "tuple") (by rfl) T.b_tuple (by decide +kernel) rfl) pa_nil))) (nomark _)) (pw_or1 (pt_cmpR op_ne (pe_callB call_isi (by rfl) T.b_isinstance (by decide +kernel) (pa_cons (pv 0) (pa_cons (pe_bltn (v := .ty "list") (by rfl) T.b_list (by decide +kernel) rfl) pa_nil))) (pe_callB call_isi (by rfl) T.b_isinstance (by decide +kernel) (pa_cons (pv 1) (pa_cons (pe_bltn (v := .ty "list") (by rfl) T.b_list (by decide +kernel) rfl) pa_nil))) (nomark _))))) (pss_one (ps_ret pe_bl)) pss_nil)
      (pss_one (ps_ret (pe_and (pe_cmpR op_eq (pe_callB call_len_seq (by rfl) T.b_len (by decide +kernel) (pa_cons (pv 0) pa_nil)) (pe_callB call_len_seq (by rfl) T.b_len (by decide +kernel) (pa_cons (pv 1) pa_nil)) (nomark _)) (pe_one (pe_callB (cr_all rfl) (by rfl) T.b_all (by decide +kernel) (pa_cons (pe_lc (own := [("_law_one", 2), ("_law_other", 3)]) (g := (gTup _ 2 (gCons (gName 2) (gCons (gName 3) gNil)))) (tt := tYes) (by rfl) sc__law_same.nd (RZ.pi_zipA (by rfl) T.b_zip (pa_cons (pv 0) (pa_cons (pv 1) pa_nil))) (blkOk_by (own := [("_law_one", 2), ("_law_other", 3)]) (N := ["_law_found", "_law_due", "_law_one", "_law_other"]) (sc := defScope s__law_same) (by decide +kernel)) (fun _ _ _ _ _ => (pg_tup (by rfl) (pgs_cons (pg_name (i := 2) sc__law_same.nd rfl (Or.inl rfl)) (pgs_cons (pg_name (i := 3) sc__law_same.nd rfl (Or.inl rfl)) pgs_nil)))) (fun _ _ _ _ _ => pts_nil) (fun _ _ _ _ _ => (pe_own D__law_same (hr.mono (by omega)) (by rfl) (pa_cons (pv 2) (pa_cons (pv 3) pa_nil))))) pa_nil))))))) pss_nil)
      (pss_one (ps_ret (pe_and (pe_cmpR op_eq (pe_callB call_isi (by rfl) T.b_isinstance (by decide +kernel) (pa_cons (pv 0) (pa_cons (pe_bltn (v := .ty "bool") (by rfl) T.b_bool (by decide +kernel) rfl) pa_nil))) (pe_callB call_isi (by rfl) T.b_isinstance (by decide +kernel) (pa_cons (pv 1) (pa_cons (pe_bltn (v := .ty "bool") (by rfl) T.b_bool (by decide +kernel) rfl) pa_nil))) (nomark _)) (pe_one (pe_cmpR op_eq (pv 0) (pv 1) (nomark _))))))), ?_⟩
          refine ⟨_, rfl, (by show 2 ≤ sizeLine; decide), fun p np => ⟨.ref b, p, [.ty "tuple", .ty "list"], _, _, true, rfl, upd_same, .cons (.ty _) (.cons (.ty _) .nil), tyT (Same.sqT (same_upd np) hb),
            kitAny_cons (kit_ty (r := true) (by decide +kernel)) (fun z => nomatch z) (fun _ => rfl), _, rfl, iteT ?_⟩⟩
          have s1 := same_upd (o := .tup [.ty "tuple", .ty "list"]) np
          generalize upd H p (.tup [.ty "tuple", .ty "list"]) = H1 at s1 ⊢
          have ta := tyT (Same.sqT s1 ha)
          have tb := tyT (Same.sqT s1 hb)
          refine ⟨_, rfl, _, _, _, _, true, rfl, .ty _, ta, kit_ty (by decide +kernel), _, rfl, _, _, _, _, true, rfl, .ty _, tb, kit_ty (by decide +kernel), rfl, _, rfl, ite2 (fun e => nomatch e) (fun _ => ?_)⟩
          refine ⟨_, rfl, _, _, _, _, false, rfl, .ty _, ta, kit_ty (by decide +kernel), _, rfl, _, _, _, _, false, rfl, .ty _, tb, kit_ty (by decide +kernel), rfl, _, rfl, ite2 (fun e => nomatch e) (fun _ => ?_)⟩
          refine ⟨_, rfl, a, xs, rfl, .inr (Same.sqT s1 ha), _, rfl, b, ys, rfl, .inr (Same.sqT s1 hb), rfl, _, rfl, ite2 (fun _ => ?_) (fun e => absurd (decide_eq_true (by rw [l1, l2])) e)⟩
          refine ⟨_, rfl, _, rfl, a, b, xs, ys, rfl, .inr ⟨Same.sqT s1 ha, Same.sqT s1 hb, fun D hD => ?_⟩⟩
          refine lc_zip (J := RZ.ItzT K a b) (by omega) (by omega) hD (fun H2 s2 => ⟨xs, ys, Same.sqT s2 (Same.sqT s1 ha), Same.sqT s2 (Same.sqT s1 hb), .inl (Nat.le_refl _)⟩)
            (fun i H2 s2 hi => ⟨xs, ys, xs[i], ys[i]'(by omega), Same.sqT s2 (Same.sqT s1 ha), Same.sqT s2 (Same.sqT s1 hb), List.getElem?_eq_getElem hi, List.getElem?_eq_getElem (by omega)⟩)
            (fun i H2 v H3 s2 ⟨T, x, y, e1, e2, e3, f1, f2⟩ => ⟨T, x, y, e1, e2, e3, f1 _ (Same.sqT s2 (Same.sqT s1 ha)), f2 _ (Same.sqT s2 (Same.sqT s1 hb))⟩) (fun i x y T H2 R Z hx hy s2 eT hR => ?_) (fun H2 s2 hL => ?_)
          · obtain ⟨d, hd1, hdx⟩ := DpAll.at hxs hx
            obtain ⟨d', hd2, hdy⟩ := DpAll.at hys hy
            have ed : d = d' := Option.some.inj (hd1.symm.trans hd2)
            subst ed
            exact ⟨T, _, rfl, .inl (.inl eT), rfl, _, _, rfl, _, _, rfl, rfl, rfl, yes_ok ⟨_, rfl, _, rfl, x, y, d, rfl, Dp.sm (s1.trans s2) hdx, Dp.sm (s1.trans s2) hdy, hall d (List.mem_of_getElem? hd1), hR⟩⟩
          · refine ⟨D, _, rfl, .inl (.inl hL), ?_⟩
            rw [show (List.replicate xs.length true).all id = true by simp]
            exact q _ (s1.trans s2)
theorem same_all {f : Addr} {fd : FuncData} (F : Fun K "_law_same" "_law_same" s__law_same f fd) (T : Txt K mg) (hb : Binds K fd ["_law_found", "_law_due"] []) (hm : mg "_law_same" = some (.ref f)) :
    ∀ n, Cl P w K mg base (n + 1) "_law_same" ["_law_found", "_law_due"] (spSame n K)
  | 0 => ⟨f, fd, same_step F T 0 (fun m e => nomatch e), F.kp, hb, hm⟩
  | n + 1 => ⟨f, fd, same_step F T (n + 1) (fun m e => by cases e; exact same_all F T hb hm n), F.kp, hb, hm⟩
end

abbrev sp__law_same (K : PySem.W.Frag) : Sp := spSame 3 K
theorem rf14 : rfN 14 = ("many" : Str) := by decide +kernel
theorem rf6 : rfN 6 = ("drawings" : Str) := by decide +kernel
theorem no_ne {x y : V} (h : x = y) (e : (!decide (x = y)) = true) : False := by
  rw [decide_eq_true h] at e
  cases e
theorem ints_dg {K : PySem.W.Frag} {fx H : Hp} : ∀ ns : List Int, DgAll K fx H true (ns.map V.int) (ns.map .int)
  | [] => .nil
  | _ :: t => .cons (.int _) (ints_dg t)
theorem flat_two {rs : List RW} (h : RL rs) (j : Nat) : ((rs.take j).flatMap fun r => rrun r.1 r.2).length ≤ 200 ∧ (dwg (rs.take j)).length ≤ 200 := by
  have a1 := flat_len (rs.take j) fun r hr => (h.row r (List.mem_of_mem_take hr)).2.2.1
  have a2 : (dwg (rs.take j)).length ≤ (dwg rs).length := by
    have e : dwg rs = dwg (rs.take j) ++ dwg (rs.drop j) := by rw [← dwg_append, List.take_append_drop]
    rw [e, List.length_append]
    omega
  have a3 := h.len
  have a4 := h.all
  rw [List.length_take] at a1
  omega
theorem hrun_len {n : Int} (h1 : 1 ≤ n) (h2 : n ≤ 200) : (hrun n).length ≤ 20 := by
  unfold hrun
  rw [List.length_append, List.length_replicate]
  show 1 + _ ≤ 20
  omega
theorem mem9 {α : Type} {a b c d f g h i j e : α} (hh : e ∈ [a, b, c, d, f, g, h] ++ [i, j]) : e = a ∨ e = b ∨ e = c ∨ e = d ∨ e = f ∨ e = g ∨ e = h ∨ e = i ∨ e = j := by
  simpa using hh
theorem lys_D {rs : List RW} (h : rs.length ≤ 8) : dOk 3 (lyD (rs, none)) := by
  refine .inr ⟨_, .inr rfl, (by show 2 ≤ 1000; decide), fun e he => ?_⟩
  rcases mem2 he with rfl | rfl
  · refine .inr ⟨_, .inr rfl, by rw [List.length_map]; show rs.length ≤ 1000; omega, fun e he => ?_⟩
    obtain ⟨r, _, rfl⟩ := List.mem_map.mp he
    exact dOk_rw r
  · exact .inl (.inl rfl)
section
variable {P : Program} {w : World} {K : PySem.W.Frag} {mg : Str → Option Value} {base : Heap}
def sp_law (K : PySem.W.Frag) (TS : List (Addr × Str)) : Sp := fun vs H Q _ => ∃ (a : Addr) (ns : List Int), vs = [.ref a] ∧ SqL K H a (ns.map V.int) ∧ ns.length ≤ 63 ∧ LamX.Tabs TS H ∧ ∀ H', Q (.bl true) H'
theorem ok_law {f gr gy cc PP : Addr} {fd fdr fdy : FuncData} {c : Nat → Addr} {LE : Addr} {TS : List (Addr × Str)} (F : FunC K "law" "law" s_law f fd cc) (T : Txt K mg) (TX : ExcN K mg c LE) (MR : Mkr base mg cc PP "law" TS) (Fr : Fun K "_law_refused" "_law_refused" s__law_refused gr fdr) (mr : mg "_law_refused" = some (.ref gr)) (br : Binds K fdr ["_law_call"] []) (DM : ClE P w K mg base 1 "_law_marks" ["_law_error"] (spMrk c)) (Fy : Fun K "_law_many" "_law_many" s__law_many gy fdy) (my : mg "_law_many" = some (.ref gy)) (byy : Binds K fdy ["_law_call"] []) (xm : PySem.W.exmOne K (.ref (c 14)) (.ref (c 14)) = some true) (D__law_state : Cl P w K mg base 2 "_law_state" ["_law_script", "_law_k"] (sp__law_state K)) (D__law_runs : Cl P w K mg base 2 "_law_runs" ["_law_state_here"] (sp__law_runs K)) (D__law_split : Cl P w K mg base 1 "_law_split" ["_law_size"] (sp__law_split K)) (D_folded : ClX P w K mg base 5 "folded" ["drawings"] (sp_folded K c)) (D__law_same : Cl P w K mg base 4 "_law_same" ["_law_found", "_law_due"] (sp__law_same K)) (D_laid : ClX P w K mg base 7 "laid" ["layer", "many"] (sp_laid K c)) (D__law_take : Cl P w K mg base 1 "_law_take" ["_law_state_here", "_law_many_here"] (sp__law_take K)) : FnG P w K mg base 10 f fd ["_law_script"] (sp_law K TS) := by
  refine fun_okLG F sc_law (fun vs H Q E h => ?_) (fun A outer s H vs Q E hgu hr h => ?_)
  · obtain ⟨a, ns, rfl, _⟩ := h
    rfl
  · obtain ⟨a, ns, rfl, hS, hlen, hT0, q⟩ := h
    refine ⟨_, (pss_cons (ps_for PassesOwn.never rfl (pi_range1 (by rfl) T.b_range (pa_cons (pe_callB (call_max2 rfl) (by rfl) T.b_max (by decide +kernel) (pa_cons pe_int (pa_cons (pe_callB (call_min2 rfl) (by rfl) T.b_min (by decide +kernel) (pa_cons (pe_callB call_len_seq (by rfl) T.b_len (by decide +kernel) (pa_cons (pv 0) pa_nil)) (pa_cons pe_int pa_nil))) pa_nil))) pa_nil)) (pg_name (i := 1) sc_law.nd rfl (Or.inl rfl))
        (pss_cons (ps_set (i := 2) sc_law.nd rfl (Or.inl rfl) (pe_own D__law_state (hr.mono (by omega)) (by rfl) (pa_cons (pv 0) (pa_cons (pv 1) pa_nil))))
      (pss_cons (ps_asg (pe_tup (pa_cons (pe_lst pa_nil) (pa_cons (pe_lst pa_nil) pa_nil))) (pg_tup (by rfl) (pgs_cons (pg_name (i := 3) sc_law.nd rfl (Or.inr rfl)) (pgs_cons (pg_name (i := 4) sc_law.nd rfl (Or.inl rfl)) pgs_nil))))
      (pss_cons (ps_for PassesOwn.never rfl (pi_list (pe_own D__law_runs (hr.mono (by omega)) (by rfl) (pa_cons (pv 2) pa_nil))) (pg_tup (by rfl) (pgs_cons (pg_name (i := 5) sc_law.nd rfl (Or.inr rfl)) (pgs_cons (pg_name (i := 6) sc_law.nd rfl (Or.inl rfl)) pgs_nil)))
        (pss_cons (ps_set (i := 3) sc_law.nd rfl (Or.inr rfl) (pe_op op_cat (pv 3) (pe_op op_rep (pe_lst (pa_cons (pv 5) pa_nil)) (pv 6))))
      (pss_one (ps_set (i := 4) sc_law.nd rfl (Or.inl rfl) (pe_op op_cat (pv 4) (pe_lc (own := [("_law_hold", 13)]) (g := (gName 13)) (tt := tYes) (by rfl) sc_law.nd (pi_list (pe_own D__law_split (hr.mono (by omega)) (by rfl) (pa_cons (pv 6) pa_nil))) (blkOk_by (own := [("_law_hold", 13)]) (N := ["_law_script", "_law_k", "_law_state_here", "_law_drawings", "_law_rows", "_law_drawing", "_law_size", "_law_kept", "_law_told", "_law_at", "_law_odd_here", "_law_bad", "_law_thing", "_law_hold"]) (sc := defScope s_law) (by decide +kernel)) (fun _ _ _ _ _ => (pg_name (i := 13) sc_law.nd rfl (Or.inl rfl))) (fun _ _ _ _ _ => pts_nil) (fun _ _ _ _ _ => (pe_tup (pa_cons (pv 5) (pa_cons (pv 13) pa_nil))))))))))
      (C8.pss_cut (ps_set (i := 7) sc_law.nd rfl (Or.inl rfl) (pe_callB (call_repr hgu hr.units) (by rfl) T.b_repr (by decide +kernel) (pa_cons (pv 3) pa_nil)))
      (C8.pss_cut (ps_if (pt_cmpR op_gt (pe_callB call_len_seq (by rfl) T.b_len (by decide +kernel) (pa_cons (pv 4) pa_nil)) pe_int (nomark _)) (pss_cons (ps_if (pt_cmpR op_ne (pe_met (k := 5) (refused_mk Fr mr br T TX DM (hr.mono (by omega))) (by rfl) MR.tb rfl MR.hm MR.hu (hr.mono (by omega)) (LamX.lamS_by (sc := defScope s_law) (by decide +kernel)) (fun A outer s H E f c' hr => (pe_ownX D_folded (hr.mono (by omega)) (takes_of rfl rfl rfl rfl) (by rfl) (pa_cons (pv 3) pa_nil)))) pe_str (nomark _)) (pss_one (ps_ret pe_bl)) pss_nil)
      (pss_one (ps_if (pt_cmpR (op_neD hr.units) (pe_met (k := 5) (many_mk Fy my byy xm T TX (hr.mono (by omega))) (by rfl) MR.tb rfl MR.hm MR.hu (hr.mono (by omega)) (LamX.lamS_by (sc := defScope s_law) (by decide +kernel)) (fun A outer s H E f c' hr => (pe_ownX D_folded (hr.mono (by omega)) (takes_of rfl rfl rfl rfl) (by rfl) (pa_cons (pv 3) pa_nil)))) (pe_tup (pa_cons (pe_callB call_len_seq (by rfl) T.b_len (by decide +kernel) (pa_cons (pv 4) pa_nil)) (pa_cons pe_int pa_nil))) (nomark _)) (pss_one (ps_ret pe_bl)) pss_nil))) (pss_cons (ps_set (i := 8) sc_law.nd rfl (Or.inl rfl) (pe_ownX D_folded (hr.mono (by omega)) takes0 (by rfl) (pa_cons (pv 3) pa_nil)))
      (pss_one (ps_if (PW.pt (pw_or (pt_not (pt_val (pe_own D__law_same (hr.mono (by omega)) (by rfl) (pa_cons (pv 8) (pa_cons (pe_tup (pa_cons (pe_callTy call_tuple_of (by rfl) T.b_tuple (by decide +kernel) (pa_cons (pv 4) pa_nil)) (pa_cons pe_non pa_nil))) pa_nil))))) (pw_or1 (pt_cmpR (op_neD hr.units) (pe_ownX D_laid (hr.mono (by omega)) takes0 (by rfl) (pa_cons (pv 8) (pa_cons (pe_callB call_len_seq (by rfl) T.b_len (by decide +kernel) (pa_cons (pv 3) pa_nil)) pa_nil))) (pv 3) (nomark _))))) (pss_one (ps_ret pe_bl)) pss_nil))))
      (pss_cons (ps_par (i := 9) (j := 10) (by rfl) sc_law.nd rfl rfl (by decide) rfl rfl (pa_cons (pe_own D__law_take (hr.mono (by omega)) (by rfl) (pa_cons (pv 2) (pa_cons (pe_op op_add (pe_callB call_len_seq (by rfl) T.b_len (by decide +kernel) (pa_cons (pv 3) pa_nil)) pe_int) pa_nil))) (pa_cons (pe_ix ix_list (pe_lst (pa_cons (pe_un un_neg pe_int) (pa_cons pe_int (pa_cons pe_bl (pa_cons pe_non (pa_cons pe_str (pa_cons (pe_tup (pa_cons pe_int pa_nil)) pa_nil))))))) (pe_own D__law_take (hr.mono (by omega)) (by rfl) (pa_cons (pv 2) (pa_cons pe_int pa_nil))) (fun _ _ => rfl)) pa_nil)) (by rfl))
      (C8.pss_cut (ps_set (i := 11) sc_law.nd rfl (Or.inl rfl) (pe_lst (pa_cons (pe_callTy call_tuple_of (by rfl) T.b_tuple (by decide +kernel) (pa_cons (pv 3) pa_nil)) (pa_cons (pe_op op_rep (pe_lst (pa_cons pe_int pa_nil)) pe_int) (pa_cons (pe_op op_cat (pe_op op_cat (pe_slice sl_list (pv 3) po_none (po_some (pv 9))) (pe_lst (pa_cons (pv 10) pa_nil))) (pe_slice sl_list (pv 3) (po_some (pe_op op_add (pv 9) pe_int)) po_none)) (pa_cons pe_str (pa_cons pe_non (pa_cons pe_dnewK (pa_cons (pe_tup (pa_cons pe_int pa_nil)) pa_nil)))))))))
      (pss_cons (ps_for PassesOwn.never rfl (pi_list (pe_op op_cat (pv 11) (pe_lst (pa_cons (pe_disp (pps_cons pe_int pe_int pps_nil) (by rfl) (by rfl) (fun z => by cases z) (by decide)) (pa_cons pe_int pa_nil))))) (pg_name (i := 12) sc_law.nd rfl (Or.inr rfl))
        (pss_one (ps_if (pt_cmpR op_ne (pe_met (k := 5) (refused_mk Fr mr br T TX DM (hr.mono (by omega))) (by rfl) MR.tb rfl MR.hm MR.hu (hr.mono (by omega)) (LamX.lamS_by (sc := defScope s_law) (by decide +kernel)) (fun A outer s H E f c' hr => (pe_ownX D_folded (hr.mono (by omega)) (takes_of rfl rfl rfl rfl) (by rfl) (pa_cons (pv 12) pa_nil)))) pe_str (nomark _)) (pss_one (ps_ret pe_bl)) pss_nil)))
      (pss_one (ps_if (pt_cmpR op_ne (pe_callB (call_repr hgu hr.units) (by rfl) T.b_repr (by decide +kernel) (pa_cons (pv 3) pa_nil)) (pv 7) (nomark _)) (pss_one (ps_ret pe_bl)) pss_nil)))))))))))
      (pss_one (ps_ret pe_bl))), ?_⟩
    obtain ⟨n, n0, n1, en⟩ : ∃ c : Int, 0 ≤ c ∧ c ≤ 6 ∧ (if (if (6 : Int) < ((ns.map V.int).length : Int) then (6 : Int) else ((ns.map V.int).length : Int)) > 1 then (if (6 : Int) < ((ns.map V.int).length : Int) then (6 : Int) else ((ns.map V.int).length : Int)) else (1 : Int)) = c := by
      refine ⟨_, ?_, ?_, rfl⟩ <;> (repeat' split) <;> omega
    refine ⟨_, rfl, a, _, rfl, .inl hS, _, _, rfl, _, _, rfl, n, ?_, by omega, by omega, ?_⟩
    · rw [en]
    refine for_range (lo := 0) (n := n.toNat) (fun i σ H' => Go TS H H' ∧ ∃ y1 y2 y3 y4 y5 y6 y7 y8 y9 y10 y11 y12 y13, σ = [some (.ref a), y1, y2, y3, y4, y5, y6, y7, y8, y9, y10, y11, y12, y13])
      ⟨⟨LamX.ExtN.refl _, hT0⟩, none, none, none, none, none, none, none, none, none, none, none, none, none, rfl⟩ ?_ (fun _ H' _ => q H')
    rintro i σ H0 hi ⟨o0, y1, y2, y3, y4, y5, y6, y7, y8, y9, y10, y11, y12, y13, rfl⟩
    refine ⟨_, rfl, _, rfl, a, ns, _, rfl, o0.sqL hS, by omega, fun H1 st s1 n1 hs1 => ?_⟩
    refine ⟨Nat.zero_le _, fun D0 nD0 => ?_⟩
    obtain ⟨s2, e2⟩ := new_at (.lst []) nD0
    have nD0s := st_ne hs1 nD0
    generalize upd H1 D0 (.lst []) = H2 at s2 e2 ⊢
    refine ⟨Nat.zero_le _, fun R0 nR0 => ?_⟩
    have nR0s := st_ne ((gr_same (st := st) s2).2 hs1) nR0
    obtain ⟨s3, e3⟩ := new_at (.lst []) nR0
    generalize upd H2 R0 (.lst []) = H3 at s3 e3 ⊢
    refine ⟨(by show 2 ≤ sizeLine; decide), fun p4 np4 => ?_⟩
    obtain ⟨s4, e4⟩ := new_at (.tup [.ref D0, .ref R0]) np4
    generalize upd H3 p4 (.tup [.ref D0, .ref R0]) = H4 at s4 e4 ⊢
    have g14 := gr_same (st := st) ((s2.trans s3).trans s4)
    have hs4 := g14.2 hs1
    refine ⟨p4, _, rfl, .inl (.inl e4), rfl, _, _, rfl, _, _, rfl, rfl, ?_⟩
    refine ⟨_, rfl, st, rfl, hs4, fun F us rs H5 g5 nF eF pd rl => ?_⟩
    have hs5 := g5.2 hs4
    have eD5 := g5.1 _ _ nD0s (s4 _ _ (s3 _ _ e2))
    have eR5 := g5.1 _ _ nR0s (s4 _ _ e3)
    have nFs := st_ne hs4 nF
    have lus := Paired.length pd
    refine ⟨F, rfl, ⟨_, .inl (.inl eF)⟩, for_list (K := K) (a := F) (xs := us) (fun j σ H' => Same H5 H' ∧ ∃ (D R : Addr) (vs : List V) (y5 y6 : Option V), σ = [some (.ref a), some (.int (0 + (i : Int))), some (.ref st), some (.ref D), some (.ref R), y5, y6, y7, y8, y9, y10, y11, y12, y13] ∧ D ≠ st ∧ R ≠ st ∧ H' D = some (.lst ((dwg (rs.take j)).map V.int)) ∧ H' R = some (.lst vs) ∧ Paired (RowAt K H') vs ((rs.take j).flatMap fun r => rrun r.1 r.2))
      ⟨Same.refl _, D0, R0, [], _, _, rfl, nD0s, nR0s, eD5, eR5, .nil⟩ (fun j σ H' _ z => .inl (.inl (z.1 _ _ eF))) ?_ ?_⟩
    · rintro j u σ H6 hu ⟨s6, D, R, vs, z5, z6, rfl, nDs, nRs, eD, eR, pv⟩
      obtain ⟨r, hr1, pu, rfl, hru⟩ := Paired.at pd hu
      have hs6 := (gr_same (st := st) s6).2 hs5
      obtain ⟨r1, r2, r3, r4⟩ := rl.row r (List.mem_of_getElem? hr1)
      obtain ⟨f1, f2⟩ := flat_two rl j
      have lv := Paired.length pv
      refine ⟨pu, _, rfl, Same.sqT s6 hru, rfl, _, _, rfl, _, _, rfl, rfl, ?_⟩
      refine ⟨_, rfl, _, rfl, (by show 1 ≤ sizeLine; decide), fun p7 np7 => ?_⟩
      obtain ⟨s7, e7⟩ := new_at (.lst [.int r.1]) np7
      generalize upd H6 p7 (.lst [.int r.1]) = H7 at s7 e7 ⊢
      refine ⟨_, rfl, p7, _, _, rfl, rfl, e7, by omega, by omega, ?_, fun p8 np8 => ?_⟩
      · show 1 * r.2.toNat ≤ sizeLine
        exact Nat.le_of_lt (small1000 (by omega))
      obtain ⟨s8, e8⟩ := new_at (.lst (List.replicate r.2.toNat [V.int r.1]).flatten) np8
      generalize upd H7 p8 (.lst (List.replicate r.2.toNat [V.int r.1]).flatten) = H8 at s8 e8 ⊢
      have ef : (List.replicate r.2.toNat [V.int r.1]).flatten = (List.replicate r.2.toNat r.1).map V.int := by
        rw [List.map_replicate]
        induction r.2.toNat with
        | zero => rfl
        | succ k ih => rw [List.replicate_succ, List.replicate_succ, List.flatten_cons, ih]; rfl
      rw [ef] at e8
      have s68 := s7.trans s8
      refine ⟨D, p8, _, _, rfl, rfl, s68 _ _ eD, e8, Nat.le_of_lt (small1000 (by rw [List.length_map, List.length_map, List.length_replicate]; omega)), fun D' nD' => ?_⟩
      have nD's := st_ne ((gr_same (st := st) s68).2 hs6) nD'
      obtain ⟨s9, e9⟩ := new_at (.lst ((dwg (rs.take j)).map V.int ++ (List.replicate r.2.toNat r.1).map V.int)) nD'
      generalize upd H8 D' (.lst ((dwg (rs.take j)).map V.int ++ (List.replicate r.2.toNat r.1).map V.int)) = H9 at s9 e9 ⊢
      have e9' : H9 D' = some (.lst ((dwg (rs.take (j + 1))).map V.int)) := by
        rw [e9, List.take_add_one, hr1, dwg_append, ← List.map_append]
        show _ = some (HO.lst ((dwg (rs.take j) ++ dwg [(r.1, r.2)]).map V.int))
        rw [dwg_one]
      have s69 := s68.trans s9
      have hs9 := (gr_same (st := st) s69).2 hs6
      refine ⟨_, rfl, _, rfl, r.2, rfl, r3, r4, fun H10 L s10 nL eL => ⟨L, rfl, ⟨_, .inl (.inl eL)⟩, fun G nG => ?_⟩⟩
      have lh := hrun_len r3 r4
      refine lc_list (K := K) (a := L) (xs := (hrun r.2).map V.int) (fun k H' => Same H10 H' ∧ ∃ zs : List V, H' G = some (.lst zs) ∧ zs.length = k ∧ Paired (RowAt K H') zs (((hrun r.2).take k).map fun h => (r.1, h)))
        ⟨same_upd nG, [], upd_same, rfl, .nil⟩ (fun k H' _ z => .inl (.inl (z.1 _ _ eL))) (fun k u2 H11 hu2 p11 => ?_) (fun H11 p11 => ?_)
      · obtain ⟨s11, zs, eG, lz, pz⟩ := p11
        rw [List.getElem?_map] at hu2
        obtain ⟨hh, hh1, rfl⟩ := Option.map_eq_some_iff.mp hu2
        have hk : k < (hrun r.2).length := (List.getElem?_eq_some_iff.mp hh1).1
        refine ⟨rfl, yes_ok ⟨_, rfl, _, rfl, (by show 2 ≤ sizeLine; decide), fun p12 np12 => ?_⟩⟩
        obtain ⟨s12, e12⟩ := new_at (.tup [.int r.1, .int hh]) np12
        generalize upd H11 p12 (.tup [.int r.1, .int hh]) = H12 at s12 e12 ⊢
        have eG12 := s12 _ _ eG
        have k12 : TKeep K H12 (upd H12 G (.lst (zs ++ [.ref p12]))) := fun a xs h => tk_updL eG12 _ _ h
        refine ⟨zs, eG12, small1000 (by omega), fun b o e => ?_, zs ++ [.ref p12], upd_same, by rw [List.length_append, lz]; rfl, ?_⟩
        · rw [upd_ne (ne_of_none e nG)]
          exact s12 _ _ (s11 _ _ e)
        · rw [List.take_add_one, hh1, List.map_append]
          exact Paired.snocP (Paired.mono pz fun _ _ h => (RowAt.keep (Same.tk s12) h).keep k12) ⟨p12, rfl, k12 _ _ (.inl (.inl e12))⟩
      obtain ⟨s11, zs, eG, lz, pz⟩ := p11
      rw [List.length_map, List.take_length] at pz
      rw [List.length_map] at lz
      have s911 := s10.trans s11
      have s611 := s69.trans s911
      refine ⟨R, G, _, _, rfl, rfl, s611 _ _ eR, eG, Nat.le_of_lt (small1000 (by omega)), fun R' nR' => ?_⟩
      have nR's := st_ne ((gr_same (st := st) s911).2 hs9) nR'
      obtain ⟨s12, e12⟩ := new_at (.lst (vs ++ zs)) nR'
      refine ⟨(s6.trans s611).trans s12, D', R', vs ++ zs, _, _, rfl, nD's, nR's, s12 _ _ (s911 _ _ e9'), e12, ?_⟩
      rw [List.take_add_one, hr1, List.flatMap_append]
      show Paired _ _ (_ ++ (rrun r.1 r.2 ++ []))
      rw [List.append_nil, rrun_holds]
      exact Paired.appP (Paired.mono pv fun _ _ => RowAt.keep (Same.tk (s611.trans s12))) (Paired.mono pz fun _ _ => RowAt.keep (Same.tk s12))
    rintro σ H6 ⟨s6, D, R, vs, z5, z6, rfl, nDs, nRs, eD, eR, pv⟩
    rw [lus, List.take_length] at eD pv
    rw [← rl.fold] at pv
    have hx := rl.drw
    have l200 := rl.all
    clear e4 s2 s3 s4 e2 e3 eD5 eR5 nD0 nR0 np4
    have g16 : Gr st H1 H6 := (g14.trans g5).trans (gr_same (st := st) s6)
    generalize dwg rs = xs at eD pv hx l200
    clear pd eF nF nFs lus rl s6 g14 g5
    have hs6 := g16.2 hs1
    have lv : vs.length = (foldR xs).length := Paired.length pv
    -- kept
    have ro : RO 1 8400 (.list (xs.map .int)) := RO.lst (k := 0) (w := 41) (fun e he => by
      obtain ⟨z, hz, rfl⟩ := List.mem_map.mp he
      have := hx z hz
      exact RO.int (by omega) (by omega)) (by rw [List.length_map]; omega)
    obtain ⟨S, hS'⟩ : ∃ S, (PyData.list (xs.map .int)).shown = S := ⟨_, rfl⟩
    obtain ⟨ro1, ro2, ro3, ro4⟩ := ro_args ro (by decide) (by decide)
    refine ⟨fun σ' H' => H' = H6 ∧ σ' = [some (.ref a), some (.int (0 + (i : Int))), some (.ref st), some (.ref D), some (.ref R), z5, z6, some (.str S), y8, y9, y10, y11, y12, y13], ⟨_, rfl, D, _, S, rfl, ints_dpl (.inl (.inl eD)), ro1, ro2, ro3, ro4, hS', rfl, rfl⟩, ?_⟩
    rintro σ H6' ⟨e6, rfl⟩
    obtain rfl := e6.symm
    have gv6 : Gv TS st H1 H6 := g16.v hs1
    have hT6 := gv6.2.2 (o0.t.ext s1)
    refine ⟨fun σ' H' => Gv TS st H6 H' ∧ ∃ y8, σ' = [some (.ref a), some (.int (0 + (i : Int))), some (.ref st), some (.ref D), some (.ref R), z5, z6, some (.str S), y8, y9, y10, y11, y12, y13], ?_, ?_⟩
    · refine ⟨_, rfl, R, vs, rfl, .inl (.inl (.inl eR)), _, 8, rfl, rfl, _, rfl, ite2 (fun e => ?_) (fun e => ?_)⟩
      · have h8 : 8 < (foldR xs).length := by
          have : (vs.length : Int) > 8 := of_decide_eq_true e
          omega
        refine ⟨hT6, fun Hb eb tb => ?_⟩
        have gb := gv_ext (st := st) eb tb
        refine ⟨_, rfl, .ref D, rfl, .inl ⟨D, xs, rfl, .inl (.inl (gb.lst nDs eD)), hx, l200, fun z => absurd z (by omega), fun _ Hc d sc nd ed => ⟨14, by decide, rfl, (fun dd e => ⟨_, by cases e; exact ed⟩), fun Hc' sc' => ?_⟩⟩⟩
        refine ⟨rfl, _, rfl, ite2 (fun e => (no_ne (congrArg V.str rf14) e).elim) (fun _ => ?_)⟩
        have gc := gb.trans (gv_same (TS := TS) (sc.trans sc'))
        refine ⟨gc.2.2 hT6, fun Hd ed' td => ?_⟩
        have gd := gc.trans (gv_ext (st := st) ed' td)
        refine ⟨_, rfl, .ref D, rfl, .inl ⟨D, xs, rfl, .inl (.inl (gd.lst nDs eD)), hx, l200, fun z => absurd z (by omega), fun _ He d2 se nd2 ed2 => ⟨rfl, d2, _, _, _, rfl, ed2, rfl, rfl, fun Hf p sf np ep => ?_⟩⟩⟩
        have gf := gd.trans (gv_same (TS := TS) (se.trans sf))
        refine ⟨_, rfl, R, vs, rfl, .inl (.inl (.inl (gf.lst nRs eR))), (by show 2 ≤ sizeLine; decide), fun p2 np2 => ?_⟩
        obtain ⟨s9, e9⟩ := new_at (.tup [.int (vs.length : Int), .int 8]) np2
        rw [← lv] at ep
        have tD : ∀ {H' : Hp} {q : Addr}, H' q = some (.tup [.int (vs.length : Int), .int 8]) → Dp K H' (.ref q) (rwD ((vs.length : Int), 8)) := fun h => RowAt.dp ⟨_, rfl, .inl (.inl h)⟩
        exact ne_same (tD (s9 _ _ ep)) (tD e9) (sd_rw _) (by decide) ⟨_, rfl, ite2 (fun e => nomatch (show false = true from e)) (fun _ => ⟨gf.trans (gv_same s9), _, rfl⟩)⟩
      · have h8 : (foldR xs).length ≤ 8 := by
          have : ¬ (vs.length : Int) > 8 := fun z => e (decide_eq_true z)
          omega
        refine ⟨_, rfl, .ref D, rfl, .inl ⟨D, xs, rfl, .inl (.inl eD), hx, l200, fun _ H7 tv s7 hly => ?_, fun z => absurd z (by omega)⟩⟩
        refine ⟨_, rfl, _, rfl, R, vs, rfl, .inl ⟨.inl (.inl (s7 _ _ eR)), fun p8 np8 => ?_⟩⟩
        obtain ⟨s8, e8⟩ := new_at (.tup vs) np8
        generalize upd H7 p8 (.tup vs) = H8 at s8 e8 ⊢
        refine ⟨(by show 2 ≤ sizeLine; decide), fun p9 np9 => ?_⟩
        obtain ⟨s9, e9⟩ := new_at (.tup [.ref p8, .non]) np9
        generalize upd H8 p9 (.tup [.ref p8, .non]) = H9 at s9 e9 ⊢
        have s79 := s8.trans s9
        have s69 := s7.trans s79
        have ly9 : LyAt K H9 (.ref p9) (foldR xs, none) := ⟨p9, .ref p8, rfl, .inl (.inl e9), p8, vs, rfl, .inl (.inl (s9 _ _ e8)), Paired.mono pv fun _ _ => RowAt.keep (Same.tk s69)⟩
        have tv9 : LyAt K H9 tv (foldR xs, none) := LayAt.keep (Same.tk s79) hly
        refine ⟨tv, .ref p9, _, rfl, tv9.dp, ly9.dp, lys_D h8, fun H10 s10 => ⟨_, rfl, iteF ?_⟩⟩
        have s610 := s69.trans s10
        refine ⟨_, rfl, _, rfl, D, _, rfl, .inl (.inl (.inl (s610 _ _ eD))), tv, foldR xs, none, _, rfl, LayAt.keep (Same.tk s10) tv9, ⟨h8, foldR_row hx⟩, (fun i hi => nomatch hi), by omega, by rw [List.length_map]; omega, fun H11 p11 s11 np11 e11 => ?_⟩
        have el : lays (foldR xs) none ((xs.map V.int).length : Int).toNat = xs.map V.int := by
          rw [List.length_map, Int.toNat_natCast, laysI_map]
          have := lays_dwg (foldR_row hx)
          rw [foldR_dwg] at this
          rw [this]
        rw [el] at e11
        refine ⟨_, rfl, ne_ints (.inl (.inl e11)) (.inl (.inl (s11 _ _ (s610 _ _ eD)))) ⟨_, rfl, ?_⟩⟩
        rw [decide_eq_true (rfl : xs = xs)]
        exact iteF ⟨gv_same (s610.trans s11), _, rfl⟩
    rintro σ H7 ⟨g7, y8', rfl⟩
    have hs7 := g7.2.1 hs6
    have eD7 := g7.lst nDs eD
    -- the place, the odd one
    refine ⟨_, rfl, _, rfl, D, _, rfl, .inl (.inl (.inl eD7)), _, _, rfl, rfl, st, _, rfl, hs7, by omega, by rw [List.length_map]; omega, fun r8 H8 a8 b8 g8 => ?_⟩
    rw [List.length_map] at b8
    obtain ⟨m, rfl⟩ : ∃ m : Nat, r8 = (m : Int) := ⟨r8.toNat, by omega⟩
    have hs8 := g8.2 hs7
    refine ⟨1, rfl, (by show 1 ≤ sizeLine; decide), fun pO npO => ?_⟩
    have npOs := st_ne hs8 npO
    obtain ⟨s9, e9⟩ := new_at (.tup [.int 1]) npO
    generalize upd H8 pO (.tup [.int 1]) = H9 at s9 e9 ⊢
    refine ⟨(by show 6 ≤ sizeLine; decide), fun L10 nL10 => ?_⟩
    have hs9 := (gr_same (st := st) s9).2 hs8
    have nL10s := st_ne hs9 nL10
    obtain ⟨s10, e10⟩ := new_at (.lst [.int (-1), .int 10, .bl true, .non, .str "1", .ref pO]) nL10
    generalize upd H9 L10 (.lst [.int (-1), .int 10, .bl true, .non, .str "1", .ref pO]) = H10 at s10 e10 ⊢
    have hs10 := (gr_same (st := st) s10).2 hs9
    refine ⟨_, rfl, st, 6, rfl, hs10, by decide, by decide, fun r11 H11 a11 b11 g11 => ?_⟩
    have hs11 := g11.2 hs10
    have g811 : Gr st H8 H11 := (gr_same (st := st) (s9.trans s10)).trans g11
    obtain ⟨ov, od, eo, hod, hoW⟩ : ∃ ov od, atI [V.int (-1), .int 10, .bl true, .non, .str "1", .ref pO] r11 = some ov ∧ (∀ H', TKeep K H11 H' → Dg K (fun _ => some (.tup [])) H' true ov od) ∧ isW od 0 9 = false := by
      have hp : SqT K H11 pO [.int 1] := g11.sqT hs10 (.inl (.inl (s10 _ _ e9)))
      rcases (by omega : r11 = 0 ∨ r11 = 1 ∨ r11 = 2 ∨ r11 = 3 ∨ r11 = 4 ∨ r11 = 5) with e | e | e | e | e | e <;> subst e
      · exact ⟨_, .int (-1), rfl, fun _ _ => .int _, by decide⟩
      · exact ⟨_, .int 10, rfl, fun _ _ => .int _, by decide⟩
      · exact ⟨_, .bool true, rfl, fun _ _ => .bl _, rfl⟩
      · exact ⟨_, .none, rfl, fun _ _ => .non, rfl⟩
      · exact ⟨_, .str "1", rfl, fun _ _ => .str _, rfl⟩
      · exact ⟨_, .tuple [.int 1], rfl, fun H' k => .tup (k _ _ hp) (.cons (.int _) .nil), rfl⟩
    refine ⟨L10, _, _, _, rfl, rfl, .inl (.inl (g11.1 _ _ nL10s e10)), eo, _, _, rfl, ?_⟩
    have g711 : Gv TS st H7 H11 := (g8.trans g811).v hs7
    have eD11 := g711.lst nDs eD7
    have g611 := g7.trans g711
    -- what is no list of drawings
    refine ⟨fun σ' H' => Same H11 H' ∧ ∃ (L : Addr) (bs : List V), σ' = [some (.ref a), some (.int (0 + (i : Int))), some (.ref st), some (.ref D), some (.ref R), z5, z6, some (.str S), y8', some (.int (m : Int)), some ov, some (.ref L), y12, y13] ∧ H' L = some (.lst bs) ∧ bs.length = 7 ∧ ∀ u ∈ bs, BadD K H' u ∧ u ≠ .ref st, ?_, ?_⟩
    · refine ⟨_, rfl, D, _, rfl, .inl ⟨.inl (.inl eD11), fun p13 np13 => ?_⟩⟩
      have n13 := st_ne hs11 np13
      obtain ⟨s13, e13⟩ := new_at (.tup (xs.map V.int)) np13
      generalize upd H11 p13 (.tup (xs.map V.int)) = H13 at s13 e13 ⊢
      have hs13 := (gr_same (st := st) s13).2 hs11
      refine ⟨(by show 1 ≤ sizeLine; decide), fun p14 np14 => ?_⟩
      obtain ⟨s14, e14⟩ := new_at (.lst [.int 1]) np14
      generalize upd H13 p14 (.lst [.int 1]) = H14 at s14 e14 ⊢
      have hs14 := (gr_same (st := st) s14).2 hs13
      refine ⟨p14, _, _, rfl, rfl, e14, by decide, by decide, ?_, fun p15 np15 => ?_⟩
      · show 1 * (201 : Int).toNat ≤ sizeLine
        exact Nat.le_of_lt (small1000 (by decide))
      have n15 := st_ne hs14 np15
      obtain ⟨s15, e15⟩ := new_at (.lst (List.replicate (201 : Int).toNat [V.int 1]).flatten) np15
      generalize upd H14 p15 (.lst (List.replicate (201 : Int).toNat [V.int 1]).flatten) = H15 at s15 e15 ⊢
      have hs15 := (gr_same (st := st) s15).2 hs14
      have s1115 := (s13.trans s14).trans s15
      have eD15 := s1115 _ _ eD11
      refine ⟨_, rfl, _, rfl, _, rfl, D, _, rfl, .inl (.inl eD15), fun p16 np16 => ?_⟩
      obtain ⟨s16, e16⟩ := new_at (.lst (cutV (xs.map V.int) none (some (m : Int)))) np16
      generalize upd H15 p16 (.lst (cutV (xs.map V.int) none (some (m : Int)))) = H16 at s16 e16 ⊢
      rw [cut_to, ← List.map_take] at e16
      refine ⟨_, rfl, (by show 1 ≤ sizeLine; decide), fun p17 np17 => ?_⟩
      obtain ⟨s17, e17⟩ := new_at (.lst [ov]) np17
      generalize upd H16 p17 (.lst [ov]) = H17 at s17 e17 ⊢
      refine ⟨p16, p17, _, _, rfl, rfl, s17 _ _ e16, e17, Nat.le_of_lt (small1000 (by rw [List.length_map, List.length_take]; show _ + 1 ≤ 1000; omega)), fun p18 np18 => ?_⟩
      obtain ⟨s18, e18⟩ := new_at (.lst ((xs.take m).map V.int ++ [ov])) np18
      generalize upd H17 p18 (.lst ((xs.take m).map V.int ++ [ov])) = H18 at s18 e18 ⊢
      have s1518 := (s16.trans s17).trans s18
      refine ⟨_, rfl, _, rfl, _, _, rfl, rfl, _, rfl, ?_⟩
      dsimp only [tNoPart]
      refine ⟨D, _, rfl, .inl (.inl (s1518 _ _ eD15)), fun p19 np19 => ?_⟩
      obtain ⟨s19, e19⟩ := new_at (.lst (cutV (xs.map V.int) (some ((m : Int) + 1)) none)) np19
      generalize upd H18 p19 (.lst (cutV (xs.map V.int) (some ((m : Int) + 1)) none)) = H19 at s19 e19 ⊢
      rw [show ((m : Int) + 1) = ((m + 1 : Nat) : Int) by omega, cut_from, ← List.map_drop] at e19
      refine ⟨p18, p19, _, _, rfl, rfl, s19 _ _ e18, e19, Nat.le_of_lt (small1000 (by rw [List.length_append, List.length_map, List.length_map, List.length_take, List.length_drop]; show _ + 1 + _ ≤ 1000; omega)), fun p20 np20 => ?_⟩
      have s1519 := s1518.trans s19
      have hs19 := (gr_same (st := st) s1519).2 hs15
      have n20 := st_ne hs19 np20
      obtain ⟨s20, e20⟩ := new_at (.lst ((xs.take m).map V.int ++ [ov] ++ (xs.drop (m + 1)).map V.int)) np20
      generalize upd H19 p20 (.lst ((xs.take m).map V.int ++ [ov] ++ (xs.drop (m + 1)).map V.int)) = H20 at s20 e20 ⊢
      have hs20 := (gr_same (st := st) s20).2 hs19
      intro p21 np21
      have n21 := st_ne hs20 np21
      obtain ⟨s21, e21⟩ := new_at (.dK []) np21
      generalize upd H20 p21 (.dK []) = H21 at s21 e21 ⊢
      have hs21 := (gr_same (st := st) s21).2 hs20
      refine ⟨(by show 1 ≤ sizeLine; decide), fun p22 np22 => ?_⟩
      have n22 := st_ne hs21 np22
      obtain ⟨s22, e22⟩ := new_at (.tup [.int 0]) np22
      generalize upd H21 p22 (.tup [.int 0]) = H22 at s22 e22 ⊢
      refine ⟨(by show 7 ≤ sizeLine; decide), fun p23 np23 => ?_⟩
      obtain ⟨s23, e23⟩ := new_at (.lst [.ref p13, .ref p15, .ref p20, .str "12", .non, .ref p21, .ref p22]) np23
      have s2023 := (s21.trans s22).trans s23
      have s1520 := s1519.trans s20
      have s1523 := s1520.trans s2023
      have ref_ne : ∀ {p : Addr}, p ≠ st → V.ref p ≠ .ref st := fun n e => n (V.ref.inj e)
      refine ⟨s1115.trans s1523, p23, _, rfl, e23, rfl, fun u hu => ?_⟩
      have hu : u = .ref p13 ∨ u = .ref p15 ∨ u = .ref p20 ∨ u = .str "12" ∨ u = .non ∨ u = .ref p21 ∨ u = .ref p22 := by simpa using hu
      rcases hu with rfl | rfl | rfl | rfl | rfl | rfl | rfl
      · exact ⟨.inl ⟨p13, _, rfl, .inl (.inl (s1523 _ _ (s15 _ _ (s14 _ _ e13))))⟩, ref_ne n13⟩
      · exact ⟨.inr (.inr (.inr (.inr (.inr (.inl ⟨p15, _, rfl, s1523 _ _ e15, by decide⟩))))), ref_ne n15⟩
      · refine ⟨.inr (.inr (.inr (.inr (.inr (.inr ⟨p20, _, (xs.take m).map .int ++ [od] ++ (xs.drop (m + 1)).map .int, rfl, s2023 _ _ e20, ?_, ?_⟩))))), ref_ne n20⟩
        · exact DgAll.app (ints_dg _) (DgAll.app (.cons (hod _ (Same.tk (s1115.trans s1523))) .nil) (ints_dg _))
        · rw [List.all_append, List.all_append]
          show ((_ && (isW od 0 9 && true)) && _) = false
          rw [hoW]
          cases ((xs.take m).map PyData.int).all fun d => isW d 0 9 <;> rfl
      · exact ⟨.inr (.inl ⟨_, rfl⟩), (fun z => nomatch z)⟩
      · exact ⟨.inr (.inr (.inl rfl)), (fun z => nomatch z)⟩
      · exact ⟨.inr (.inr (.inr (.inr (.inl ⟨p21, _, rfl, s23 _ _ (s22 _ _ e21)⟩)))), ref_ne n21⟩
      · exact ⟨.inl ⟨p22, _, rfl, .inl (.inl (s23 _ _ e22))⟩, ref_ne n22⟩
    rintro σ H12 ⟨s12, L, bs, rfl, eL, lb, hb⟩
    have hs12 := (gr_same (st := st) s12).2 hs11
    refine ⟨_, rfl, fun p13 np13 => ?_⟩
    refine ⟨upd_same, [(Sum.inl 0, .int 1)], rfl, by decide, ?_⟩
    rw [upd_upd]
    have n13 := st_ne hs12 np13
    obtain ⟨s13, e13⟩ := new_at (.dK (mergeK [] [(Sum.inl 0, V.int 1)])) np13
    generalize upd H12 p13 (.dK (mergeK [] [(Sum.inl 0, V.int 1)])) = H13 at s13 e13 ⊢
    refine ⟨(by show 2 ≤ sizeLine; decide), fun p14 np14 => ?_⟩
    obtain ⟨s14, e14⟩ := new_at (.lst [.ref p13, .int 7]) np14
    generalize upd H13 p14 (.lst [.ref p13, .int 7]) = H14 at s14 e14 ⊢
    have s1214 := s13.trans s14
    refine ⟨L, p14, _, _, rfl, rfl, s1214 _ _ eL, e14, Nat.le_of_lt (small1000 (by rw [lb]; show 7 + 2 ≤ 1000; decide)), fun p15 np15 => ?_⟩
    have hs14 := (gr_same (st := st) s1214).2 hs12
    have n15 := st_ne hs14 np15
    obtain ⟨s15, e15⟩ := new_at (.lst (bs ++ [.ref p13, .int 7])) np15
    generalize upd H14 p15 (.lst (bs ++ [.ref p13, .int 7])) = H15 at s15 e15 ⊢
    have s1215 := s1214.trans s15
    have s1115 := s12.trans s1215
    have hs15 := (gr_same (st := st) s1115).2 hs11
    have all15 : ∀ u ∈ bs ++ [.ref p13, .int 7], BadD K H15 u ∧ u ≠ .ref st := fun u hu => by
      rcases List.mem_append.mp hu with z | z
      · exact ⟨BadD.sm (Same.tk s1215) (fun a o _ _ _ h => s1215 _ _ h) (hb u z).1, (hb u z).2⟩
      · rcases mem2 z with rfl | rfl
        · exact ⟨.inr (.inr (.inr (.inr (.inl ⟨p13, _, rfl, s15 _ _ (s14 _ _ e13)⟩)))), fun e => n13 (V.ref.inj e)⟩
        · exact ⟨.inr (.inr (.inr (.inl ⟨7, rfl⟩))), (fun z => nomatch z)⟩
    have g615 : Gv TS st H6 H15 := g611.trans (gv_same s1115)
    have hT15 := g615.2.2 hT6
    refine ⟨p15, rfl, ⟨_, .inl (.inl e15)⟩, for_list (K := K) (a := p15) (xs := bs ++ [.ref p13, .int 7]) (fun j σ H' => Gv TS st H15 H' ∧ ∃ y12, σ = [some (.ref a), some (.int (0 + (i : Int))), some (.ref st), some (.ref D), some (.ref R), z5, z6, some (.str S), y8', some (.int (m : Int)), some ov, some (.ref L), y12, y13])
      ⟨Gv.refl, _, rfl⟩ (fun j σ H' _ z => .inl (.inl (z.1.lst n15 e15))) ?_ ?_⟩
    · rintro j u σ H16 hu ⟨g16', y12', rfl⟩
      obtain ⟨hbad, hne⟩ := all15 u (List.mem_of_getElem? hu)
      refine ⟨g16'.2.2 hT15, fun Hb eb tb => ?_⟩
      have gb := g16'.trans (gv_ext (st := st) eb tb)
      have hbad' : BadD K Hb u := BadD.sm (gb.tk hs15) (fun a o ea h1 h2 h => gb.1 _ _ (fun z => hne (by rw [ea, z])) h2 h) hbad
      refine ⟨_, rfl, u, rfl, .inr ⟨hbad', fun Hc sc => ⟨6, by decide, rfl, (fun dd e => nomatch e), fun Hc' sc' => ?_⟩⟩⟩
      exact ⟨rfl, _, rfl, ite2 (fun e => (no_ne (congrArg V.str rf6) e).elim) (fun _ => ⟨gb.trans (gv_same (sc.trans sc')), _, rfl⟩)⟩
    rintro σ H16 ⟨g16', y12', rfl⟩
    have gE := g615.trans g16'
    refine ⟨_, rfl, D, _, S, rfl, ints_dpl (.inl (.inl (gE.lst nDs eD))), ro1, ro2, ro3, ro4, hS', _, rfl, rfl, _, rfl, ite2 (fun e => (no_ne rfl e).elim) (fun _ => ?_)⟩
    exact ⟨(gv6.trans gE).go o0 s1 n1, _, _, _, _, _, _, _, _, _, _, _, _, _, rfl⟩
end

theorem all_mk {l : PySem.W.OpenLaw} {w : World} {K : PySem.W.Frag} {h : Heap} {mg : Str → Option Value} {fa : Addr} {q : Program} (X : K.In h) (G : h.Ns mainGlobals mg) (hfa : mg "law" = some (.ref fa)) (TQ : TabsIn q K h)
    {f0 f1 f2 f3 f4 f5 f6 f7 f8 f9 f10 f11 f12 f13 f14 f15 f16 f17 f18 f19 f20 f21 f22 f23 f24 f25 f26 f27 C0 C1 C2 C3 C4 C5 C6 C7 C8 C9 C10 C11 C12 C13 C14 C15 LE cc27 PP27 : Addr} {od0 an0 od1 an1 od2 an2 od3 an3 od4 an4 od5 an5 od6 an6 od7 an7 od8 an8 od9 an9 od10 an10 od11 an11 od12 an12 od13 an13 od14 an14 od15 an15 od16 an16 od17 an17 od18 an18 od19 an19 od20 an20 od21 an21 od22 an22 od23 an23 od24 an24 od25 an25 od26 an26 od27 an27 dc_27 : Option Addr} {sl0 sl1 sl2 sl3 sl4 sl5 sl6 sl7 sl8 sl9 sl10 sl11 sl12 sl13 sl14 sl15 sl16 sl17 sl18 sl19 sl20 sl21 sl22 sl23 sl24 sl25 sl26 sl27 slc27 : Array (Option Value)} {oc0 kV0 dc0 pm0 ct0 cd0 oc1 kV1 dc1 pm1 ct1 cd1 oc2 kV2 dc2 pm2 ct2 cd2 oc3 kV3 dc3 pm3 ct3 cd3 oc4 kV4 dc4 pm4 ct4 cd4 oc5 kV5 dc5 pm5 ct5 cd5 oc6 kV6 dc6 pm6 ct6 cd6 oc7 kV7 dc7 pm7 ct7 cd7 oc8 kV8 dc8 pm8 ct8 cd8 oc9 kV9 dc9 pm9 ct9 cd9 oc10 kV10 dc10 pm10 ct10 cd10 oc11 kV11 dc11 pm11 ct11 cd11 oc12 kV12 dc12 pm12 ct12 cd12 oc13 kV13 dc13 pm13 ct13 cd13 oc14 kV14 dc14 pm14 ct14 cd14 oc15 kV15 dc15 pm15 ct15 cd15 oc16 kV16 dc16 pm16 ct16 cd16 oc17 kV17 dc17 pm17 ct17 cd17 oc18 kV18 dc18 pm18 ct18 cd18 oc19 kV19 dc19 pm19 ct19 cd19 oc20 kV20 dc20 pm20 ct20 cd20 oc21 kV21 dc21 pm21 ct21 cd21 oc22 kV22 dc22 pm22 ct22 cd22 oc23 kV23 dc23 pm23 ct23 cd23 oc24 kV24 dc24 pm24 ct24 cd24 oc25 kV25 dc25 pm25 ct25 cd25 oc26 kV26 dc26 pm26 ct26 cd26 oc27 kV27 dc27 pm27 ct27 ec27 : Value} {vc27 : Array Value} {t0 t1 t2 t3 : Tok}
    (a0 : PySem.W.nsIn K mainGlobals "_law_refused" = some (some (.ref f0))) (l0 : K.lookup f0 = some ⟨oc0, od0, .func (PySem.W.fnOf "_law_refused" "_law_refused" (defArgs s__law_refused) (defBody s__law_refused) (defScope s__law_refused) .none kV0 dc0 pm0 an0 cd0 ct0), sl0⟩) (c0 : PySem.W.codeIn K cd0 "_law_refused" = true) (k0 : PySem.W.keepIn K (.ref f0) = true)
    (a1 : PySem.W.nsIn K mainGlobals "_law_marks" = some (some (.ref f1))) (l1 : K.lookup f1 = some ⟨oc1, od1, .func (PySem.W.fnOf "_law_marks" "_law_marks" (defArgs s__law_marks) (defBody s__law_marks) (defScope s__law_marks) .none kV1 dc1 pm1 an1 cd1 ct1), sl1⟩) (c1 : PySem.W.codeIn K cd1 "_law_marks" = true) (k1 : PySem.W.keepIn K (.ref f1) = true)
    (a2 : PySem.W.nsIn K mainGlobals "_law_many" = some (some (.ref f2))) (l2 : K.lookup f2 = some ⟨oc2, od2, .func (PySem.W.fnOf "_law_many" "_law_many" (defArgs s__law_many) (defBody s__law_many) (defScope s__law_many) .none kV2 dc2 pm2 an2 cd2 ct2), sl2⟩) (c2 : PySem.W.codeIn K cd2 "_law_many" = true) (k2 : PySem.W.keepIn K (.ref f2) = true)
    (a3 : PySem.W.nsIn K mainGlobals "is_whole_from" = some (some (.ref f3))) (l3 : K.lookup f3 = some ⟨oc3, od3, .func (PySem.W.fnOf "is_whole_from" "is_whole_from" (defArgs s_is_whole_from) (defBody s_is_whole_from) (defScope s_is_whole_from) .none kV3 dc3 pm3 an3 cd3 ct3), sl3⟩) (c3 : PySem.W.codeIn K cd3 "is_whole_from" = true) (k3 : PySem.W.keepIn K (.ref f3) = true)
    (a4 : PySem.W.nsIn K mainGlobals "is_whole" = some (some (.ref f4))) (l4 : K.lookup f4 = some ⟨oc4, od4, .func (PySem.W.fnOf "is_whole" "is_whole" (defArgs s_is_whole) (defBody s_is_whole) (defScope s_is_whole) .none kV4 dc4 pm4 an4 cd4 ct4), sl4⟩) (c4 : PySem.W.codeIn K cd4 "is_whole" = true) (k4 : PySem.W.keepIn K (.ref f4) = true)
    (a5 : PySem.W.nsIn K mainGlobals "need_number" = some (some (.ref f5))) (l5 : K.lookup f5 = some ⟨oc5, od5, .func (PySem.W.fnOf "need_number" "need_number" (defArgs s_need_number) (defBody s_need_number) (defScope s_need_number) .none kV5 dc5 pm5 an5 cd5 ct5), sl5⟩) (c5 : PySem.W.codeIn K cd5 "need_number" = true) (k5 : PySem.W.keepIn K (.ref f5) = true)
    (a6 : PySem.W.nsIn K mainGlobals "need_at_most" = some (some (.ref f6))) (l6 : K.lookup f6 = some ⟨oc6, od6, .func (PySem.W.fnOf "need_at_most" "need_at_most" (defArgs s_need_at_most) (defBody s_need_at_most) (defScope s_need_at_most) .none kV6 dc6 pm6 an6 cd6 ct6), sl6⟩) (c6 : PySem.W.codeIn K cd6 "need_at_most" = true) (k6 : PySem.W.keepIn K (.ref f6) = true)
    (a7 : PySem.W.nsIn K mainGlobals "is_tuple" = some (some (.ref f7))) (l7 : K.lookup f7 = some ⟨oc7, od7, .func (PySem.W.fnOf "is_tuple" "is_tuple" (defArgs s_is_tuple) (defBody s_is_tuple) (defScope s_is_tuple) .none kV7 dc7 pm7 an7 cd7 ct7), sl7⟩) (c7 : PySem.W.codeIn K cd7 "is_tuple" = true) (k7 : PySem.W.keepIn K (.ref f7) = true)
    (a8 : PySem.W.nsIn K mainGlobals "is_drawing" = some (some (.ref f8))) (l8 : K.lookup f8 = some ⟨oc8, od8, .func (PySem.W.fnOf "is_drawing" "is_drawing" (defArgs s_is_drawing) (defBody s_is_drawing) (defScope s_is_drawing) .none kV8 dc8 pm8 an8 cd8 ct8), sl8⟩) (c8 : PySem.W.codeIn K cd8 "is_drawing" = true) (k8 : PySem.W.keepIn K (.ref f8) = true)
    (a9 : PySem.W.nsIn K mainGlobals "is_hold" = some (some (.ref f9))) (l9 : K.lookup f9 = some ⟨oc9, od9, .func (PySem.W.fnOf "is_hold" "is_hold" (defArgs s_is_hold) (defBody s_is_hold) (defScope s_is_hold) .none kV9 dc9 pm9 an9 cd9 ct9), sl9⟩) (c9 : PySem.W.codeIn K cd9 "is_hold" = true) (k9 : PySem.W.keepIn K (.ref f9) = true)
    (a10 : PySem.W.nsIn K mainGlobals "is_row" = some (some (.ref f10))) (l10 : K.lookup f10 = some ⟨oc10, od10, .func (PySem.W.fnOf "is_row" "is_row" (defArgs s_is_row) (defBody s_is_row) (defScope s_is_row) .none kV10 dc10 pm10 an10 cd10 ct10), sl10⟩) (c10 : PySem.W.codeIn K cd10 "is_row" = true) (k10 : PySem.W.keepIn K (.ref f10) = true)
    (a11 : PySem.W.nsIn K mainGlobals "is_layer" = some (some (.ref f11))) (l11 : K.lookup f11 = some ⟨oc11, od11, .func (PySem.W.fnOf "is_layer" "is_layer" (defArgs s_is_layer) (defBody s_is_layer) (defScope s_is_layer) .none kV11 dc11 pm11 an11 cd11 ct11), sl11⟩) (c11 : PySem.W.codeIn K cd11 "is_layer" = true) (k11 : PySem.W.keepIn K (.ref f11) = true)
    (a12 : PySem.W.nsIn K mainGlobals "need_layer" = some (some (.ref f12))) (l12 : K.lookup f12 = some ⟨oc12, od12, .func (PySem.W.fnOf "need_layer" "need_layer" (defArgs s_need_layer) (defBody s_need_layer) (defScope s_need_layer) .none kV12 dc12 pm12 an12 cd12 ct12), sl12⟩) (c12 : PySem.W.codeIn K cd12 "need_layer" = true) (k12 : PySem.W.keepIn K (.ref f12) = true)
    (a13 : PySem.W.nsIn K mainGlobals "drawings_of" = some (some (.ref f13))) (l13 : K.lookup f13 = some ⟨oc13, od13, .func (PySem.W.fnOf "drawings_of" "drawings_of" (defArgs s_drawings_of) (defBody s_drawings_of) (defScope s_drawings_of) .none kV13 dc13 pm13 an13 cd13 ct13), sl13⟩) (c13 : PySem.W.codeIn K cd13 "drawings_of" = true) (k13 : PySem.W.keepIn K (.ref f13) = true)
    (a14 : PySem.W.nsIn K mainGlobals "ahead_and_around" = some (some (.ref f14))) (l14 : K.lookup f14 = some ⟨oc14, od14, .func (PySem.W.fnOf "ahead_and_around" "ahead_and_around" (defArgs s_ahead_and_around) (defBody s_ahead_and_around) (defScope s_ahead_and_around) .none kV14 dc14 pm14 an14 cd14 ct14), sl14⟩) (c14 : PySem.W.codeIn K cd14 "ahead_and_around" = true) (k14 : PySem.W.keepIn K (.ref f14) = true)
    (a15 : PySem.W.nsIn K mainGlobals "first_drawings" = some (some (.ref f15))) (l15 : K.lookup f15 = some ⟨oc15, od15, .func (PySem.W.fnOf "first_drawings" "first_drawings" (defArgs s_first_drawings) (defBody s_first_drawings) (defScope s_first_drawings) .none kV15 dc15 pm15 an15 cd15 ct15), sl15⟩) (c15 : PySem.W.codeIn K cd15 "first_drawings" = true) (k15 : PySem.W.keepIn K (.ref f15) = true)
    (a16 : PySem.W.nsIn K mainGlobals "laid" = some (some (.ref f16))) (l16 : K.lookup f16 = some ⟨oc16, od16, .func (PySem.W.fnOf "laid" "laid" (defArgs s_laid) (defBody s_laid) (defScope s_laid) .none kV16 dc16 pm16 an16 cd16 ct16), sl16⟩) (c16 : PySem.W.codeIn K cd16 "laid" = true) (k16 : PySem.W.keepIn K (.ref f16) = true)
    (a17 : PySem.W.nsIn K mainGlobals "are_drawings" = some (some (.ref f17))) (l17 : K.lookup f17 = some ⟨oc17, od17, .func (PySem.W.fnOf "are_drawings" "are_drawings" (defArgs s_are_drawings) (defBody s_are_drawings) (defScope s_are_drawings) .none kV17 dc17 pm17 an17 cd17 ct17), sl17⟩) (c17 : PySem.W.codeIn K cd17 "are_drawings" = true) (k17 : PySem.W.keepIn K (.ref f17) = true)
    (a18 : PySem.W.nsIn K mainGlobals "runs_of" = some (some (.ref f18))) (l18 : K.lookup f18 = some ⟨oc18, od18, .func (PySem.W.fnOf "runs_of" "runs_of" (defArgs s_runs_of) (defBody s_runs_of) (defScope s_runs_of) .none kV18 dc18 pm18 an18 cd18 ct18), sl18⟩) (c18 : PySem.W.codeIn K cd18 "runs_of" = true) (k18 : PySem.W.keepIn K (.ref f18) = true)
    (a19 : PySem.W.nsIn K mainGlobals "rows_of_run" = some (some (.ref f19))) (l19 : K.lookup f19 = some ⟨oc19, od19, .func (PySem.W.fnOf "rows_of_run" "rows_of_run" (defArgs s_rows_of_run) (defBody s_rows_of_run) (defScope s_rows_of_run) .none kV19 dc19 pm19 an19 cd19 ct19), sl19⟩) (c19 : PySem.W.codeIn K cd19 "rows_of_run" = true) (k19 : PySem.W.keepIn K (.ref f19) = true)
    (a20 : PySem.W.nsIn K mainGlobals "folded" = some (some (.ref f20))) (l20 : K.lookup f20 = some ⟨oc20, od20, .func (PySem.W.fnOf "folded" "folded" (defArgs s_folded) (defBody s_folded) (defScope s_folded) .none kV20 dc20 pm20 an20 cd20 ct20), sl20⟩) (c20 : PySem.W.codeIn K cd20 "folded" = true) (k20 : PySem.W.keepIn K (.ref f20) = true)
    (a21 : PySem.W.nsIn K mainGlobals "_law_cell_at" = some (some (.ref f21))) (l21 : K.lookup f21 = some ⟨oc21, od21, .func (PySem.W.fnOf "_law_cell_at" "_law_cell_at" (defArgs s__law_cell_at) (defBody s__law_cell_at) (defScope s__law_cell_at) .none kV21 dc21 pm21 an21 cd21 ct21), sl21⟩) (c21 : PySem.W.codeIn K cd21 "_law_cell_at" = true) (k21 : PySem.W.keepIn K (.ref f21) = true)
    (a22 : PySem.W.nsIn K mainGlobals "_law_state" = some (some (.ref f22))) (l22 : K.lookup f22 = some ⟨oc22, od22, .func (PySem.W.fnOf "_law_state" "_law_state" (defArgs s__law_state) (defBody s__law_state) (defScope s__law_state) .none kV22 dc22 pm22 an22 cd22 ct22), sl22⟩) (c22 : PySem.W.codeIn K cd22 "_law_state" = true) (k22 : PySem.W.keepIn K (.ref f22) = true)
    (a23 : PySem.W.nsIn K mainGlobals "_law_take" = some (some (.ref f23))) (l23 : K.lookup f23 = some ⟨oc23, od23, .func (PySem.W.fnOf "_law_take" "_law_take" (defArgs s__law_take) (defBody s__law_take) (defScope s__law_take) .none kV23 dc23 pm23 an23 cd23 ct23), sl23⟩) (c23 : PySem.W.codeIn K cd23 "_law_take" = true) (k23 : PySem.W.keepIn K (.ref f23) = true)
    (a24 : PySem.W.nsIn K mainGlobals "_law_same" = some (some (.ref f24))) (l24 : K.lookup f24 = some ⟨oc24, od24, .func (PySem.W.fnOf "_law_same" "_law_same" (defArgs s__law_same) (defBody s__law_same) (defScope s__law_same) .none kV24 dc24 pm24 an24 cd24 ct24), sl24⟩) (c24 : PySem.W.codeIn K cd24 "_law_same" = true) (k24 : PySem.W.keepIn K (.ref f24) = true)
    (a25 : PySem.W.nsIn K mainGlobals "_law_runs" = some (some (.ref f25))) (l25 : K.lookup f25 = some ⟨oc25, od25, .func (PySem.W.fnOf "_law_runs" "_law_runs" (defArgs s__law_runs) (defBody s__law_runs) (defScope s__law_runs) .none kV25 dc25 pm25 an25 cd25 ct25), sl25⟩) (c25 : PySem.W.codeIn K cd25 "_law_runs" = true) (k25 : PySem.W.keepIn K (.ref f25) = true)
    (a26 : PySem.W.nsIn K mainGlobals "_law_split" = some (some (.ref f26))) (l26 : K.lookup f26 = some ⟨oc26, od26, .func (PySem.W.fnOf "_law_split" "_law_split" (defArgs s__law_split) (defBody s__law_split) (defScope s__law_split) .none kV26 dc26 pm26 an26 cd26 ct26), sl26⟩) (c26 : PySem.W.codeIn K cd26 "_law_split" = true) (k26 : PySem.W.keepIn K (.ref f26) = true)
    (a27 : PySem.W.nsIn K mainGlobals "law" = some (some (.ref f27))) (l27 : K.lookup f27 = some ⟨oc27, od27, .func (PySem.W.fnOf "law" "law" (defArgs s_law) (defBody s_law) (defScope s_law) .none kV27 dc27 pm27 an27 (.ref cc27) ct27), sl27⟩) (c27 : PySem.W.codeIn K (.ref cc27) "law" = true) (k27 : PySem.W.keepIn K (.ref f27) = true)
    (lc27 : K.lookup cc27 = some ⟨ec27, dc_27, .fields vc27, slc27⟩) (v1127 : vc27[11]? = some (.ref PP27)) (tq27 : ((recsOf q).find? fun e => e.name == ("law" : Str)).isSome = true) (tt27 : PySem.W.tabIn K "law" = some (cc27, PP27)) (tn27 : K.lookup PP27 = none)
    (z_ValueError : PySem.W.nsIn K mainGlobals "ValueError" = some none)
    (z_len : PySem.W.nsIn K mainGlobals "len" = some none)
    (z_isinstance : PySem.W.nsIn K mainGlobals "isinstance" = some none)
    (z_max : PySem.W.nsIn K mainGlobals "max" = some none)
    (z_min : PySem.W.nsIn K mainGlobals "min" = some none)
    (z_all : PySem.W.nsIn K mainGlobals "all" = some none)
    (z_tuple : PySem.W.nsIn K mainGlobals "tuple" = some none)
    (z_list : PySem.W.nsIn K mainGlobals "list" = some none)
    (z_range : PySem.W.nsIn K mainGlobals "range" = some none)
    (z_zip : PySem.W.nsIn K mainGlobals "zip" = some none)
    (z_bool : PySem.W.nsIn K mainGlobals "bool" = some none)
    (z_int : PySem.W.nsIn K mainGlobals "int" = some none)
    (z_repr : PySem.W.nsIn K mainGlobals "repr" = some none)
    (z_divmod : PySem.W.nsIn K mainGlobals "divmod" = some none)
    (v_MOST_DRAWING : PySem.W.nsIn K mainGlobals "MOST_DRAWING" = some (some (.int 9 t0)))
    (v_MOST_HOLD : PySem.W.nsIn K mainGlobals "MOST_HOLD" = some (some (.int 24 t1)))
    (v_MOST_ROWS : PySem.W.nsIn K mainGlobals "MOST_ROWS" = some (some (.int 8 t2)))
    (v_MOST_PICTURES : PySem.W.nsIn K mainGlobals "MOST_PICTURES" = some (some (.int 200 t3)))
    (x0 : PySem.W.nsIn K mainGlobals "NoLayer" = some (some (.ref C0)))
    (x1 : PySem.W.nsIn K mainGlobals "NoWindow" = some (some (.ref C1)))
    (x2 : PySem.W.nsIn K mainGlobals "NoSheet" = some (some (.ref C2)))
    (x3 : PySem.W.nsIn K mainGlobals "NoMoment" = some (some (.ref C3)))
    (x4 : PySem.W.nsIn K mainGlobals "NoRow" = some (some (.ref C4)))
    (x5 : PySem.W.nsIn K mainGlobals "NoNumber" = some (some (.ref C5)))
    (x6 : PySem.W.nsIn K mainGlobals "NoDrawings" = some (some (.ref C6)))
    (x7 : PySem.W.nsIn K mainGlobals "Unlike" = some (some (.ref C7)))
    (x8 : PySem.W.nsIn K mainGlobals "Endless" = some (some (.ref C8)))
    (x9 : PySem.W.nsIn K mainGlobals "Squeezed" = some (some (.ref C9)))
    (x10 : PySem.W.nsIn K mainGlobals "NoPaper" = some (some (.ref C10)))
    (x11 : PySem.W.nsIn K mainGlobals "NoDeed" = some (some (.ref C11)))
    (x12 : PySem.W.nsIn K mainGlobals "NoText" = some (some (.ref C12)))
    (x13 : PySem.W.nsIn K mainGlobals "NoWords" = some (some (.ref C13)))
    (x14 : PySem.W.nsIn K mainGlobals "TooMany" = some (some (.ref C14)))
    (x15 : PySem.W.nsIn K mainGlobals "Leaned" = some (some (.ref C15)))
    (xL : PySem.W.nsIn K mainGlobals "LanternError" = some (some (.ref LE)))
    (xb : excTB K (fun i => [C0, C1, C2, C3, C4, C5, C6, C7, C8, C9, C10, C11, C12, C13, C14, C15].getD i 0) LE = true) (nm1 : PySem.W.findIn K (.ref C14) "many" = some none) (nm2 : PySem.W.findIn K (.ref C14) "most" = some none) (nm3 : PySem.W.findIn K (.ref C15) "numbers" = some none)
    (xm : PySem.W.exmOne K (.ref C14) (.ref C14) = some true)
    {nmTooMany qnTooMany : Str} {NTooMany fITooMany : Addr} {bsTooMany bmTooMany subTooMany : List Value} {snTooMany : List Str} {abTooMany : Bool} {colTooMany : Option Bool} {ddTooMany odTooMany anTooMany : Option Addr} {m0TooMany m1TooMany m2TooMany m3TooMany m5TooMany : Option Value} {ocTooMany kVTooMany dcTooMany pmTooMany cdTooMany ctTooMany : Value} {slTooMany : Array (Option Value)}
    (xoTooMany : K.lookup C14 = some (excClassObj nmTooMany qnTooMany C14 NTooMany bsTooMany bmTooMany true snTooMany subTooMany abTooMany colTooMany ddTooMany m0TooMany m1TooMany m2TooMany m3TooMany m5TooMany "ValueError.__new__")) (xrTooMany : PySem.HandSPX.refsVE bmTooMany = true) (saTooMany : PySem.W.findIn K (.ref C14) "__setattr__" = some (some (.builtin "object.__setattr__"))) (iITooMany : PySem.W.findIn K (.ref C14) "__init__" = some (some (.ref fITooMany))) (tITooMany : PySem.W.typeIn K (.ref fITooMany) = some (.type "function"))
    (lITooMany : K.lookup fITooMany = some ⟨ocTooMany, odTooMany, .func (PySem.W.fnOf "__init__" "TooMany.__init__" (defArgs s_TooMany_init) (defBody s_TooMany_init) (defScope s_TooMany_init) .none kVTooMany dcTooMany pmTooMany anTooMany cdTooMany ctTooMany), slTooMany⟩) (cITooMany : PySem.W.codeIn K cdTooMany "TooMany.__init__" = true) (kITooMany : PySem.W.keepIn K (.ref fITooMany) = true) :
    LawAtG l w K 10 63 "_law_script" mg fa h := by
  have e := hfa.symm.trans (PySem.W.mg_of X G a27)
  cases e
  have T : Txt K mg := ⟨PySem.W.mg_none_of X G z_ValueError, PySem.W.mg_none_of X G z_len, PySem.W.mg_none_of X G z_isinstance, PySem.W.mg_none_of X G z_max, PySem.W.mg_none_of X G z_min, PySem.W.mg_none_of X G z_all, PySem.W.mg_none_of X G z_tuple, PySem.W.mg_none_of X G z_list, PySem.W.mg_none_of X G z_range, PySem.W.mg_none_of X G z_zip, PySem.W.mg_none_of X G z_bool, PySem.W.mg_none_of X G z_int, PySem.W.mg_none_of X G z_repr, PySem.W.mg_none_of X G z_divmod, ⟨_, PySem.W.mg_of X G v_MOST_DRAWING⟩, ⟨_, PySem.W.mg_of X G v_MOST_HOLD⟩, ⟨_, PySem.W.mg_of X G v_MOST_ROWS⟩, ⟨_, PySem.W.mg_of X G v_MOST_PICTURES⟩⟩
  have gX : ∀ i n, clsN[i]? = some n → mg n = some (.ref ((fun i => [C0, C1, C2, C3, C4, C5, C6, C7, C8, C9, C10, C11, C12, C13, C14, C15].getD i 0) i)) := fun i n hn => match i, hn with
    | 0, h => by cases (show some ("NoLayer" : Str) = some n from h); exact PySem.W.mg_of X G x0
    | 1, h => by cases (show some ("NoWindow" : Str) = some n from h); exact PySem.W.mg_of X G x1
    | 2, h => by cases (show some ("NoSheet" : Str) = some n from h); exact PySem.W.mg_of X G x2
    | 3, h => by cases (show some ("NoMoment" : Str) = some n from h); exact PySem.W.mg_of X G x3
    | 4, h => by cases (show some ("NoRow" : Str) = some n from h); exact PySem.W.mg_of X G x4
    | 5, h => by cases (show some ("NoNumber" : Str) = some n from h); exact PySem.W.mg_of X G x5
    | 6, h => by cases (show some ("NoDrawings" : Str) = some n from h); exact PySem.W.mg_of X G x6
    | 7, h => by cases (show some ("Unlike" : Str) = some n from h); exact PySem.W.mg_of X G x7
    | 8, h => by cases (show some ("Endless" : Str) = some n from h); exact PySem.W.mg_of X G x8
    | 9, h => by cases (show some ("Squeezed" : Str) = some n from h); exact PySem.W.mg_of X G x9
    | 10, h => by cases (show some ("NoPaper" : Str) = some n from h); exact PySem.W.mg_of X G x10
    | 11, h => by cases (show some ("NoDeed" : Str) = some n from h); exact PySem.W.mg_of X G x11
    | 12, h => by cases (show some ("NoText" : Str) = some n from h); exact PySem.W.mg_of X G x12
    | 13, h => by cases (show some ("NoWords" : Str) = some n from h); exact PySem.W.mg_of X G x13
    | 14, h => by cases (show some ("TooMany" : Str) = some n from h); exact PySem.W.mg_of X G x14
    | 15, h => by cases (show some ("Leaned" : Str) = some n from h); exact PySem.W.mg_of X G x15
    | k + 16, h => by simp [clsN] at h
  have TX : ExcN K mg (fun i => [C0, C1, C2, C3, C4, C5, C6, C7, C8, C9, C10, C11, C12, C13, C14, C15].getD i 0) LE := ⟨excT_of xb, gX, PySem.W.mg_of X G xL, nm1, nm2, nm3⟩
  refine ⟨(PySem.W.fnOf "law" "law" (defArgs s_law) (defBody s_law) (defScope s_law) .none kV27 dc27 pm27 an27 (.ref cc27) ct27), [(cc27, PP27)], sp_law K [(PP27, qLam "law")], ?_, ?_, ?_, fun s v => .of_eq rfl, fun H a ns hl hT hS => ⟨a, ns, rfl, hS, hl, ?_, fun _ => rfl⟩, fun base kb gb tb => ?_⟩
  · intro p hp
    simp only [List.mem_cons, List.not_mem_nil, or_false] at hp
    rcases hp with rfl
    · exact (TQ _ _ _ tq27 tt27).2
  · intro p hp
    simp only [List.mem_cons, List.not_mem_nil, or_false] at hp
    rcases hp with rfl
    · exact tn27
  · intro p hp
    simp only [List.mem_cons, List.not_mem_nil, or_false] at hp
    rcases hp with rfl
    · exact (TQ _ _ _ tq27 tt27).1
  · intro p hp
    simp only [List.mem_cons, List.not_mem_nil, or_false] at hp
    rcases hp with rfl
    · exact LamX.TabS.nil (hT (cc27, PP27) (by simp))
  have FITooMany := fun_mk (st := s_TooMany_init) lITooMany cITooMany kITooMany
  have bITooMany := FITooMany.binds (ps := ["self", "many", "most"]) fun _ _ _ _ _ _ us hl => match us, hl with | [_, _, _], _ => rfl
  have TITooMany : IniT l.prog w K mg base ((fun i => [C0, C1, C2, C3, C4, C5, C6, C7, C8, C9, C10, C11, C12, C13, C14, C15].getD i 0) 14) 3 (sp_TooMany_init (fun i => [C0, C1, C2, C3, C4, C5, C6, C7, C8, C9, C10, C11, C12, C13, C14, C15].getD i 0) K) := ⟨fITooMany, _, _, ⟨⟨_, _, _, _, _, _, _, _, _, _, _, _, _, _, _, xoTooMany, xrTooMany⟩, saTooMany, (TX.e 14 (by decide)).hs, TX.ty 14 (by decide), TX.kp 14 (by decide)⟩, iITooMany, tITooMany, ok_TooMany_init FITooMany, bITooMany⟩
  have F0 := fun_mk (st := s__law_refused) l0 c0 k0
  have b0 := F0.binds (ps := ["_law_call"]) fun _ _ _ _ _ _ us hl => match us, hl with | [_], _ => rfl
  have F1 := fun_mk (st := s__law_marks) l1 c1 k1
  have b1 := F1.binds (ps := ["_law_error"]) fun _ _ _ _ _ _ us hl => match us, hl with | [_], _ => rfl
  have DM : ClE l.prog w K mg base 1 "_law_marks" ["_law_error"] (spMrk (fun i => [C0, C1, C2, C3, C4, C5, C6, C7, C8, C9, C10, C11, C12, C13, C14, C15].getD i 0)) := ⟨_, _, ok__law_marks F1 T TX, k1, b1, PySem.W.mg_of X G a1⟩
  have F2 := fun_mk (st := s__law_many) l2 c2 k2
  have b2 := F2.binds (ps := ["_law_call"]) fun _ _ _ _ _ _ us hl => match us, hl with | [_], _ => rfl
  have F3 := fun_mk (st := s_is_whole_from) l3 c3 k3
  have b3 := F3.binds (ps := ["thing", "least"]) fun _ _ _ _ _ _ us hl => match us, hl with | [_, _], _ => rfl
  have D_is_whole_from : Cl l.prog w K mg base 1 "is_whole_from" ["thing", "least"] (sp_is_whole_from K) := ⟨_, _, ok_is_whole_from F3 T , k3, b3, PySem.W.mg_of X G a3⟩
  have F4 := fun_mk (st := s_is_whole) l4 c4 k4
  have b4 := F4.binds (ps := ["thing", "least", "most"]) fun _ _ _ _ _ _ us hl => match us, hl with | [_, _, _], _ => rfl
  have D_is_whole : Cl l.prog w K mg base 2 "is_whole" ["thing", "least", "most"] (sp_is_whole K) := ⟨_, _, ok_is_whole F4 T D_is_whole_from, k4, b4, PySem.W.mg_of X G a4⟩
  have F5 := fun_mk (st := s_need_number) l5 c5 k5
  have b5 := F5.binds (ps := ["thing", "least", "most"]) fun _ _ _ _ _ _ us hl => match us, hl with | [_, _, _], _ => rfl
  have D_need_number : ClX l.prog w K mg base 3 "need_number" ["thing", "least", "most"] (sp_need_number K (fun i => [C0, C1, C2, C3, C4, C5, C6, C7, C8, C9, C10, C11, C12, C13, C14, C15].getD i 0)) := ⟨_, _, ok_need_number F5 T TX  D_is_whole, k5, b5, PySem.W.mg_of X G a5⟩
  have F6 := fun_mk (st := s_need_at_most) l6 c6 k6
  have b6 := F6.binds (ps := ["many", "most"]) fun _ _ _ _ _ _ us hl => match us, hl with | [_, _], _ => rfl
  have D_need_at_most : ClX l.prog w K mg base 3 "need_at_most" ["many", "most"] (sp_need_at_most K (fun i => [C0, C1, C2, C3, C4, C5, C6, C7, C8, C9, C10, C11, C12, C13, C14, C15].getD i 0)) := ⟨_, _, ok_need_at_most F6 T TX TITooMany , k6, b6, PySem.W.mg_of X G a6⟩
  have F7 := fun_mk (st := s_is_tuple) l7 c7 k7
  have b7 := F7.binds (ps := ["thing", "least", "most"]) fun _ _ _ _ _ _ us hl => match us, hl with | [_, _, _], _ => rfl
  have D_is_tuple : Cl l.prog w K mg base 1 "is_tuple" ["thing", "least", "most"] (sp_is_tuple K) := ⟨_, _, ok_is_tuple F7 T , k7, b7, PySem.W.mg_of X G a7⟩
  have F8 := fun_mk (st := s_is_drawing) l8 c8 k8
  have b8 := F8.binds (ps := ["thing"]) fun _ _ _ _ _ _ us hl => match us, hl with | [_], _ => rfl
  have D_is_drawing : Cl l.prog w K mg base 3 "is_drawing" ["thing"] (sp_is_drawing K) := ⟨_, _, ok_is_drawing F8 T D_is_whole, k8, b8, PySem.W.mg_of X G a8⟩
  have F9 := fun_mk (st := s_is_hold) l9 c9 k9
  have b9 := F9.binds (ps := ["thing"]) fun _ _ _ _ _ _ us hl => match us, hl with | [_], _ => rfl
  have D_is_hold : Cl l.prog w K mg base 3 "is_hold" ["thing"] (sp_is_hold K) := ⟨_, _, ok_is_hold F9 T D_is_whole, k9, b9, PySem.W.mg_of X G a9⟩
  have F10 := fun_mk (st := s_is_row) l10 c10 k10
  have b10 := F10.binds (ps := ["thing"]) fun _ _ _ _ _ _ us hl => match us, hl with | [_], _ => rfl
  have D_is_row : Cl l.prog w K mg base 4 "is_row" ["thing"] (sp_is_row K) := ⟨_, _, ok_is_row F10 T D_is_tuple D_is_drawing D_is_hold, k10, b10, PySem.W.mg_of X G a10⟩
  have F11 := fun_mk (st := s_is_layer) l11 c11 k11
  have b11 := F11.binds (ps := ["thing"]) fun _ _ _ _ _ _ us hl => match us, hl with | [_], _ => rfl
  have D_is_layer : Cl l.prog w K mg base 5 "is_layer" ["thing"] (sp_is_layer K) := ⟨_, _, ok_is_layer F11 T D_is_tuple D_is_row D_is_whole, k11, b11, PySem.W.mg_of X G a11⟩
  have F12 := fun_mk (st := s_need_layer) l12 c12 k12
  have b12 := F12.binds (ps := ["thing"]) fun _ _ _ _ _ _ us hl => match us, hl with | [_], _ => rfl
  have D_need_layer : ClX l.prog w K mg base 6 "need_layer" ["thing"] (sp_need_layer K (fun i => [C0, C1, C2, C3, C4, C5, C6, C7, C8, C9, C10, C11, C12, C13, C14, C15].getD i 0)) := ⟨_, _, ok_need_layer F12 T TX  D_is_layer, k12, b12, PySem.W.mg_of X G a12⟩
  have F13 := fun_mk (st := s_drawings_of) l13 c13 k13
  have b13 := F13.binds (ps := ["rows"]) fun _ _ _ _ _ _ us hl => match us, hl with | [_], _ => rfl
  have D_drawings_of : Cl l.prog w K mg base 1 "drawings_of" ["rows"] (sp_drawings_of K) := ⟨_, _, ok_drawings_of F13 T , k13, b13, PySem.W.mg_of X G a13⟩
  have F14 := fun_mk (st := s_ahead_and_around) l14 c14 k14
  have b14 := F14.binds (ps := ["layer"]) fun _ _ _ _ _ _ us hl => match us, hl with | [_], _ => rfl
  have D_ahead_and_around : Cl l.prog w K mg base 2 "ahead_and_around" ["layer"] (sp_ahead_and_around K) := ⟨_, _, ok_ahead_and_around F14 T D_drawings_of, k14, b14, PySem.W.mg_of X G a14⟩
  have F15 := fun_mk (st := s_first_drawings) l15 c15 k15
  have b15 := F15.binds (ps := ["layer", "many"]) fun _ _ _ _ _ _ us hl => match us, hl with | [_, _], _ => rfl
  have D_first_drawings : Cl l.prog w K mg base 3 "first_drawings" ["layer", "many"] (sp_first_drawings K) := ⟨_, _, ok_first_drawings F15 T D_ahead_and_around, k15, b15, PySem.W.mg_of X G a15⟩
  have F16 := fun_mk (st := s_laid) l16 c16 k16
  have b16 := F16.binds (ps := ["layer", "many"]) fun _ _ _ _ _ _ us hl => match us, hl with | [_, _], _ => rfl
  have D_laid : ClX l.prog w K mg base 7 "laid" ["layer", "many"] (sp_laid K (fun i => [C0, C1, C2, C3, C4, C5, C6, C7, C8, C9, C10, C11, C12, C13, C14, C15].getD i 0)) := ⟨_, _, ok_laid F16 T TX  D_need_layer D_need_number D_first_drawings, k16, b16, PySem.W.mg_of X G a16⟩
  have F17 := fun_mk (st := s_are_drawings) l17 c17 k17
  have b17 := F17.binds (ps := ["thing"]) fun _ _ _ _ _ _ us hl => match us, hl with | [_], _ => rfl
  have D_are_drawings : Cl l.prog w K mg base 4 "are_drawings" ["thing"] (sp_are_drawings K) := ⟨_, _, ok_are_drawings F17 T D_is_drawing, k17, b17, PySem.W.mg_of X G a17⟩
  have F18 := fun_mk (st := s_runs_of) l18 c18 k18
  have b18 := F18.binds (ps := ["drawings"]) fun _ _ _ _ _ _ us hl => match us, hl with | [_], _ => rfl
  have D_runs_of : Cl l.prog w K mg base 1 "runs_of" ["drawings"] (sp_runs_of K) := ⟨_, _, ok_runs_of F18 T , k18, b18, PySem.W.mg_of X G a18⟩
  have F19 := fun_mk (st := s_rows_of_run) l19 c19 k19
  have b19 := F19.binds (ps := ["drawing", "many"]) fun _ _ _ _ _ _ us hl => match us, hl with | [_, _], _ => rfl
  have D_rows_of_run : Cl l.prog w K mg base 1 "rows_of_run" ["drawing", "many"] (sp_rows_of_run K) := ⟨_, _, ok_rows_of_run F19 T , k19, b19, PySem.W.mg_of X G a19⟩
  have F20 := fun_mk (st := s_folded) l20 c20 k20
  have b20 := F20.binds (ps := ["drawings"]) fun _ _ _ _ _ _ us hl => match us, hl with | [_], _ => rfl
  have D_folded : ClX l.prog w K mg base 5 "folded" ["drawings"] (sp_folded K (fun i => [C0, C1, C2, C3, C4, C5, C6, C7, C8, C9, C10, C11, C12, C13, C14, C15].getD i 0)) := ⟨_, _, ok_folded F20 T TX  D_are_drawings D_runs_of D_rows_of_run D_need_at_most, k20, b20, PySem.W.mg_of X G a20⟩
  have F21 := fun_mk (st := s__law_cell_at) l21 c21 k21
  have b21 := F21.binds (ps := ["_law_script", "_law_k"]) fun _ _ _ _ _ _ us hl => match us, hl with | [_, _], _ => rfl
  have D__law_cell_at : Cl l.prog w K mg base 1 "_law_cell_at" ["_law_script", "_law_k"] (sp__law_cell_at K) := ⟨_, _, ok__law_cell_at F21 T , k21, b21, PySem.W.mg_of X G a21⟩
  have F22 := fun_mk (st := s__law_state) l22 c22 k22
  have b22 := F22.binds (ps := ["_law_script", "_law_k"]) fun _ _ _ _ _ _ us hl => match us, hl with | [_, _], _ => rfl
  have D__law_state : Cl l.prog w K mg base 2 "_law_state" ["_law_script", "_law_k"] (sp__law_state K) := ⟨_, _, ok__law_state F22 T D__law_cell_at, k22, b22, PySem.W.mg_of X G a22⟩
  have F23 := fun_mk (st := s__law_take) l23 c23 k23
  have b23 := F23.binds (ps := ["_law_state_here", "_law_many_here"]) fun _ _ _ _ _ _ us hl => match us, hl with | [_, _], _ => rfl
  have D__law_take : Cl l.prog w K mg base 1 "_law_take" ["_law_state_here", "_law_many_here"] (sp__law_take K) := ⟨_, _, ok__law_take F23 T , k23, b23, PySem.W.mg_of X G a23⟩
  have F24 := fun_mk (st := s__law_same) l24 c24 k24
  have b24 := F24.binds (ps := ["_law_found", "_law_due"]) fun _ _ _ _ _ _ us hl => match us, hl with | [_, _], _ => rfl
  have D__law_same : Cl l.prog w K mg base 4 "_law_same" ["_law_found", "_law_due"] (sp__law_same K) := same_all F24 T b24 (PySem.W.mg_of X G a24) 3
  have F25 := fun_mk (st := s__law_runs) l25 c25 k25
  have b25 := F25.binds (ps := ["_law_state_here"]) fun _ _ _ _ _ _ us hl => match us, hl with | [_], _ => rfl
  have D__law_runs : Cl l.prog w K mg base 2 "_law_runs" ["_law_state_here"] (sp__law_runs K) := ⟨_, _, ok__law_runs F25 T D__law_take, k25, b25, PySem.W.mg_of X G a25⟩
  have F26 := fun_mk (st := s__law_split) l26 c26 k26
  have b26 := F26.binds (ps := ["_law_size"]) fun _ _ _ _ _ _ us hl => match us, hl with | [_], _ => rfl
  have D__law_split : Cl l.prog w K mg base 1 "_law_split" ["_law_size"] (sp__law_split K) := ⟨_, _, ok__law_split F26 T , k26, b26, PySem.W.mg_of X G a26⟩
  have F27 := funC_mk (st := s_law) l27 c27
  have F27b := fun_mk (st := s_law) l27 c27 k27
  have MR27 : Mkr base mg cc27 PP27 "law" [(PP27, qLam "law")] := ⟨tb (cc27, PP27) (by simp), by simp, fun p hp e => by
    simp only [List.mem_cons, List.not_mem_nil, or_false] at hp
    rcases hp with rfl
    · rfl⟩
  exact ok_law F27 T TX MR27 F0 (PySem.W.mg_of X G a0) b0 DM F2 (PySem.W.mg_of X G a2) b2 xm D__law_state D__law_runs D__law_split D_folded D__law_same D_laid D__law_take

end Lan
open PySem PySem.W PyProof.Rows
set_option maxRecDepth 100000 in
set_option maxHeartbeats 0 in
theorem PySem.Challenge.cw_lanternrows_k08_drawings_folded_holds : PySem.Challenge.rw_lanternrows_k08_drawings_folded.Holds := by
  w_on; o_law; k_head; (case hw => w_witness2)
  k_fill
  refine Lan.walk_ofLG (l := PySem.Challenge.rw_lanternrows_k08_drawings_folded) (n := 63) (k := 10) (x := "_law_script") rfl (by decide) rfl ⟨rfl, by decide, by decide⟩ (fun w h Y => PySem.W.km_in_of Y) ?F
  case F =>
    intro w mg fa h KX G hmg TQ
    refine' Lan.all_mk KX G hmg TQ ?a0 ?l0 ?c0 ?k0 ?a1 ?l1 ?c1 ?k1 ?a2 ?l2 ?c2 ?k2 ?a3 ?l3 ?c3 ?k3 ?a4 ?l4 ?c4 ?k4 ?a5 ?l5 ?c5 ?k5 ?a6 ?l6 ?c6 ?k6 ?a7 ?l7 ?c7 ?k7 ?a8 ?l8 ?c8 ?k8 ?a9 ?l9 ?c9 ?k9 ?a10 ?l10 ?c10 ?k10 ?a11 ?l11 ?c11 ?k11 ?a12 ?l12 ?c12 ?k12 ?a13 ?l13 ?c13 ?k13 ?a14 ?l14 ?c14 ?k14 ?a15 ?l15 ?c15 ?k15 ?a16 ?l16 ?c16 ?k16 ?a17 ?l17 ?c17 ?k17 ?a18 ?l18 ?c18 ?k18 ?a19 ?l19 ?c19 ?k19 ?a20 ?l20 ?c20 ?k20 ?a21 ?l21 ?c21 ?k21 ?a22 ?l22 ?c22 ?k22 ?a23 ?l23 ?c23 ?k23 ?a24 ?l24 ?c24 ?k24 ?a25 ?l25 ?c25 ?k25 ?a26 ?l26 ?c26 ?k26 ?a27 ?l27 ?c27 ?k27 ?lc27 ?v1127 ?tq27 ?tt27 ?tn27 ?z_ValueError ?z_len ?z_isinstance ?z_max ?z_min ?z_all ?z_tuple ?z_list ?z_range ?z_zip ?z_bool ?z_int ?z_repr ?z_divmod ?v_MOST_DRAWING ?v_MOST_HOLD ?v_MOST_ROWS ?v_MOST_PICTURES ?x0 ?x1 ?x2 ?x3 ?x4 ?x5 ?x6 ?x7 ?x8 ?x9 ?x10 ?x11 ?x12 ?x13 ?x14 ?x15 ?xL ?xb ?nm1 ?nm2 ?nm3 ?xm ?xoTooMany ?xrTooMany ?saTooMany ?iITooMany ?tITooMany ?lITooMany ?cITooMany ?kITooMany
    (case a0 => k_is)
    (case l0 => k_is)
    (case c0 => k_is)
    (case k0 => k_is)
    (case a1 => k_is)
    (case l1 => k_is)
    (case c1 => k_is)
    (case k1 => k_is)
    (case a2 => k_is)
    (case l2 => k_is)
    (case c2 => k_is)
    (case k2 => k_is)
    (case a3 => k_is)
    (case l3 => k_is)
    (case c3 => k_is)
    (case k3 => k_is)
    (case a4 => k_is)
    (case l4 => k_is)
    (case c4 => k_is)
    (case k4 => k_is)
    (case a5 => k_is)
    (case l5 => k_is)
    (case c5 => k_is)
    (case k5 => k_is)
    (case a6 => k_is)
    (case l6 => k_is)
    (case c6 => k_is)
    (case k6 => k_is)
    (case a7 => k_is)
    (case l7 => k_is)
    (case c7 => k_is)
    (case k7 => k_is)
    (case a8 => k_is)
    (case l8 => k_is)
    (case c8 => k_is)
    (case k8 => k_is)
    (case a9 => k_is)
    (case l9 => k_is)
    (case c9 => k_is)
    (case k9 => k_is)
    (case a10 => k_is)
    (case l10 => k_is)
    (case c10 => k_is)
    (case k10 => k_is)
    (case a11 => k_is)
    (case l11 => k_is)
    (case c11 => k_is)
    (case k11 => k_is)
    (case a12 => k_is)
    (case l12 => k_is)
    (case c12 => k_is)
    (case k12 => k_is)
    (case a13 => k_is)
    (case l13 => k_is)
    (case c13 => k_is)
    (case k13 => k_is)
    (case a14 => k_is)
    (case l14 => k_is)
    (case c14 => k_is)
    (case k14 => k_is)
    (case a15 => k_is)
    (case l15 => k_is)
    (case c15 => k_is)
    (case k15 => k_is)
    (case a16 => k_is)
    (case l16 => k_is)
    (case c16 => k_is)
    (case k16 => k_is)
    (case a17 => k_is)
    (case l17 => k_is)
    (case c17 => k_is)
    (case k17 => k_is)
    (case a18 => k_is)
    (case l18 => k_is)
    (case c18 => k_is)
    (case k18 => k_is)
    (case a19 => k_is)
    (case l19 => k_is)
    (case c19 => k_is)
    (case k19 => k_is)
    (case a20 => k_is)
    (case l20 => k_is)
    (case c20 => k_is)
    (case k20 => k_is)
    (case a21 => k_is)
    (case l21 => k_is)
    (case c21 => k_is)
    (case k21 => k_is)
    (case a22 => k_is)
    (case l22 => k_is)
    (case c22 => k_is)
    (case k22 => k_is)
    (case a23 => k_is)
    (case l23 => k_is)
    (case c23 => k_is)
    (case k23 => k_is)
    (case a24 => k_is)
    (case l24 => k_is)
    (case c24 => k_is)
    (case k24 => k_is)
    (case a25 => k_is)
    (case l25 => k_is)
    (case c25 => k_is)
    (case k25 => k_is)
    (case a26 => k_is)
    (case l26 => k_is)
    (case c26 => k_is)
    (case k26 => k_is)
    (case a27 => k_is)
    (case l27 => k_is)
    (case c27 => k_is)
    (case k27 => k_is)
    (case lc27 => k_is)
    (case v1127 => rfl)
    (case tq27 => kernel_rfl)
    (case tt27 => kernel_rfl)
    (case tn27 => kernel_rfl)
    (case z_ValueError => k_is)
    (case z_len => k_is)
    (case z_isinstance => k_is)
    (case z_max => k_is)
    (case z_min => k_is)
    (case z_all => k_is)
    (case z_tuple => k_is)
    (case z_list => k_is)
    (case z_range => k_is)
    (case z_zip => k_is)
    (case z_bool => k_is)
    (case z_int => k_is)
    (case z_repr => k_is)
    (case z_divmod => k_is)
    (case v_MOST_DRAWING => k_is)
    (case v_MOST_HOLD => k_is)
    (case v_MOST_ROWS => k_is)
    (case v_MOST_PICTURES => k_is)
    (case x0 => k_is)
    (case x1 => k_is)
    (case x2 => k_is)
    (case x3 => k_is)
    (case x4 => k_is)
    (case x5 => k_is)
    (case x6 => k_is)
    (case x7 => k_is)
    (case x8 => k_is)
    (case x9 => k_is)
    (case x10 => k_is)
    (case x11 => k_is)
    (case x12 => k_is)
    (case x13 => k_is)
    (case x14 => k_is)
    (case x15 => k_is)
    (case xL => k_is)
    (case xb => kernel_rfl)
    (case nm1 => k_is)
    (case nm2 => k_is)
    (case nm3 => k_is)
    (case xm => kernel_rfl)
    (case xoTooMany => k_is)
    (case xrTooMany => decide +kernel)
    (case saTooMany => k_is)
    (case iITooMany => k_is)
    (case tITooMany => k_is)
    (case lITooMany => k_is)
    (case cITooMany => k_is)
    (case kITooMany => k_is)
