import PyProof.Rows.All
import Wide.All
import OpenK.AllK
import Wide.FinOn
import HandS.ForMost
import HandS.IsInst
import HandS.TupAny
import HandS.TupMul
import HandS.Conv
import HandS.Style
import HandS.Flow
import HandS.Codes
import HandS.Zip
import KE.GoesNew
import HandS.Lambda
import HandS.EndTab
import HandS.ExcInit
import HandS.ExcField
import HandS.ExcIs
import HandS.HotCalls
import HandS.TryOnly
import HandS.WordsExc
import HandS.ExcOwn
import HandS.Small
import HandS.FStr
import KE.KExcIs
import HandS.SetFor
import HandS.Strs
import KE.KDictZip
import HandS.SortKw
import KE.DataMinMax
import PySem.Challenge.RW_lanternrows_k15_things_named_otherwise
set_option Elab.async false
set_option linter.all false
set_option maxRecDepth 100000
set_option maxHeartbeats 4000000
namespace Lan
open PySem PySem.Spec PyProof.Rows L2
/-! ### short rules -/
def bkV : Option Int → V
  | none => .non
  | some i => .int i
structure Cl (P : Program) (w : World) (K : PySem.W.Frag) (mg : Str → Option Value) (base : Heap) (k : Nat) (x : Str) (ps : List Str) (sp : Sp) : Prop where
  ex : ∃ (f : Addr) (fd : FuncData), FnOk P w K mg base CX0 k f fd ps sp ∧ PySem.W.keepIn K (.ref f) = true ∧ Binds K fd ps [] ∧ mg x = some (.ref f)
section
variable {X : Cx}
theorem pe_gint {x : Str} {pos : Pos} {n : Int} (hg : Gl X x) (h : ∃ t, X.mg x = some (.int n t)) (hd : (x == ("__debug__" : Str)) = false := by decide) : PE X (.Name x pos) (tC (.int n)) := by
  obtain ⟨t, h⟩ := h
  exact pe_glob hg h ⟨_, rfl⟩ hd
theorem pe_own {k : Nat} {x : Str} {ps : List Str} {sp : Sp} {e : Expr} {es : List Expr} {t : TA} {p pos : Pos} (C : Cl X.prog X.w X.K X.mg X.base k x ps sp) (hr : Room k X.A) (hg : Gl X x) (ha : PA X (e :: es) t)
    (hdb : (x == ("__debug__" : Str)) = false := by decide) (he : starEach (e :: es) X.env = (false, eval e X.env) :: starEach es X.env := by rfl) (hpl : (backTo pos (starEach es X.env)).any (·.1) = false := by rfl) :
    PE X (.Call (.Name x p) (e :: es) [] pos) (tCall sp [] E0 t) := by
  obtain ⟨f, fd, F, hk, hb, hm⟩ := C.ex
  exact pe_call F hr hg hm hk hb .nil pass0 ha hdb he hpl
def tPartN (t : TE) : TO := fun σ H Q => t σ H fun x H1 => ∃ o : Option Int, x = bkV o ∧ Q o H1
theorem po_opt {e : Expr} {te : TE} (h : PE X e te) : PO X (some e) (tPartN te) := by
  refine ⟨fun pins s σ H Q I hw => ?_⟩
  rw [evalPart_some]
  refine thn (h.run pins s σ H _ I hw) fun u s1 ⟨x, H1, I1, r1, q1⟩ => ?_
  obtain ⟨o, rfl, q⟩ := q1
  cases o with
  | none =>
    cases r1
    exact ⟨none, H1, I1, .none, q⟩
  | some i =>
    obtain ⟨t, rfl⟩ := r1
    exact ⟨some i, H1, I1, .int i t, q⟩
end
/-! ### heaps -/
theorem same_upd {H : Hp} {p : Addr} {o : HO} (h : H p = none) : Same H (upd H p o) := fun b x e => by
  rw [upd_ne (ne_of_none e h)]
  exact e
theorem new_at {H : Hp} {p : Addr} (o : HO) (h : H p = none) : Same H (upd H p o) ∧ (upd H p o) p = some o := ⟨same_upd h, upd_same⟩
theorem Same.sqT {K : PySem.W.Frag} {H H' : Hp} {a : Addr} {xs : List V} (e : Same H H') (h : SqT K H a xs) : SqT K H' a xs := by
  rcases h with (h | ⟨o, h⟩) | h
  · exact .inl (.inl (e _ _ h))
  · exact .inl (.inr ⟨o, e _ _ h⟩)
  · exact .inr h
def IsSt (H : Hp) (st : Addr) : Prop := ∃ a b : Int, H st = some (.lst [.int a, .int b]) ∧ 0 ≤ a ∧ 0 ≤ b ∧ b < 2147483647
/-- all but the state at st stands, and st holds a state as before -/
def Gr (st : Addr) (H H' : Hp) : Prop := (∀ b o, b ≠ st → H b = some o → H' b = some o) ∧ (IsSt H st → IsSt H' st)
theorem Gr.refl {st : Addr} {H : Hp} : Gr st H H := ⟨fun _ _ _ h => h, id⟩
theorem Gr.trans {st : Addr} {H H1 H2 : Hp} (a : Gr st H H1) (b : Gr st H1 H2) : Gr st H H2 := ⟨fun c o n h => b.1 c o n (a.1 c o n h), fun h => b.2 (a.2 h)⟩
theorem gr_same {st : Addr} {H H' : Hp} (s : Same H H') : Gr st H H' := ⟨fun b o _ h => s b o h, fun ⟨a, b, h, r⟩ => ⟨a, b, s _ _ h, r⟩⟩
theorem gr_set {st : Addr} {H : Hp} {a b : Int} (h0 : 0 ≤ a) (h1 : 0 ≤ b) (h2 : b < 2147483647) : Gr st H (upd H st (.lst [.int a, .int b])) :=
  ⟨fun c o n h => by rw [upd_ne n]; exact h, fun _ => ⟨a, b, upd_same, h0, h1, h2⟩⟩
theorem Gr.sqT {st : Addr} {K : PySem.W.Frag} {H H' : Hp} {a : Addr} {xs : List V} (g : Gr st H H') (s : IsSt H st) (h : SqT K H a xs) : SqT K H' a xs := by
  obtain ⟨u, v, hs, _⟩ := s
  rcases h with (h | ⟨o, h⟩) | h
  · exact .inl (.inl (g.1 _ _ (ne_of h hs (by intro z; cases z)) h))
  · exact .inl (.inr ⟨o, g.1 _ _ (ne_of h hs (by intro z; cases z)) h⟩)
  · exact .inr h
/-- behind a state that was not there before -/
theorem Gr.same {st : Addr} {H H1 H2 : Hp} (g : Gr st H1 H2) (s : Same H H1) (n : H st = none) : Same H H2 := fun b o h => g.1 b o (ne_of_none h n) (s b o h)
theorem tyT {K : PySem.W.Frag} {H : Hp} {a : Addr} {xs : List V} (h : SqT K H a xs) : TyX K H (.ref a) (.type "tuple") := by
  rcases h with (h | ⟨o, h⟩) | ⟨o, its, n, h, c, _⟩
  · exact .base (.tup h)
  · exact .fTuple h
  · exact .kTuple h c
theorem yes_ok {σ : L2.St} {H : Hp} {te : TE} {R : VK} {Z : Hp → Prop} (h : te σ H R) : tYes σ H (fun b H3 => if b = true then te σ H3 R else Z H3) := by
  show if true = true then te σ H R else Z H
  rw [if_pos rfl]
  exact h
/-! ### comprehensions that make one value an item and leave the heap -/
theorem lcmap_tup {K : PySem.W.Frag} {a : Addr} {xs : List V} {g : TG} {tt : TT} {te : TE} {vs : List Nat} {σ : L2.St} {H1 : Hp} {D : Addr} {Qd : Hp → Prop} (ys : List V) (hl : ys.length = xs.length) (hz : xs.length ≤ 1000) (hS : SqT K H1 a xs) (hD : H1 D = none)
    (hs : ∀ (i : Nat) (x y : V) (H : Hp) (R : V → Hp → Prop) (Z : Hp → Prop), xs[i]? = some x → ys[i]? = some y → Same H1 H → (∀ H4, Same H H4 → R y H4) → g x (wipe σ vs) H fun σ2 H2 => wipe σ2 vs = wipe σ vs ∧ tt σ2 H2 fun b H3 => if b = true then te σ2 H3 R else Z H3)
    (hd : ∀ H, Same H1 H → H D = some (.lst ys) → Qd H) :
    ∃ W : Nat → Nat → Hp → Prop, (∃ m, W 0 m (upd H1 D (.lst []))) ∧ ∀ i m H, W i m H →
      ((Itt K a).stop i H ∧ Qd H) ∨ ((Itt K a).go i H ∧ ∃ Nx : Hp → Prop, (∀ H', Nx H' → ∃ m', m' < m ∧ W (i + 1) m' H') ∧ ∀ x H', (Itt K a).yld i H x H' → g x (wipe σ vs) H' fun σ2 H2 => wipe σ2 vs = wipe σ vs ∧ tt σ2 H2 fun b H3 =>
        if b = true then te σ2 H3 fun y H4 => ∃ acc, H4 D = some (.lst acc) ∧ acc.length < sizeLine ∧ Nx (upd H4 D (.lst (acc ++ [y]))) else Nx H3) := by
  refine lc_tup (K := K) (a := a) (xs := xs) (fun i H => Same H1 H ∧ H D = some (.lst (ys.take i))) ⟨same_upd hD, upd_same⟩ (fun i H _ p => Same.sqT p.1 hS) (fun i x H hx p => ?_) (fun H p => ?_)
  · have hi : i < xs.length := (List.getElem?_eq_some_iff.mp hx).1
    obtain ⟨y, hy⟩ : ∃ y, ys[i]? = some y := ⟨_, List.getElem?_eq_getElem (by omega)⟩
    refine hs i x y H _ _ hx hy p.1 (fun H4 s4 => ⟨ys.take i, s4 _ _ p.2, ?_, ?_, ?_⟩)
    · rw [List.length_take]
      exact Nat.lt_of_le_of_lt (Nat.min_le_left _ _) (small1000 (by omega))
    · intro b o e
      rw [upd_ne (ne_of_none e hD)]
      exact s4 _ _ (p.1 _ _ e)
    · rw [upd_same, List.take_add_one, hy]
      rfl
  · refine hd H p.1 ?_
    rw [p.2, List.take_of_length_le (by omega)]
/-! ### paired lists -/
theorem Paired.mono {α β : Type} {F G : α → β → Prop} {l₁ : List α} {l₂ : List β} (p : Paired F l₁ l₂) (f : ∀ a b, F a b → G a b) : Paired G l₁ l₂ := Paired.mapP p f
theorem Paired.takeP {α β : Type} {F : α → β → Prop} : ∀ {l₁ : List α} {l₂ : List β} (n : Nat), Paired F l₁ l₂ → Paired F (l₁.take n) (l₂.take n)
  | _, _, 0, _ => .nil
  | _, _, _ + 1, .nil => .nil
  | _, _, n + 1, .cons r t => .cons r (Paired.takeP n t)
theorem Paired.dropP {α β : Type} {F : α → β → Prop} : ∀ {l₁ : List α} {l₂ : List β} (n : Nat), Paired F l₁ l₂ → Paired F (l₁.drop n) (l₂.drop n)
  | _, _, 0, p => p
  | _, _, _ + 1, .nil => .nil
  | _, _, n + 1, .cons _ t => Paired.dropP n t
theorem Paired.at {α β : Type} {F : α → β → Prop} : ∀ {l₁ : List α} {l₂ : List β} {i : Nat} {x : α}, Paired F l₁ l₂ → l₁[i]? = some x → ∃ y, l₂[i]? = some y ∧ F x y
  | _, _, i, x, .nil, h => by simp at h
  | _, _, 0, x, .cons (a := a) r t, h => by
    have e : _ = x := Option.some.inj h
    subst e
    exact ⟨_, rfl, r⟩
  | _, _, i + 1, x, .cons r t, h => Paired.at (i := i) t h
theorem Paired.at2 {α β : Type} {F : α → β → Prop} : ∀ {l₁ : List α} {l₂ : List β} {i : Nat} {y : β}, Paired F l₁ l₂ → l₂[i]? = some y → ∃ x, l₁[i]? = some x ∧ F x y
  | _, _, i, y, .nil, h => by simp at h
  | _, _, 0, y, .cons r t, h => by
    have e : _ = y := Option.some.inj h
    subst e
    exact ⟨_, rfl, r⟩
  | _, _, i + 1, y, .cons r t, h => Paired.at2 (i := i) t h
theorem Paired.snocP {α β : Type} {F : α → β → Prop} : ∀ {l₁ : List α} {l₂ : List β} {x : α} {y : β}, Paired F l₁ l₂ → F x y → Paired F (l₁ ++ [x]) (l₂ ++ [y])
  | _, _, _, _, .nil, h => .cons h .nil
  | _, _, _, _, .cons r t, h => .cons r (Paired.snocP t h)
/-! ### rows, layers as they lie in the heap -/
abbrev RW := Int × Int
def RowAt (K : PySem.W.Frag) (H : Hp) (v : V) (r : RW) : Prop := ∃ p, v = .ref p ∧ SqT K H p [.int r.1, .int r.2]
def RowsAt (K : PySem.W.Frag) (H : Hp) (v : V) (rs : List RW) : Prop := ∃ p vs, v = .ref p ∧ SqT K H p vs ∧ Paired (RowAt K H) vs rs
def LayAt (K : PySem.W.Frag) (H : Hp) (v : V) (rs : List RW) (bk : Option Int) : Prop := ∃ p rv, v = .ref p ∧ SqT K H p [rv, bkV bk] ∧ RowsAt K H rv rs
def VRow (r : RW) : Prop := 0 ≤ r.1 ∧ r.1 ≤ 9 ∧ 1 ≤ r.2 ∧ r.2 ≤ 24
def VRows (rs : List RW) : Prop := rs.length ≤ 8 ∧ ∀ r ∈ rs, VRow r
def VBack (rs : List RW) (bk : Option Int) : Prop := ∀ i, bk = some i → 0 ≤ i ∧ i < rs.length
abbrev TKeep (K : PySem.W.Frag) (H H' : Hp) : Prop := ∀ a xs, SqT K H a xs → SqT K H' a xs
theorem Same.tk {K : PySem.W.Frag} {H H' : Hp} (s : Same H H') : TKeep K H H' := fun _ _ h => Same.sqT s h
theorem Gr.tk {st : Addr} {K : PySem.W.Frag} {H H' : Hp} (g : Gr st H H') (s : IsSt H st) : TKeep K H H' := fun _ _ h => g.sqT s h
theorem RowAt.keep {K : PySem.W.Frag} {H H' : Hp} {v : V} {r : RW} (k : TKeep K H H') : RowAt K H v r → RowAt K H' v r := fun ⟨p, e, h⟩ => ⟨p, e, k _ _ h⟩
theorem RowsAt.keep {K : PySem.W.Frag} {H H' : Hp} {v : V} {rs : List RW} (k : TKeep K H H') : RowsAt K H v rs → RowsAt K H' v rs := fun ⟨p, vs, e, h, q⟩ => ⟨p, vs, e, k _ _ h, Paired.mono q fun _ _ => RowAt.keep k⟩
theorem LayAt.keep {K : PySem.W.Frag} {H H' : Hp} {v : V} {rs : List RW} {bk : Option Int} (k : TKeep K H H') : LayAt K H v rs bk → LayAt K H' v rs bk := fun ⟨p, rv, e, h, q⟩ => ⟨p, rv, e, k _ _ h, q.keep k⟩
/-! ### what a layer shows -/
def tot (rs : List RW) : Int := (rs.map (·.2)).sum
theorem tot_nil : tot [] = 0 := rfl
theorem tot_cons (r : RW) (rs : List RW) : tot (r :: rs) = r.2 + tot rs := by
  unfold tot
  rw [List.map_cons, List.sum_cons]
theorem tot_append (rs qs : List RW) : tot (rs ++ qs) = tot rs + tot qs := by
  induction rs with
  | nil => simp [tot_nil]
  | cons r t ih =>
    rw [List.cons_append, tot_cons, tot_cons, ih]
    omega
theorem tot_split (rs : List RW) (k : Nat) : tot rs = tot (rs.take k) + tot (rs.drop k) := by
  rw [← tot_append, List.take_append_drop]
theorem tot_nonneg : ∀ {rs : List RW}, (∀ r ∈ rs, VRow r) → (rs.length : Int) ≤ tot rs ∧ tot rs ≤ 24 * rs.length
  | [], _ => by
    rw [tot_nil]
    exact ⟨Int.le_refl _, Int.le_refl _⟩
  | r :: t, h => by
    have h1 := h r (List.mem_cons_self ..)
    have ih := tot_nonneg (rs := t) fun q hq => h q (List.mem_cons_of_mem _ hq)
    rw [tot_cons, List.length_cons]
    obtain ⟨_, _, h3, h4⟩ := h1
    obtain ⟨i1, i2⟩ := ih
    constructor <;> omega
def walk : List RW → Int → Int
  | [], _ => 0
  | r :: t, m => if m < r.2 then r.1 else walk t (m - r.2)
def near (rs : List RW) (bk : Option Int) (m : Int) : Int := match bk with
  | none => m
  | some b => if m < tot (rs.take b.toNat) then m else tot (rs.take b.toNat) + (m - tot (rs.take b.toNat)) % tot (rs.drop b.toNat)
def shown (rs : List RW) (bk : Option Int) (m : Int) : Int := walk rs (near rs bk m)
theorem walk_out : ∀ (rs : List RW) (m : Int), tot rs ≤ m → (∀ r ∈ rs, VRow r) → walk rs m = 0
  | [], _, _, _ => rfl
  | r :: t, m, h, v => by
    have v1 := v r (List.mem_cons_self ..)
    have vt : ∀ q ∈ t, VRow q := fun q hq => v q (List.mem_cons_of_mem _ hq)
    have t0 := (tot_nonneg vt).1
    rw [tot_cons] at h
    unfold walk
    rw [if_neg (by omega)]
    exact walk_out t _ (by omega) vt
theorem walk_at : ∀ (rs : List RW) (p : Nat) (r : RW) (j : Int), rs[p]? = some r → (∀ r ∈ rs, VRow r) → 0 ≤ j → j < r.2 → walk rs (tot (rs.take p) + j) = r.1
  | [], p, r, j, h, _, _, _ => by simp at h
  | q :: t, 0, r, j, h, _, h0, h1 => by
    have e : q = r := Option.some.inj h
    subst e
    rw [List.take_zero, tot_nil]
    unfold walk
    rw [if_pos (by omega)]
  | q :: t, p + 1, r, j, h, v, h0, h1 => by
    have vq := v q (List.mem_cons_self ..)
    have vt : ∀ q ∈ t, VRow q := fun q hq => v q (List.mem_cons_of_mem _ hq)
    have tp : 0 ≤ tot (t.take p) := by
      have := (tot_nonneg (rs := t.take p) fun q hq => vt q (List.mem_of_mem_take hq)).1
      omega
    rw [List.take_succ_cons, tot_cons]
    unfold walk
    rw [if_neg (by omega), show q.2 + tot (t.take p) + j - q.2 = tot (t.take p) + j by omega]
    exact walk_at t p r j h vt h0 h1
theorem tot_take_le {rs : List RW} (v : ∀ r ∈ rs, VRow r) {p : Nat} {r : RW} (h : rs[p]? = some r) : tot (rs.take p) + r.2 ≤ tot rs := by
  have hp : p < rs.length := (List.getElem?_eq_some_iff.mp h).1
  have e : rs.take (p + 1) = rs.take p ++ [r] := by
    rw [List.take_add_one, h]
    rfl
  have s := tot_split rs (p + 1)
  rw [e, tot_append] at s
  have e1 : tot [r] = r.2 := by
    rw [tot_cons, tot_nil]
    omega
  have := (tot_nonneg (rs := rs.drop (p + 1)) fun q hq => v q (List.mem_of_mem_drop hq)).1
  omega
/-- the j-th picture of the row p, behind k more rounds -/
theorem shown_at {rs : List RW} {bk : Option Int} (v : ∀ r ∈ rs, VRow r) (vb : VBack rs bk) {p k : Nat} {r : RW} {j c : Int} (h : rs[p]? = some r) (h0 : 0 ≤ j) (h1 : j < r.2)
    (hc : ∀ b, bk = some b → c = tot (rs.drop b.toNat)) (hk : 0 < k → ∃ b, bk = some b ∧ b ≤ p) : shown rs bk (tot (rs.take p) + k * c + j) = r.1 := by
  have w := walk_at rs p r j h v h0 h1
  have tp : 0 ≤ tot (rs.take p) := by
    have := (tot_nonneg (rs := rs.take p) fun q hq => v q (List.mem_of_mem_take hq)).1
    omega
  unfold shown near
  cases bk with
  | none =>
    have k0 : k = 0 := by
      rcases Nat.eq_zero_or_pos k with z | z
      · exact z
      · obtain ⟨b, e, _⟩ := hk z
        cases e
    subst k0
    dsimp only
    rw [show tot (rs.take p) + ((0 : Nat) : Int) * c + j = tot (rs.take p) + j by simp]
    exact w
  | some b =>
    have hb := vb b rfl
    have ec := hc b rfl
    have s := tot_split rs b.toNat
    have le := tot_take_le v h
    rw [← ec] at s
    dsimp only
    rw [← ec]
    have cpos : 0 < c := by
      have := (tot_nonneg (rs := rs.drop b.toNat) fun q hq => v q (List.mem_of_mem_drop hq)).1
      rw [← ec, List.length_drop] at this
      omega
    rcases Nat.eq_zero_or_pos k with z | z
    · subst z
      rw [show tot (rs.take p) + ((0 : Nat) : Int) * c + j = tot (rs.take p) + j by simp]
      by_cases hm : tot (rs.take p) + j < tot (rs.take b.toNat)
      · rw [if_pos hm]
        exact w
      · rw [if_neg hm, Int.emod_eq_of_lt (by omega) (by omega)]
        rw [show tot (rs.take b.toNat) + (tot (rs.take p) + j - tot (rs.take b.toNat)) = tot (rs.take p) + j by omega]
        exact w
    · obtain ⟨b', e, hbp⟩ := hk z
      have e' : b = b' := Option.some.inj e
      subst e'
      have bp : b.toNat ≤ p := by omega
      have tb : tot (rs.take b.toNat) ≤ tot (rs.take p) := by
        have e1 : rs.take b.toNat = (rs.take p).take b.toNat := by
          rw [List.take_take, Nat.min_eq_left bp]
        have s1 := tot_split (rs.take p) b.toNat
        rw [← e1] at s1
        have := (tot_nonneg (rs := (rs.take p).drop b.toNat) fun q hq => v q (List.mem_of_mem_take (List.mem_of_mem_drop hq))).1
        omega
      have kc : 0 ≤ (k : Int) * c := Int.mul_nonneg (by omega) (by omega)
      rw [if_neg (by omega)]
      rw [show tot (rs.take p) + (k : Int) * c + j - tot (rs.take b.toNat) = (tot (rs.take p) + j - tot (rs.take b.toNat)) + c * k by rw [Int.mul_comm c]; omega, Int.add_mul_emod_self_left, Int.emod_eq_of_lt (by omega) (by omega)]
      rw [show tot (rs.take b.toNat) + (tot (rs.take p) + j - tot (rs.take b.toNat)) = tot (rs.take p) + j by omega]
      exact w
theorem shown_end {rs : List RW} (v : ∀ r ∈ rs, VRow r) {m : Int} (h : tot rs ≤ m) : shown rs none m = 0 := walk_out rs m h v
/-- a great moment is as the one so many whole rounds ahead -/
theorem shown_far {rs : List RW} {bk : Option Int} (v : ∀ r ∈ rs, VRow r) (vb : VBack rs bk) {m s : Int} (hs : s = match bk with | none => 1 | some b => tot (rs.drop b.toNat)) (h : tot rs ≤ m) :
    shown rs bk (tot rs + (m - tot rs) % s) = shown rs bk m := by
  cases bk with
  | none =>
    dsimp only at hs
    subst hs
    rw [shown_end v h, shown_end v (by omega)]
  | some b =>
    dsimp only at hs
    have hb := vb b rfl
    have e := tot_split rs b.toNat
    have spos : 0 < s := by
      have := (tot_nonneg (rs := rs.drop b.toNat) fun q hq => v q (List.mem_of_mem_drop hq)).1
      rw [← hs, List.length_drop] at this
      omega
    have hm := Int.emod_nonneg (m - tot rs) (show s ≠ 0 by omega)
    unfold shown near
    dsimp only
    rw [← hs] at e ⊢
    rw [if_neg (by omega), if_neg (by omega)]
    congr 2
    rw [show tot rs + (m - tot rs) % s - tot (rs.take b.toNat) = (m - tot rs) % s + s * 1 by omega, Int.add_mul_emod_self_left, Int.emod_emod,
      show m - tot (rs.take b.toNat) = (m - tot rs) + s * 1 by omega, Int.add_mul_emod_self_left]
theorem shown_walk_none (rs : List RW) (m : Int) : shown rs none m = walk rs m := rfl
/-! ### slices -/
theorem cut_to (xs : List V) (k : Nat) : cutV xs none (some (k : Int)) = xs.take k := by
  unfold cutV
  rw [HT.sIx_none, HT.sIx_nat, List.drop_zero, Nat.sub_zero]
  rcases Nat.le_total k xs.length with h | h
  · rw [Nat.min_eq_left h]
  · rw [Nat.min_eq_right h, List.take_length, List.take_of_length_le h]
theorem cut_from (xs : List V) (k : Nat) : cutV xs (some (k : Int)) none = xs.drop k := by
  unfold cutV
  rw [HT.sIx_none, HT.sIx_nat]
  rcases Nat.le_total k xs.length with h | h
  · rw [Nat.min_eq_left h, List.take_of_length_le (by rw [List.length_drop]; omega)]
  · rw [Nat.min_eq_right h, Nat.sub_self, List.take_zero, List.drop_of_length_le h]
theorem cut_all (xs : List V) : cutV xs none none = xs := by
  unfold cutV
  rw [HT.sIx_none, HT.sIx_none, List.drop_zero, Nat.sub_zero, List.take_length]
theorem cut_whole {xs : List V} {lo hi : Option Int} (h : HT.sIx xs.length 0 lo = 0 ∧ HT.sIx xs.length xs.length hi = xs.length) : cutV xs lo hi = xs := by
  unfold cutV
  rw [h.1, h.2, List.drop_zero, Nat.sub_zero, List.take_length]
theorem sl_rows {K : PySem.W.Frag} {H : Hp} {a : Addr} {xs : List V} {lo hi : Option Int} (rs : List RW) {R : VK} (hS : SqT K H a xs) (hp : Paired (RowAt K H) (cutV xs lo hi) rs) (h : ∀ H' v, Same H H' → RowsAt K H' v rs → R v H') :
    rSlA K (.ref a) lo hi H R := by
  refine ⟨a, xs, rfl, hS, fun w => h H _ (Same.refl _) ⟨a, xs, rfl, hS, ?_⟩, fun _ p np => ?_⟩
  · rw [cut_whole w] at hp
    exact hp
  · have s := same_upd (o := .tup (cutV xs lo hi)) np
    exact h _ _ s ⟨p, _, rfl, .inl (.inl upd_same), Paired.mono hp fun _ _ => RowAt.keep (Same.tk s)⟩
/-! ### windows -/
abbrev MV := Int × Int × Int
def MoveAt (K : PySem.W.Frag) (H : Hp) (v : V) (m : MV) : Prop := ∃ p, v = .ref p ∧ SqT K H p [.int m.1, .int m.2.1, .int m.2.2]
def MovesAt (K : PySem.W.Frag) (H : Hp) (v : V) (ms : List MV) : Prop := ∃ p vs, v = .ref p ∧ SqT K H p vs ∧ Paired (MoveAt K H) vs ms
def WinAt (K : PySem.W.Frag) (H : Hp) (v : V) (x y : Int) (ms : List MV) : Prop := ∃ p mv, v = .ref p ∧ SqT K H p [.int x, .int y, mv] ∧ MovesAt K H mv ms
def VMove (m : MV) : Prop := (-20 ≤ m.1 ∧ m.1 ≤ 20) ∧ (-20 ≤ m.2.1 ∧ m.2.1 ≤ 20) ∧ 0 ≤ m.2.2 ∧ m.2.2 ≤ 24
def VWin (x y : Int) (ms : List MV) : Prop := (-20 ≤ x ∧ x ≤ 20) ∧ (-20 ≤ y ∧ y ≤ 20) ∧ ms.length ≤ 8 ∧ ∀ m ∈ ms, VMove m
theorem MoveAt.keep {K : PySem.W.Frag} {H H' : Hp} {v : V} {m : MV} (k : TKeep K H H') : MoveAt K H v m → MoveAt K H' v m := fun ⟨p, e, h⟩ => ⟨p, e, k _ _ h⟩
theorem MovesAt.keep {K : PySem.W.Frag} {H H' : Hp} {v : V} {ms : List MV} (k : TKeep K H H') : MovesAt K H v ms → MovesAt K H' v ms := fun ⟨p, vs, e, h, q⟩ => ⟨p, vs, e, k _ _ h, Paired.mono q fun _ _ => MoveAt.keep k⟩
theorem WinAt.keep {K : PySem.W.Frag} {H H' : Hp} {v : V} {x y : Int} {ms : List MV} (k : TKeep K H H') : WinAt K H v x y ms → WinAt K H' v x y ms := fun ⟨p, mv, e, h, q⟩ => ⟨p, mv, e, k _ _ h, q.keep k⟩
def mtot (ms : List MV) : Int := (ms.map (·.2.2)).sum
/-! ### sheets -/
abbrev LY := List RW × Option Int
def LyAt (K : PySem.W.Frag) (H : Hp) (v : V) (l : LY) : Prop := LayAt K H v l.1 l.2
def LaysAt (K : PySem.W.Frag) (H : Hp) (v : V) (ls : List LY) : Prop := ∃ p vs, v = .ref p ∧ SqT K H p vs ∧ Paired (LyAt K H) vs ls
def VLy (l : LY) : Prop := VRows l.1 ∧ VBack l.1 l.2
def VLays (ls : List LY) : Prop := 1 ≤ ls.length ∧ ls.length ≤ 4 ∧ ∀ l ∈ ls, VLy l
def ShAt (K : PySem.W.Frag) (H : Hp) (v : V) (ls : List LY) (x y : Int) (ms : List MV) : Prop := ∃ p lv wv, v = .ref p ∧ SqT K H p [lv, wv] ∧ LaysAt K H lv ls ∧ WinAt K H wv x y ms
theorem LyAt.keep {K : PySem.W.Frag} {H H' : Hp} {v : V} {l : LY} (k : TKeep K H H') : LyAt K H v l → LyAt K H' v l := LayAt.keep k
theorem LaysAt.keep {K : PySem.W.Frag} {H H' : Hp} {v : V} {ls : List LY} (k : TKeep K H H') : LaysAt K H v ls → LaysAt K H' v ls := fun ⟨p, vs, e, h, q⟩ => ⟨p, vs, e, k _ _ h, Paired.mono q fun _ _ => LyAt.keep k⟩
theorem ShAt.keep {K : PySem.W.Frag} {H H' : Hp} {v : V} {ls : List LY} {x y : Int} {ms : List MV} (k : TKeep K H H') : ShAt K H v ls x y ms → ShAt K H' v ls x y ms := fun ⟨p, lv, wv, e, h, q, r⟩ => ⟨p, lv, wv, e, k _ _ h, q.keep k, r.keep k⟩
/-! ### places -/
def PlAt (K : PySem.W.Frag) (H : Hp) (v : V) (p : RW × RW) : Prop := ∃ a v1 v2, v = .ref a ∧ SqT K H a [v1, v2] ∧ RowAt K H v1 p.1 ∧ RowAt K H v2 p.2
theorem PlAt.keep {K : PySem.W.Frag} {H H' : Hp} {v : V} {p : RW × RW} (k : TKeep K H H') : PlAt K H v p → PlAt K H' v p := fun ⟨a, v1, v2, e, h, r1, r2⟩ => ⟨a, v1, v2, e, k _ _ h, r1.keep k, r2.keep k⟩
/-! ### pictures -/
abbrev PIC := List Int × (RW × RW)
def PicAt (K : PySem.W.Frag) (H : Hp) (v : V) (c : PIC) : Prop := ∃ a b v2, v = .ref a ∧ SqT K H a [.ref b, v2] ∧ SqT K H b (c.1.map V.int) ∧ PlAt K H v2 c.2
theorem PicAt.keep {K : PySem.W.Frag} {H H' : Hp} {v : V} {c : PIC} (k : TKeep K H H') : PicAt K H v c → PicAt K H' v c := fun ⟨a, b, v2, e, h, h1, h2⟩ => ⟨a, b, v2, e, k _ _ h, k _ _ h1, h2.keep k⟩
/-! ### fractions in lowest terms -/
def lo (t b : Int) : RW := (t / ((Nat.gcd t.natAbs b.natAbs : Nat) : Int), b / ((Nat.gcd t.natAbs b.natAbs : Nat) : Int))
theorem gcd_facts {t b : Int} (hb : 0 < b) : ∃ g t' b' : Int, ((Nat.gcd t.natAbs b.natAbs : Nat) : Int) = g ∧ 0 < g ∧ t = g * t' ∧ b = g * b' ∧ 0 < b' ∧ (lo t b) = (t', b') ∧ g ≤ b ∧ Nat.Coprime b'.natAbs t'.natAbs := by
  have g0 : 0 < Nat.gcd t.natAbs b.natAbs := Nat.gcd_pos_of_pos_right _ (by omega)
  obtain ⟨t', ht⟩ : ((Nat.gcd t.natAbs b.natAbs : Nat) : Int) ∣ t := Int.natAbs_dvd_natAbs.mp (by rw [Int.natAbs_natCast]; exact Nat.gcd_dvd_left _ _)
  obtain ⟨b', hb'⟩ : ((Nat.gcd t.natAbs b.natAbs : Nat) : Int) ∣ b := Int.natAbs_dvd_natAbs.mp (by rw [Int.natAbs_natCast]; exact Nat.gcd_dvd_right _ _)
  have gp : (0 : Int) < ((Nat.gcd t.natAbs b.natAbs : Nat) : Int) := by omega
  have bp : 0 < b' := Int.pos_of_mul_pos_left (a := b') (b := ((Nat.gcd t.natAbs b.natAbs : Nat) : Int)) (by rw [Int.mul_comm, ← hb']; exact hb) gp
  have gle : ((Nat.gcd t.natAbs b.natAbs : Nat) : Int) ≤ b := by
    have := Nat.gcd_le_right t.natAbs (show 0 < b.natAbs by omega)
    omega
  have cop : Nat.gcd b'.natAbs t'.natAbs = 1 := by
    have e1 : t.natAbs = Nat.gcd t.natAbs b.natAbs * t'.natAbs := by
      have := congrArg Int.natAbs ht
      rw [Int.natAbs_mul, Int.natAbs_natCast] at this
      exact this
    have e2 : b.natAbs = Nat.gcd t.natAbs b.natAbs * b'.natAbs := by
      have := congrArg Int.natAbs hb'
      rw [Int.natAbs_mul, Int.natAbs_natCast] at this
      exact this
    have e3 : Nat.gcd (Nat.gcd t.natAbs b.natAbs * t'.natAbs) (Nat.gcd t.natAbs b.natAbs * b'.natAbs) = Nat.gcd t.natAbs b.natAbs * Nat.gcd t'.natAbs b'.natAbs := Nat.gcd_mul_left _ _ _
    rw [← e1, ← e2] at e3
    rw [Nat.gcd_comm]
    exact Nat.eq_of_mul_eq_mul_left g0 (by rw [← e3, Nat.mul_one])
  refine ⟨_, t', b', rfl, gp, ht, hb', bp, ?_, gle, cop⟩
  unfold lo
  congr 1
  · conv => lhs; arg 1; rw [ht]
    exact Int.mul_ediv_cancel_left _ (by omega)
  · conv => lhs; arg 1; rw [hb']
    exact Int.mul_ediv_cancel_left _ (by omega)
theorem lo_mem {t b k : Int} (hb : 0 < b) : t * k % b = 0 ↔ (lo t b).2 ∣ k := by
  obtain ⟨g, t', b', _, gp, et, eb, bp, el, _, cop⟩ := gcd_facts (t := t) hb
  rw [el]
  show _ ↔ b' ∣ k
  constructor
  · intro h
    have h1 := Int.dvd_of_emod_eq_zero h
    rw [et, eb, Int.mul_assoc] at h1
    obtain ⟨c, hc⟩ := h1
    rw [Int.mul_assoc] at hc
    have h2 : b' ∣ t' * k := ⟨c, Int.eq_of_mul_eq_mul_left (by omega) hc⟩
    have h3 := Int.natAbs_dvd_natAbs.mpr h2
    rw [Int.natAbs_mul] at h3
    exact Int.natAbs_dvd_natAbs.mp (Nat.Coprime.dvd_of_dvd_mul_left cop h3)
  · rintro ⟨c, hc⟩
    apply Int.emod_eq_zero_of_dvd
    refine ⟨t' * c, ?_⟩
    rw [et, eb, hc]
    rw [Int.mul_assoc, Int.mul_assoc, Int.mul_left_comm t' b' c]
/-- the numbers from 1 to n that the law looks through -/
def ks (t b : Int) (n : Nat) : List Int := ((List.range n).map fun j => 1 + ((j : Nat) : Int)).filter fun k => decide (t * k % b = 0)
theorem ks_head {t b : Int} (hb : 0 < b) : (ks t b b.toNat)[0]? = some (lo t b).2 := by
  obtain ⟨g, t', b', _, gp, et, eb, bp, el, _, cop⟩ := gcd_facts (t := t) hb
  have hm : ∀ k, t * k % b = 0 ↔ b' ∣ k := fun k => by
    have := lo_mem (t := t) (k := k) hb
    rw [el] at this
    exact this
  rw [el]
  show (ks t b b.toNat)[0]? = some b'
  have ble : b' ≤ b := by
    rw [eb]
    have : 1 * b' ≤ g * b' := Int.mul_le_mul_of_nonneg_right (by omega) (by omega)
    omega
  unfold ks
  rw [List.filter_map, List.getElem?_map, ← List.head?_eq_getElem?, List.head?_filter]
  have e : (List.range b.toNat).find? ((fun k : Int => decide (t * k % b = 0)) ∘ fun j : Nat => 1 + (j : Int)) = some (b'.toNat - 1) := by
    rw [List.find?_range_eq_some]
    refine ⟨?_, List.mem_range.mpr (by omega), fun j hj => ?_⟩
    · show decide (t * (1 + ((b'.toNat - 1 : Nat) : Int)) % b = 0) = true
      rw [decide_eq_true_eq, hm, show 1 + ((b'.toNat - 1 : Nat) : Int) = b' by omega]
      exact Int.dvd_refl _
    · show (!decide (t * (1 + (j : Int)) % b = 0)) = true
      rw [Bool.not_eq_true', decide_eq_false_iff_not, hm]
      intro hd
      have := Int.le_of_dvd (by omega) hd
      omega
  rw [e]
  show some (1 + ((b'.toNat - 1 : Nat) : Int)) = some b'
  congr 1
  omega
theorem lo_top {t b : Int} (hb : 0 < b) : t * (lo t b).2 / b = (lo t b).1 := by
  obtain ⟨g, t', b', _, gp, et, eb, bp, el, _, cop⟩ := gcd_facts (t := t) hb
  rw [el]
  show t * b' / b = t'
  rw [et, show g * t' * b' = b * t' by rw [eb, Int.mul_assoc, Int.mul_assoc, Int.mul_comm t' b']]
  exact Int.mul_ediv_cancel_left _ (by omega)
/-! ### where a window stands -/
def plc (x y : Int) : List MV → Int → RW × RW
  | [], _ => ((x, 1), (y, 1))
  | m :: r, t => if t < m.2.2 then (lo (x * m.2.2 + (m.1 - x) * (t + 1)) m.2.2, lo (y * m.2.2 + (m.2.1 - y) * (t + 1)) m.2.2) else plc m.1 m.2.1 r (t - m.2.2)
theorem way_eq (x g n k : Int) : x * (n - k) + g * k = x * n + (g - x) * k := by
  rw [Int.mul_sub, Int.sub_mul]
  omega
theorem plc_nil (x y t : Int) : plc x y [] t = ((x, 1), (y, 1)) := rfl
theorem plc_cons (x y : Int) (m : MV) (r : List MV) (t : Int) : plc x y (m :: r) t = if t < m.2.2 then (lo (x * m.2.2 + (m.1 - x) * (t + 1)) m.2.2, lo (y * m.2.2 + (m.2.1 - y) * (t + 1)) m.2.2) else plc m.1 m.2.1 r (t - m.2.2) := rfl
theorem mtot_cons (m : MV) (r : List MV) : mtot (m :: r) = m.2.2 + mtot r := by
  unfold mtot
  rw [List.map_cons, List.sum_cons]
theorem mtot_nonneg : ∀ {ms : List MV}, (∀ m ∈ ms, VMove m) → 0 ≤ mtot ms ∧ mtot ms ≤ 24 * ms.length
  | [], _ => ⟨Int.le_refl _, Int.le_refl _⟩
  | m :: r, h => by
    have ih := mtot_nonneg (ms := r) fun q hq => h q (List.mem_cons_of_mem _ hq)
    obtain ⟨_, _, h3, h4⟩ := h m (List.mem_cons_self ..)
    rw [mtot_cons, List.length_cons]
    obtain ⟨i1, i2⟩ := ih
    constructor <;> omega
theorem plc_far : ∀ (ms : List MV) (x y a b : Int), (∀ m ∈ ms, VMove m) → mtot ms ≤ a → mtot ms ≤ b → plc x y ms a = plc x y ms b
  | [], _, _, _, _, _, _, _ => rfl
  | m :: r, x, y, a, b, h, ha, hb => by
    have hr : ∀ q ∈ r, VMove q := fun q hq => h q (List.mem_cons_of_mem _ hq)
    have := (mtot_nonneg hr).1
    rw [mtot_cons] at ha hb
    rw [plc_cons, plc_cons, if_neg (by omega), if_neg (by omega)]
    exact plc_far r _ _ _ _ hr (by omega) (by omega)
def pic (ls : List LY) (x y : Int) (ms : List MV) (m : Int) : PIC := (ls.map (fun l => shown l.1 l.2 m), plc x y ms m)
/-! ### the law's own helpers -/
theorem fm {x m : Int} (h : 0 < m) : 0 ≤ x.fmod m ∧ x.fmod m < m := by
  rw [Int.fmod_eq_emod_of_nonneg x (by omega)]
  exact ⟨Int.emod_nonneg _ (by omega), Int.emod_lt_of_pos _ h⟩
theorem tk_updL {K : PySem.W.Frag} {H : Hp} {D : Addr} {xs ys : List V} (h : H D = some (.lst xs)) : TKeep K H (upd H D (.lst ys)) := by
  intro a zs q
  rcases q with (q | ⟨o, q⟩) | q
  · refine .inl (.inl ?_)
    rw [upd_ne (ne_of q h (by intro z; cases z))]
    exact q
  · refine .inl (.inr ⟨o, ?_⟩)
    rw [upd_ne (ne_of q h (by intro z; cases z))]
    exact q
  · exact .inr q
inductive Fl : V → String → Bool → Prop
  | non : Fl .non "NoneType" false
  | bl (b : Bool) : Fl (.bl b) "bool" true
  | int (i : Int) : Fl (.int i) "int" false
theorem Fl.ty {K : PySem.W.Frag} {H : Hp} {x : V} {t : String} {b : Bool} (f : Fl x t b) : TyX K H x (.type t) := by
  cases f with
  | non => exact .base .non
  | bl b => exact .base (.bl b)
  | int i => exact .base (.int i)
theorem Fl.kit {x : V} {t : String} {b : Bool} (f : Fl x t b) : kitB t "bool" = some b := by
  cases f <;> decide +kernel
theorem Fl.kit2 {K : PySem.W.Frag} {x : V} {t : String} {b : Bool} (f : Fl x t b) : PySem.W.kitAny K (.type t) [.type "tuple", .type "list"] = some false := by
  cases f <;> exact kitAny_cons (kit_ty (r := false) (by decide +kernel)) (fun _ => kitAny_cons (kit_ty (r := false) (by decide +kernel)) (fun _ => kitAny_nil) (fun z => nomatch z)) (fun z => nomatch z)
theorem Fl.scal {x y : V} {t u : String} {b : Bool} (f : Fl x t b) (g : Fl y u b) : L2.scal x y = true := by
  cases f <;> cases g <;> rfl
theorem Fl.ne {x y : V} {t u : String} {b c : Bool} (f : Fl x t b) (g : Fl y u c) (h : b ≠ c) : x ≠ y := by
  cases f <;> cases g <;> first | exact absurd rfl h | (intro z; cases z)
theorem st_ne {H : Hp} {st p : Addr} (s : IsSt H st) (h : H p = none) : p ≠ st := by
  obtain ⟨x, y, hx, _⟩ := s
  exact fun z => by rw [z, hx] at h; cases h
theorem st_neT {H : Hp} {st p : Addr} {xs : List V} (s : IsSt H st) (h : H p = some (.tup xs)) : p ≠ st := by
  obtain ⟨x, y, hx, _⟩ := s
  exact ne_of h hx (by intro z; cases z)
/-! ### the law's own comparison, of equal data -/
theorem tyL {K : PySem.W.Frag} {H : Hp} {a : Addr} {xs : List V} (h : SqL K H a xs) : TyX K H (.ref a) (.type "list") := by
  rcases h with (h | ⟨o, h⟩) | ⟨o, its, n, h, c, _⟩
  · exact .base (.lst h)
  · exact .base (.frz h)
  · exact .kList h c
mutual
theorem Dp.sm {K : PySem.W.Frag} {H H' : Hp} (s : Same H H') : ∀ {v : V} {d : PyData}, Dp K H v d → Dp K H' v d
  | _, _, .non => .non
  | _, _, .bl b => .bl b
  | _, _, .int i => .int i
  | _, _, .str x => .str x
  | _, _, .lst h q => .lst (s.seq h) (DpAll.sm s q)
  | _, _, .tup h q => .tup (Same.sqT s h) (DpAll.sm s q)
theorem DpAll.sm {K : PySem.W.Frag} {H H' : Hp} (s : Same H H') : ∀ {v : List V} {d : List PyData}, DpAll K H v d → DpAll K H' v d
  | _, _, .nil => .nil
  | _, _, .cons h q => .cons (Dp.sm s h) (DpAll.sm s q)
end
theorem DpAll.at {K : PySem.W.Frag} {H : Hp} : ∀ {vs : List V} {ds : List PyData} {i : Nat} {v : V}, DpAll K H vs ds → vs[i]? = some v → ∃ d, ds[i]? = some d ∧ Dp K H v d
  | _, _, i, v, .nil, h => by simp at h
  | _, _, 0, v, .cons a t, h => by
    have e : _ = v := Option.some.inj h
    subst e
    exact ⟨_, rfl, a⟩
  | _, _, i + 1, v, .cons a t, h => DpAll.at (i := i) t h
theorem DpAll.len {K : PySem.W.Frag} {H : Hp} : ∀ {vs : List V} {ds : List PyData}, DpAll K H vs ds → vs.length = ds.length
  | _, _, .nil => rfl
  | _, _, .cons _ t => by rw [List.length_cons, List.length_cons, DpAll.len t]
def flD (d : PyData) : Prop := d = .none ∨ (∃ b, d = .bool b) ∨ ∃ i, d = .int i
def dOk : Nat → PyData → Prop
  | 0, d => flD d
  | n + 1, d => flD d ∨ ∃ ds, (d = .list ds ∨ d = .tuple ds) ∧ ds.length ≤ 1000 ∧ ∀ e ∈ ds, dOk n e
theorem flD.fl {K : PySem.W.Frag} {H : Hp} {x y : V} {d : PyData} (f : flD d) (hx : Dp K H x d) (hy : Dp K H y d) : x = y ∧ ∃ t b, Fl x t b := by
  rcases f with rfl | ⟨b, rfl⟩ | ⟨i, rfl⟩
  · cases hx
    cases hy
    exact ⟨rfl, _, _, .non⟩
  · cases hx
    cases hy
    exact ⟨rfl, _, _, .bl b⟩
  · cases hx
    cases hy
    exact ⟨rfl, _, _, .int i⟩
/-- a comprehension over a zip of two that stand still, each item True -/
theorem lc_zip {J : It} {xs ys : List V} {g : TG} {tt : TT} {te : TE} {vs : List Nat} {σ : L2.St} {H1 : Hp} {D : Addr} {Qd : Hp → Prop} (hl : ys.length = xs.length) (hz : xs.length ≤ 1000) (hD : H1 D = none)
    (st : ∀ H, Same H1 H → J.stop xs.length H) (go : ∀ (i : Nat) (H : Hp), Same H1 H → i < xs.length → J.go i H)
    (yl : ∀ (i : Nat) (H : Hp) (v : V) (H' : Hp), Same H1 H → J.yld i H v H' → ∃ T x y, v = .ref T ∧ H T = none ∧ H' = upd H T (.tup [x, y]) ∧ xs[i]? = some x ∧ ys[i]? = some y)
    (hs : ∀ (i : Nat) (x y : V) (T : Addr) (H : Hp) (R : V → Hp → Prop) (Z : Hp → Prop), xs[i]? = some x → ys[i]? = some y → Same H1 H → H T = some (.tup [x, y]) → (∀ H4, Same H H4 → R (.bl true) H4) →
      g (.ref T) (wipe σ vs) H fun σ2 H2 => wipe σ2 vs = wipe σ vs ∧ tt σ2 H2 fun b H3 => if b = true then te σ2 H3 R else Z H3)
    (hd : ∀ H, Same H1 H → H D = some (.lst ((List.replicate xs.length true).map V.bl)) → Qd H) :
    ∃ W : Nat → Nat → Hp → Prop, (∃ m, W 0 m (upd H1 D (.lst []))) ∧ ∀ i m H, W i m H →
      (J.stop i H ∧ Qd H) ∨ (J.go i H ∧ ∃ Nx : Hp → Prop, (∀ H', Nx H' → ∃ m', m' < m ∧ W (i + 1) m' H') ∧ ∀ x H', J.yld i H x H' → g x (wipe σ vs) H' fun σ2 H2 => wipe σ2 vs = wipe σ vs ∧ tt σ2 H2 fun b H3 =>
        if b = true then te σ2 H3 fun y H4 => ∃ acc, H4 D = some (.lst acc) ∧ acc.length < sizeLine ∧ Nx (upd H4 D (.lst (acc ++ [y]))) else Nx H3) := by
  refine ⟨fun i m H => m = xs.length - i ∧ i ≤ xs.length ∧ Same H1 H ∧ H D = some (.lst ((List.replicate i true).map V.bl)), ⟨xs.length, by simp, Nat.zero_le _, same_upd hD, upd_same⟩, ?_⟩
  rintro i m H ⟨rfl, hi, s1, eD⟩
  by_cases hlt : i < xs.length
  · refine .inr ⟨go i H s1 hlt, fun H' => Same H1 H' ∧ H' D = some (.lst ((List.replicate (i + 1) true).map V.bl)), fun H' p => ⟨xs.length - (i + 1), by omega, rfl, hlt, p⟩, fun v H' hy => ?_⟩
    obtain ⟨T, x, y, rfl, nT, rfl, hx, hy⟩ := yl i H v H' s1 hy
    have sT : Same H (upd H T (.tup [x, y])) := same_upd nT
    refine hs i x y T _ _ _ hx hy (s1.trans sT) upd_same (fun H4 s4 => ⟨_, s4 _ _ (sT _ _ eD), ?_, ?_, ?_⟩)
    · rw [List.length_map, List.length_replicate]
      exact small1000 (by omega)
    · intro b o e
      rw [upd_ne (ne_of_none e hD)]
      exact s4 _ _ (sT _ _ (s1 _ _ e))
    · rw [upd_same, List.replicate_succ', List.map_append]
      rfl
  · have e : i = xs.length := by omega
    subst e
    exact .inl ⟨st H s1, hd H s1 eD⟩
/-! ### a def that is entered where nothing is being shown: repr is known there -/
structure FnG (P : Program) (w : World) (K : PySem.W.Frag) (mg : Str → Option Value) (base : Heap) (k : Nat) (f : Addr) (fd : FuncData) (ps : List Str) (sp : Sp) : Prop where
  len : ∀ vs H Q E, sp vs H Q E → vs.length = ps.length
  run : ∀ (A : Around) (outer : List Env) (s : Shared) (H : Hp) (args : Args) (us : List Value) (vs : List V) (Q : VK) (E : XK), A.guards = some [] → Room k A → Env0 P w K mg base A outer s H → BindsTo s fd args (ps.zip us) →
    Vals vs us → sp vs H Q E → codeAny (model P w) A (.call (.ref f) args) (CR CX0 outer P w H s Q E) s
/-! ### a call goes by the def's body, in whatever context the body is read -/
/-- the def st stands at f, its code object is cdv -/
structure DefAt (K : PySem.W.Frag) (x qual : Str) (st : Stmt) (f : Addr) (fd : FuncData) (cdv : Value) : Prop where
  isFn : ∃ (kV doc pm : Value) (an : Option Addr) (ct : Value), fd = PySem.W.fnOf x qual (defArgs st) (defBody st) (defScope st) .none kV doc pm an cdv ct
  there : ∃ (oc : Value) (od : Option Addr) (osl : Array (Option Value)), K.lookup f = some ⟨oc, od, .func fd, osl⟩
  coded : PySem.W.codeIn K cdv qual = true
/-- what a call's value is, told by how the body ends -/
def given : Flow → Value
  | .ret u => u
  | _ => .none
/-- the state in which a body begins whose parameters ps hold us -/
abbrev Begun (qual : Str) (st : Stmt) (f : Addr) (cdv : Value) (ps : List Str) (us : List Value) (s s1 : Shared) : Prop :=
  InCallC s s.heap.objs.size (bindL (envOfC qual (defScope st) s.heap.objs.size f cdv).kindOf (ps.zip us) fun _ => none) (cellsFrom (s.heap.objs.size + 1) (defScope st).names [])
    (bindC (envOfC qual (defScope st) s.heap.objs.size f cdv).kindOf (ps.zip us) fun _ => none) s1
theorem given_by {X : Cx} {Q : VK} {fl : Flow} {s' : Shared} (none : X.ex = []) (h : SP X [] { nx := fun _ H' => Q .non H', rt := Q } fl s') : CE X.outer X.prog X.w X.H_0 X.s_0 Q (given fl) s' := by
  have told : ∀ {σ : L2.St} {H' : Hp} {v : V}, Inv X [] σ H' s' → RelV v (given fl) → Q v H' → CE X.outer X.prog X.w X.H_0 X.s_0 Q (given fl) s' := fun J rv q => ⟨_, _, J.os, J.bare, none ▸ J.base, J.hok, rv, q⟩
  match fl, h with
  | .ret _, ⟨_, _, _, J, rv, q⟩ => exact told J rv q
  | .next, ⟨_, _, J, q⟩ => exact told (v := .non) J rfl q
  | .brk, ⟨_, _, _, q⟩ | .cont, ⟨_, _, _, q⟩ => exact q.elim
section
variable {P : Program} {w : World} {K : PySem.W.Frag} {mg : Str → Option Value} {base : Heap}
theorem defAt_of {x qual : Str} {st : Stmt} {f : Addr} {fd : FuncData} (F : Fun K x qual st f fd) : ∃ cdv, DefAt K x qual st f fd cdv :=
  let ⟨oc, od, kV, doc, pm, an, cdv, ct, osl, e, l, c⟩ := F.ex
  ⟨cdv, ⟨kV, doc, pm, an, ct, e⟩, ⟨oc, od, osl, l⟩, c⟩
theorem DefAt.call {x qual : Str} {st : Stmt} {f : Addr} {fd : FuncData} {cdv : Value} {N ps : List Str} {A : Around} {outer : List Env} {s : Shared} {H : Hp} {args : Args} {us : List Value} {R : Result → Shared → Prop} (D : DefAt K x qual st f fd cdv) (S : FnScope N ps (defScope st))
    (room : A.depth < recursionLimit) (e0 : Env0 P w K mg base A outer s H) (hb : BindsTo s fd args (ps.zip us))
    (body : ∀ s1, Begun qual st f cdv ps us s s1 → wpAny (model P w) (A.deeper (envOfC qual (defScope st) s.heap.objs.size f cdv)) (execs (defBody st) (envOfC qual (defScope st) s.heap.objs.size f cdv)) (fun fl s' => R (.ok (.ret (given fl))) s')
      (fun e s' => wpAny (model P w) (A.deeper (envOfC qual (defScope st) s.heap.objs.size f cdv)) (leaving (envOfC qual (defScope st) s.heap.objs.size f cdv) e) (fun _ z => R (.error e) z) (fun e' z => R (.error e') z) s') s1) :
    codeAny (model P w) A (.call (.ref f) args) R s := by
  obtain ⟨⟨kV, doc, pm, an, ct, rfl⟩, ⟨oc, od, osl, there⟩, coded⟩ := D
  have stands : ∀ b o, base.get? b = some o → s.heap.get? b = some o := fun b o z => (e0.bs b o z).1
  have kin := e0.mod.kin.keeps stands
  apply codeAny_call_function room (kin f _ there) rfl S.co S.gen rfl (PySem.W.codeRec_of kin coded)
  apply hb
  apply wpAny_newFunctionEnv_cells S.kind
  · exact fun y hy => (S.par y.1 (List.of_mem_zip hy).1).imp id fun c => ⟨c, PySem.W.cellsFrom_some _ _ _ (.inl c)⟩
  · rintro _ rfl s1 begun
    exact ⟨(e0.mod.nolimit.keeps stands).keeps begun.toInCall.keep, codeAny_func (wpAny_mono (body s1 begun) (fun fl _ h => by cases fl <;> exact h) fun _ _ h => h)⟩
theorem fun_okG {x qual : Str} {st : Stmt} {f : Addr} {fd : FuncData} {N ps : List Str} {k : Nat} {sp : Sp} (F : Fun K x qual st f fd) (S : FnScope N ps (defScope st)) (ln : ∀ vs H Q E, sp vs H Q E → vs.length = ps.length)
    (hbody : ∀ (cdv : Value) (A : Around) (outer : List Env) (s : Shared) (H : Hp) (vs : List V) (Q : VK) (E : XK), A.guards = some [] → Room k (A.deeper (envOfC qual (defScope st) s.heap.objs.size f cdv)) → sp vs H Q E →
      ∃ t, PSs (cxOf CX0 P w K mg base N qual (defScope st) f cdv A outer s H E).nox (defBody st) t ∧ t { nx := fun _ H' => Q .non H', rt := Q } (L2.start N vs) H) : FnG P w K mg base (k + 1) f fd ps sp := by
  obtain ⟨cdv, D⟩ := defAt_of F
  refine ⟨ln, fun A outer s H args us vs Q E hgu hr e0 hb r hsp => D.call S hr.depth e0 hb fun s1 begun => ?_⟩
  obtain ⟨t, ht, hq⟩ := hbody cdv A outer s H vs Q E hgu (hr.deeper _) hsp
  exact thn (ht.nox.run [] s1 _ H _ (inv_start S hr.hd e0 (ln _ _ _ _ hsp) r begun) hq) fun _ _ h => given_by rfl h
/-- the law's call from such a promise -/
theorem law_callG {mb : Str → Option Value} {k : Nat} {fa a : Addr} {fd : FuncData} {x : Str} {sp : Sp} {s₁ : Shared} {vs : List Value} {ns : List Int}
    (KX : K.In s₁.heap) (hns : s₁.heap.Ns mainGlobals mg) (hb : s₁.heap.Ns builtinsNs mb) (hbb : ∀ x : Str, x ≠ "__name__" → mb x = bootBuiltins x) (hlim : s₁.heap.NoLimit)
    (hge : s₁.gens = #[]) (ha : s₁.heap.get? a = some { cls := .type "list", data := .seq vs.toArray }) (hi : IntsAre vs ns) (hl : ns.length ≤ sizeLine) (hr : Room k callerA)
    (F : ∀ base : Heap, K.In base → base.Ns mainGlobals mg → FnG P w K mg base k fa fd [x] sp)
    (hbind : ∀ (s : Shared) (u : Value), BindsTo s fd ⟨[u], []⟩ [(x, u)])
    (hsp : ∀ H : Hp, SqL K H a (ns.map V.int) → sp [.ref a] H (fun v _ => v = .bl true) fun _ _ _ => False) :
    codeAny (model P w) callerA (.call (.ref fa) ⟨[.ref a], []⟩)
      (fun r s' => r = .ok (.ret (.bool true)) ∧ OldK s₁.heap s'.heap ∧ s'.os = s₁.os ∧ AllBare s'.gens) s₁ := by
  have rv := vals_ints hi
  have lv := hi.length
  obtain ⟨H, hH⟩ : ∃ H : Hp, ∀ b, H b = if b = a ∧ K.lookup a = none then some (.frz { cls := .type "list", data := .seq vs.toArray } (.lst (ns.map V.int))) else none := ⟨fun b => _, fun _ => rfl⟩
  have some_of : ∀ {b u}, H b = some u → b = a ∧ K.lookup a = none ∧ u = .frz { cls := .type "list", data := .seq vs.toArray } (.lst (ns.map V.int)) := by
    intro b u e
    rw [hH b] at e
    by_cases c : b = a ∧ K.lookup a = none
    · rw [if_pos c] at e
      exact ⟨c.1, c.2, (Option.some.inj e).symm⟩
    · rw [if_neg c] at e
      cases e
  have none_of : ∀ {b o} {es : Array DictEntry} {ep : Nat}, s₁.heap.get? b = some o → o.data = .dict es ep → H b = none := by
    intro b o es ep e d
    cases c : H b with
    | none => rfl
    | some u =>
      obtain ⟨rfl, _, _⟩ := some_of c
      rw [ha] at e
      cases e
      cases d
  have hS : SqL K H a (ns.map V.int) := by
    cases hk : K.lookup a with
    | none => exact .inl (.inr ⟨_, by rw [hH a, if_pos ⟨rfl, hk⟩]⟩)
    | some o =>
      have e := KX a o hk
      rw [ha] at e
      cases e
      refine .inr ⟨_, vs.toArray, _, hk, rfl, rfl, rfl, ?_, by simpa using rv⟩
      rw [List.size_toArray, lv]
      exact hl
  have hok : HOk P w H s₁.heap := by
    intro b u e
    obtain ⟨rfl, _, rfl⟩ := some_of e
    refine ⟨ha, ?_, vs, _, rv, ha⟩
    rw [List.length_map]
    exact hl
  have nsB : ∀ {b : Addr} {m : Str → Option Value}, s₁.heap.Ns b m → (hidT s₁.heap H).Ns b m := by
    rintro b m ⟨o, es, ep, e, d, r⟩
    exact ⟨o, es, ep, hidT_get e (none_of e d), d, r⟩
  have kB : K.In (hidT s₁.heap H) := by
    intro b o e
    refine hidT_get (KX b o e) ?_
    cases c : H b with
    | none => rfl
    | some u =>
      obtain ⟨rfl, k0, _⟩ := some_of c
      rw [k0] at e
      cases e
  have md : Mod K mg (hidT s₁.heap H) := by
    obtain ⟨mc, h1, h2⟩ := hlim
    exact ⟨kB, nsB hns, ⟨mb, nsB hb, hbb⟩, ⟨mc, nsB h1, h2⟩⟩
  have e0 : Env0 P w K mg (hidT s₁.heap H) callerA [] s₁ H := by
    refine ⟨rfl, md, fun b o e => of_hidT e, Nat.le_of_eq (hidT_size _ _), trivial, ?_, hok, .of_eq hge⟩
    intro b hb
    exact absurd (show b ∈ ([] : List Addr) from hb) (by simp)
  have go := (F _ kB (nsB hns)).run callerA [] s₁ H ⟨[.ref a], []⟩ [.ref a] [.ref a] _ _ rfl hr e0
    (hbind s₁ (.ref a)) (.cons rfl .nil) (hsp H hS)
  refine codeAny_mono go fun r s' h => ?_
  cases r with
  | error e => exact h.elim
  | ok fl =>
    cases fl with
    | ret u =>
      obtain ⟨v, H', os, bare, un, hok', r', qv⟩ := h
      have qv' : v = .bl true := qv
      subst qv'
      obtain rfl : u = Value.bool true := r'
      refine ⟨rfl, OldK.of_keep fun b o e => ?_, os, bare⟩
      cases c : H b with
      | none =>
        refine un.keep b o e c ?_ (by simp)
        intro z
        exact absurd (show b ∈ ([] : List Addr) from z) (by simp)
      | some u =>
        obtain ⟨_, _, rfl⟩ := some_of c
        have c2 := un.frzs b _ _ c
        obtain ⟨e1, _⟩ := hok b _ c
        obtain ⟨e2, _⟩ := hok' b _ c2
        rw [e] at e1
        cases e1
        exact e2
    | next => exact False.elim h
    | brk => exact False.elim h
    | cont => exact False.elim h
end
theorem walk_ofG {l : PySem.W.OpenLaw} {n k : Nat} {q : Program} {loose : List Str} {XP : (Str → Option Value) → Heap → Prop} {YP : World → Heap → Prop} {d : DefRec} {K : Params → PySem.W.Frag} {sp : World → Sp} {x : Str}
    (hn : l.most = some n) (hn2 : n ≤ sizeLine) (hdf : d.params.defaults = []) (hr : Room k callerA) (hY : ∀ (w : World) (h : Heap), YP w h → (K w.params).In h)
    (F : ∀ (w : World) (mg : Str → Option Value) (fa : Addr) (h : Heap), (K w.params).In h → h.Ns mainGlobals mg → mg d.name = some (.ref fa) →
      ∃ fd : FuncData, (∀ (s : Shared) (u : Value), BindsTo s fd ⟨[u], []⟩ [(x, u)]) ∧
        ∀ base : Heap, (K w.params).In base → base.Ns mainGlobals mg → FnG l.prog w (K w.params) mg base k fa fd [x] (sp w))
    (hsp : ∀ (w : World) (H : Hp) (a : Addr) (ns : List Int), ns.length ≤ n → SqL (K w.params) H a (ns.map V.int) → sp w [.ref a] H (fun v _ => v = .bl true) fun _ _ _ => False) :
    PySem.W.WalkO q loose XP YP l.row.toRowW d [] (fun f vs => PySem.call f vs) := by
  refine Att.attach_call hn hdf fun w s₀ s₁ mg mb fa o pm cd doc a vs ns G Y _ _ _ hmg hobj hints hlen hge => ?_
  have KX := hY w _ Y
  obtain ⟨fd, hb, hF⟩ := F w mg fa _ KX G.T.g hmg
  exact law_callG KX G.T.g G.T.b G.T.builtins G.T.nolimit hge hobj hints (Nat.le_trans hlen hn2) hr hF hb
    (fun H hS => hsp w H a ns hlen hS)
/-! ### repr of data -/
def rRepr (K : PySem.W.Frag) : List V → Hp → VK → Prop := fun xs H Q => ∃ (a : Addr) (d : PyData) (S : Str), xs = [.ref a] ∧ Dp K H (.ref a) d ∧ d.showable = true ∧ d.hasDict = false ∧ d.depth ≤ 30 ∧ d.shown.length ≤ sizeLine ∧ d.shown = S ∧ Q (.str S) H
theorem call_repr {X : Cx} (hg : X.A.guards = some []) (hu : X.A.units + 64 < cLine) : CallR X (.builtin "repr") (rRepr X.K) := by
  intro pins s σ H xs us Q I r h
  obtain ⟨a, d, S, rfl, hd, hs, hnd, hdep, hsz, hS, q⟩ := h
  subst hS
  obtain ⟨u, rfl, rx⟩ := vals1 r
  cases (show u = Value.ref a from rx)
  obtain ⟨as, rd⟩ := Dp.reads I d _ _ hd rfl
  refine repr_of_reads' rd hs (fun z => by rw [hnd] at z; cases z) hg (by omega) (fun _ _ e => e) (fun h' u tk hk => ?_) hsz
  exact ⟨.str d.shown, H, I.kept hk, ⟨_, rfl⟩, q⟩
/-! ### data that can be shown -/
structure RO (k w : Nat) (d : PyData) : Prop where
  sh : d.showable = true
  nd : d.hasDict = false
  dp : d.depth ≤ k
  lv : d.leavesShort 13 = true
  wt : d.weight ≤ w
theorem RO.none {w : Nat} : RO 0 w .none := ⟨rfl, rfl, Nat.le_refl _, rfl, Nat.zero_le _⟩
theorem RO.bool {w : Nat} (b : Bool) : RO 0 w (.bool b) := ⟨rfl, rfl, Nat.le_refl _, rfl, Nat.zero_le _⟩
theorem RO.int {i : Int} (h1 : -999999999999 ≤ i) (h2 : i ≤ 999999999999) : RO 0 41 (.int i) := by
  have hl : i.natAbs.log2 < 41 := by
    rcases Nat.eq_zero_or_pos i.natAbs with e | e
    · rw [e]
      decide
    · exact (Nat.log2_lt (by omega)).mpr (Nat.lt_of_le_of_lt (show i.natAbs ≤ 999999999999 by omega) (by decide))
  refine ⟨decide_eq_true (by omega), rfl, Nat.le_refl _, decide_eq_true (PyData.shown_int_le2 h1 h2), ?_⟩
  show (if i == 0 then 0 else i.natAbs.log2 + 1) ≤ 41
  split <;> omega
theorem RO.more {k w k' w' : Nat} {d : PyData} (h : RO k w d) (h1 : k ≤ k') (h2 : w ≤ w') : RO k' w' d := ⟨h.sh, h.nd, Nat.le_trans h.dp h1, h.lv, Nat.le_trans h.wt h2⟩
theorem ro_all {k w : Nat} : ∀ {ds : List PyData}, (∀ e ∈ ds, RO k w e) → PyData.showableAll ds = true ∧ PyData.hasDictAll ds = false ∧ PyData.depthAll ds ≤ k ∧ PyData.leavesShortAll 13 ds = true ∧ PyData.weightAll ds ≤ ds.length * (w + 1)
  | [], _ => ⟨rfl, rfl, Nat.zero_le _, rfl, Nat.zero_le _⟩
  | d :: t, h => by
    obtain ⟨a, b, c, e, f⟩ := ro_all (ds := t) fun x hx => h x (List.mem_cons_of_mem _ hx)
    have h1 := h d (List.mem_cons_self ..)
    refine ⟨?_, ?_, ?_, ?_, ?_⟩
    · show (d.showable && PyData.showableAll t) = true
      rw [h1.sh, a]
      rfl
    · show (d.hasDict || PyData.hasDictAll t) = false
      rw [h1.nd, b]
      rfl
    · show max d.depth (PyData.depthAll t) ≤ k
      exact Nat.max_le.mpr ⟨h1.dp, c⟩
    · show (d.leavesShort 13 && PyData.leavesShortAll 13 t) = true
      rw [h1.lv, e]
      rfl
    · show d.weight + 1 + PyData.weightAll t ≤ (t.length + 1) * (w + 1)
      have := h1.wt
      rw [Nat.add_mul, Nat.one_mul]
      omega
theorem RO.tup {k w n : Nat} {ds : List PyData} (h : ∀ e ∈ ds, RO k w e) (hn : ds.length * (w + 1) ≤ n) : RO (k + 1) n (.tuple ds) := by
  obtain ⟨a, b, c, e, f⟩ := ro_all h
  exact ⟨a, b, Nat.succ_le_succ c, e, Nat.le_trans f hn⟩
theorem RO.lst {k w n : Nat} {ds : List PyData} (h : ∀ e ∈ ds, RO k w e) (hn : ds.length * (w + 1) ≤ n) : RO (k + 1) n (.list ds) := by
  obtain ⟨a, b, c, e, f⟩ := ro_all h
  exact ⟨a, b, Nat.succ_le_succ c, e, Nat.le_trans f hn⟩
theorem RO.fits {k w : Nat} {d : PyData} (h : RO k w d) (hw : w ≤ 1000000) : d.shown.length ≤ sizeLine := by
  have := PyData.shown_le 13 (by decide) d h.lv
  have := h.wt
  have e : sizeLine = 16777216 := by decide
  omega
/-! ### windows and places as data -/
theorem dpAll_of {K : PySem.W.Frag} {H : Hp} {β : Type} {R : V → β → Prop} {f : β → PyData} (h : ∀ v m, R v m → Dp K H v (f m)) : ∀ {vs : List V} {ms : List β}, Paired R vs ms → DpAll K H vs (ms.map f)
  | _, _, .nil => .nil
  | _, _, .cons r t => .cons (h _ _ r) (dpAll_of h t)
def rwD (r : RW) : PyData := .tuple [.int r.1, .int r.2]
def plD (p : RW × RW) : PyData := .tuple [rwD p.1, rwD p.2]
def mvD (m : MV) : PyData := .tuple [.int m.1, .int m.2.1, .int m.2.2]
def winD (x y : Int) (ms : List MV) : PyData := .tuple [.int x, .int y, .tuple (ms.map mvD)]
theorem RowAt.dp {K : PySem.W.Frag} {H : Hp} {v : V} {r : RW} : RowAt K H v r → Dp K H v (rwD r) := by
  rintro ⟨p, rfl, h⟩
  exact .tup h (.cons (.int _) (.cons (.int _) .nil))
theorem PlAt.dp {K : PySem.W.Frag} {H : Hp} {v : V} {p : RW × RW} : PlAt K H v p → Dp K H v (plD p) := by
  rintro ⟨a, v1, v2, rfl, h, r1, r2⟩
  exact .tup h (.cons r1.dp (.cons r2.dp .nil))
theorem MoveAt.dp {K : PySem.W.Frag} {H : Hp} {v : V} {m : MV} : MoveAt K H v m → Dp K H v (mvD m) := by
  rintro ⟨p, rfl, h⟩
  exact .tup h (.cons (.int _) (.cons (.int _) (.cons (.int _) .nil)))
theorem WinAt.dp {K : PySem.W.Frag} {H : Hp} {v : V} {x y : Int} {ms : List MV} : WinAt K H v x y ms → Dp K H v (winD x y ms) := by
  rintro ⟨p, mv, rfl, h, pm, vs, rfl, hq, pd⟩
  exact .tup h (.cons (.int _) (.cons (.int _) (.cons (.tup hq (dpAll_of (f := mvD) (fun _ _ h => MoveAt.dp h) pd)) .nil)))
theorem mem3 {α : Type} {a b c e : α} (h : e ∈ [a, b, c]) : e = a ∨ e = b ∨ e = c := by
  simpa using h
theorem mvD_ro {m : MV} (h : VMove m) : RO 1 126 (mvD m) := by
  obtain ⟨h1, h2, h3, h4⟩ := h
  refine RO.tup (k := 0) (w := 41) (fun e he => ?_) (by show 3 * 42 ≤ 126; decide)
  rcases mem3 he with rfl | rfl | rfl <;> exact RO.int (by omega) (by omega)
theorem winD_ro {x y : Int} {ms : List MV} (h : VWin x y ms) : RO 3 3051 (winD x y ms) := by
  obtain ⟨h1, h2, h3, h4⟩ := h
  refine RO.tup (k := 2) (w := 1016) (fun e he => ?_) (by show 3 * 1017 ≤ 3051; decide)
  rcases mem3 he with rfl | rfl | rfl
  · exact (RO.int (by omega) (by omega)).more (by omega) (by omega)
  · exact (RO.int (by omega) (by omega)).more (by omega) (by omega)
  · refine RO.tup (k := 1) (w := 126) (fun e he => ?_) ?_
    · obtain ⟨m, hm, rfl⟩ := List.mem_map.mp he
      exact mvD_ro (h4 m hm)
    · rw [List.length_map]
      omega
theorem ro_args {k w : Nat} {d : PyData} (h : RO k w d) (hk : k ≤ 30) (hw : w ≤ 1000000) : d.showable = true ∧ d.hasDict = false ∧ d.depth ≤ 30 ∧ d.shown.length ≤ sizeLine := ⟨h.sh, h.nd, Nat.le_trans h.dp hk, h.fits hw⟩
theorem fl_int (i : Int) : flD (.int i) := .inr (.inr ⟨i, rfl⟩)
theorem dOk_rw (r : RW) : dOk 1 (rwD r) := by
  refine .inr ⟨_, .inr rfl, (by show 2 ≤ 1000; decide), fun e he => ?_⟩
  rcases List.mem_cons.mp he with rfl | he
  · exact fl_int _
  · rw [List.mem_singleton.mp he]
    exact fl_int _
theorem dOk_pl (p : RW × RW) : dOk 2 (plD p) := by
  refine .inr ⟨_, .inr rfl, (by show 2 ≤ 1000; decide), fun e he => ?_⟩
  rcases List.mem_cons.mp he with rfl | he
  · exact dOk_rw _
  · rw [List.mem_singleton.mp he]
    exact dOk_rw _
/-! ### layers, sheets, pictures as data -/
def bkD : Option Int → PyData
  | none => .none
  | some i => .int i
def lyD (l : LY) : PyData := .tuple [.tuple (l.1.map rwD), bkD l.2]
def shD (ls : List LY) (x y : Int) (ms : List MV) : PyData := .tuple [.tuple (ls.map lyD), winD x y ms]
def picD (c : PIC) : PyData := .tuple [.tuple (c.1.map .int), plD c.2]
theorem bkD_dp {K : PySem.W.Frag} {H : Hp} (o : Option Int) : Dp K H (bkV o) (bkD o) := by
  cases o with
  | none => exact .non
  | some i => exact .int i
theorem LyAt.dp {K : PySem.W.Frag} {H : Hp} {v : V} {l : LY} : LyAt K H v l → Dp K H v (lyD l) := by
  rintro ⟨p, rv, rfl, h, pr, vs, rfl, hq, pd⟩
  exact .tup h (.cons (.tup hq (dpAll_of (f := rwD) (fun _ _ h => RowAt.dp h) pd)) (.cons (bkD_dp _) .nil))
theorem ShAt.dp {K : PySem.W.Frag} {H : Hp} {v : V} {ls : List LY} {x y : Int} {ms : List MV} : ShAt K H v ls x y ms → Dp K H v (shD ls x y ms) := by
  rintro ⟨p, lv, wv, rfl, h, ⟨pl, vs, rfl, hq, pd⟩, hw⟩
  exact .tup h (.cons (.tup hq (dpAll_of (f := lyD) (fun _ _ h => LyAt.dp h) pd)) (.cons hw.dp .nil))
theorem ints_dp {K : PySem.W.Frag} {H : Hp} : ∀ ns : List Int, DpAll K H (ns.map V.int) (ns.map .int)
  | [] => .nil
  | n :: r => .cons (.int n) (ints_dp r)
theorem PicAt.dp {K : PySem.W.Frag} {H : Hp} {v : V} {c : PIC} : PicAt K H v c → Dp K H v (picD c) := by
  rintro ⟨a, b, v2, rfl, h, h1, h2⟩
  exact .tup h (.cons (.tup h1 (ints_dp _)) (.cons h2.dp .nil))
theorem mem2 {α : Type} {a b e : α} (h : e ∈ [a, b]) : e = a ∨ e = b := by
  simpa using h
theorem rwD_ro {r : RW} (h : VRow r) : RO 1 84 (rwD r) := by
  obtain ⟨h1, h2, h3, h4⟩ := h
  refine RO.tup (k := 0) (w := 41) (fun e he => ?_) (by show 2 * 42 ≤ 84; decide)
  rcases mem2 he with rfl | rfl <;> exact RO.int (by omega) (by omega)
theorem lyD_ro {l : LY} (h : VLy l) : RO 3 1362 (lyD l) := by
  obtain ⟨⟨h8, hr⟩, hb⟩ := h
  refine RO.tup (k := 2) (w := 680) (fun e he => ?_) (by show 2 * 681 ≤ 1362; decide)
  rcases mem2 he with rfl | rfl
  · refine RO.tup (k := 1) (w := 84) (fun e he => ?_) ?_
    · obtain ⟨r, hm, rfl⟩ := List.mem_map.mp he
      exact rwD_ro (hr r hm)
    · rw [List.length_map]
      omega
  · cases e : l.2 with
    | none => exact RO.none.more (by omega) (Nat.le_refl _)
    | some i =>
      have := hb i e
      exact (RO.int (by omega) (by omega)).more (by omega) (by omega)
theorem shD_ro {ls : List LY} {x y : Int} {ms : List MV} (h : VLays ls) (hw : VWin x y ms) : RO 5 10906 (shD ls x y ms) := by
  obtain ⟨h1, h4, hl⟩ := h
  refine RO.tup (k := 4) (w := 5452) (fun e he => ?_) (by show 2 * 5453 ≤ 10906; decide)
  rcases mem2 he with rfl | rfl
  · refine RO.tup (k := 3) (w := 1362) (fun e he => ?_) ?_
    · obtain ⟨l, hm, rfl⟩ := List.mem_map.mp he
      exact lyD_ro (hl l hm)
    · rw [List.length_map]
      omega
  · exact (winD_ro hw).more (by omega) (by omega)
theorem dOk_up : ∀ {n : Nat} {d : PyData}, dOk n d → dOk (n + 1) d
  | 0, _, h => .inl h
  | n + 1, _, .inl h => .inl h
  | n + 1, _, .inr ⟨ds, h1, h2, h3⟩ => .inr ⟨ds, h1, h2, fun e he => dOk_up (h3 e he)⟩
theorem dOk_pic {c : PIC} (h : c.1.length ≤ 1000) : dOk 3 (picD c) := by
  refine .inr ⟨_, .inr rfl, (by show 2 ≤ 1000; decide), fun e he => ?_⟩
  rcases mem2 he with rfl | rfl
  · refine dOk_up (n := 1) (.inr ⟨_, .inr rfl, by rw [List.length_map]; exact h, fun e he => ?_⟩)
    obtain ⟨i, _, rfl⟩ := List.mem_map.mp he
    exact fl_int i
  · exact dOk_pl _
theorem dOk_pics {cs : List PIC} (h : cs.length ≤ 1000) (hc : ∀ c ∈ cs, c.1.length ≤ 1000) : dOk 4 (.list (cs.map picD)) := by
  refine .inr ⟨_, .inl rfl, by rw [List.length_map]; exact h, fun e he => ?_⟩
  obtain ⟨c, hm, rfl⟩ := List.mem_map.mp he
  exact dOk_pic (hc c hm)
theorem lcmap_list {K : PySem.W.Frag} {a : Addr} {xs : List V} {g : TG} {tt : TT} {te : TE} {vs : List Nat} {σ : L2.St} {H1 : Hp} {D : Addr} {Qd : Hp → Prop} (ys : List V) (hl : ys.length = xs.length) (hz : xs.length ≤ 1000) (hS : SqL K H1 a xs) (hD : H1 D = none)
    (hs : ∀ (i : Nat) (x y : V) (H : Hp) (R : V → Hp → Prop) (Z : Hp → Prop), xs[i]? = some x → ys[i]? = some y → Same H1 H → (∀ H4, Same H H4 → R y H4) → g x (wipe σ vs) H fun σ2 H2 => wipe σ2 vs = wipe σ vs ∧ tt σ2 H2 fun b H3 => if b = true then te σ2 H3 R else Z H3)
    (hd : ∀ H, Same H1 H → H D = some (.lst ys) → Qd H) :
    ∃ W : Nat → Nat → Hp → Prop, (∃ m, W 0 m (upd H1 D (.lst []))) ∧ ∀ i m H, W i m H →
      ((Itl K a).stop i H ∧ Qd H) ∨ ((Itl K a).go i H ∧ ∃ Nx : Hp → Prop, (∀ H', Nx H' → ∃ m', m' < m ∧ W (i + 1) m' H') ∧ ∀ x H', (Itl K a).yld i H x H' → g x (wipe σ vs) H' fun σ2 H2 => wipe σ2 vs = wipe σ vs ∧ tt σ2 H2 fun b H3 =>
        if b = true then te σ2 H3 fun y H4 => ∃ acc, H4 D = some (.lst acc) ∧ acc.length < sizeLine ∧ Nx (upd H4 D (.lst (acc ++ [y]))) else Nx H3) := by
  refine lc_list (K := K) (a := a) (xs := xs) (fun i H => Same H1 H ∧ H D = some (.lst (ys.take i))) ⟨same_upd hD, upd_same⟩ (fun i H _ p => p.1.seq hS) (fun i x H hx p => ?_) (fun H p => ?_)
  · have hi : i < xs.length := (List.getElem?_eq_some_iff.mp hx).1
    obtain ⟨y, hy⟩ : ∃ y, ys[i]? = some y := ⟨_, List.getElem?_eq_getElem (by omega)⟩
    refine hs i x y H _ _ hx hy p.1 (fun H4 s4 => ⟨ys.take i, s4 _ _ p.2, ?_, ?_, ?_⟩)
    · rw [List.length_take]
      exact Nat.lt_of_le_of_lt (Nat.min_le_left _ _) (small1000 (by omega))
    · intro b o e
      rw [upd_ne (ne_of_none e hD)]
      exact s4 _ _ (p.1 _ _ e)
    · rw [upd_same, List.take_add_one, hy]
      rfl
  · refine hd H p.1 ?_
    rw [p.2, List.take_of_length_le (by omega)]
/-! ### laying -/
def rnd (rs : List RW) : Option Int → Int
  | none => 0
  | some b => tot (rs.drop b.toNat)
def lays (rs : List RW) (bk : Option Int) (n : Nat) : List V := (List.range n).map fun i => V.int (shown rs bk (i : Nat))
theorem lays_at {rs : List RW} {bk : Option Int} {n i : Nat} (h : i < n) : (lays rs bk n)[i]? = some (.int (shown rs bk (i : Nat))) := by
  unfold lays
  rw [List.getElem?_map, List.getElem?_range h]
  rfl
theorem lays_len (rs : List RW) (bk : Option Int) (n : Nat) : (lays rs bk n).length = n := by
  unfold lays
  rw [List.length_map, List.length_range]
theorem lays_of {rs : List RW} {bk : Option Int} {n : Nat} {fs : List Int} (hl : n ≤ fs.length) (h : ∀ i, i < fs.length → fs[i]? = some (shown rs bk (i : Nat))) : (fs.map V.int).take n = lays rs bk n := by
  apply List.ext_getElem?
  intro i
  by_cases hi : i < n
  · rw [lays_at hi, List.getElem?_take_of_lt hi, List.getElem?_map, h i (by omega)]
    rfl
  · rw [List.getElem?_eq_none (by rw [List.length_take]; omega), List.getElem?_eq_none (by rw [lays_len]; omega)]
/-! ### laid out, row by row -/
/-- a walk over J: Body tells what is asked of a turn, Qd what is asked at the end -/
abbrev Goes (J : It) (Body : V → Hp → (Hp → Prop) → Prop) (Hs : Hp) (Qd : Hp → Prop) : Prop :=
  ∃ W : Nat → Nat → Hp → Prop, (∃ m, W 0 m Hs) ∧ ∀ i m H, W i m H →
    (J.stop i H ∧ Qd H) ∨ (J.go i H ∧ ∃ Nx : Hp → Prop, (∀ H', Nx H' → ∃ m', m' < m ∧ W (i + 1) m' H') ∧ ∀ x H', J.yld i H x H' → Body x H' Nx)
/-- n turns: Pv i stands when i of them are done -/
theorem goes_by {J : It} {n : Nat} {Body : V → Hp → (Hp → Prop) → Prop} {Hs : Hp} {Qd : Hp → Prop} (Pv : Nat → Hp → Prop) (h0 : Pv 0 Hs) (last : ∀ H, Pv n H → J.stop n H ∧ Qd H)
    (turn : ∀ i H, i < n → Pv i H → J.go i H ∧ ∀ x H', J.yld i H x H' → Body x H' (Pv (i + 1))) : Goes J Body Hs Qd := by
  refine ⟨fun done left H => done + left = n ∧ Pv done H, ⟨n, Nat.zero_add n, h0⟩, fun i left H here => ?_⟩
  cases left with
  | zero =>
    obtain ⟨rfl, p⟩ := here
    exact .inl (last H p)
  | succ less =>
    have now := turn i H (by have := here.1; omega) here.2
    exact .inr ⟨now.1, Pv (i + 1), fun H' p => ⟨less, Nat.lt_succ_self less, by have := here.1; omega, p⟩, now.2⟩
theorem wk_tup {K : PySem.W.Frag} {a : Addr} {xs : List V} {Body : V → Hp → (Hp → Prop) → Prop} {Hs : Hp} {Qd : Hp → Prop} (Pv : Nat → Hp → Prop) (h0 : Pv 0 Hs) (hl : ∀ i H, i ≤ xs.length → Pv i H → SqT K H a xs)
    (hs : ∀ i x H, xs[i]? = some x → Pv i H → Body x H (Pv (i + 1))) (hd : ∀ H, Pv xs.length H → Qd H) : Goes (Itt K a) Body Hs Qd :=
  goes_by (n := xs.length) Pv h0 (fun H p => ⟨⟨xs, hl _ H (Nat.le_refl _) p, Nat.le_refl _⟩, hd H p⟩) fun i H lt p =>
    have stays := hl i H (Nat.le_of_lt lt) p
    ⟨⟨xs, _, stays, List.getElem?_eq_getElem lt⟩, fun x _ y => y.1 ▸ hs i x H (y.2 xs stays) p⟩
theorem wk_list {K : PySem.W.Frag} {a : Addr} {xs : List V} {Body : V → Hp → (Hp → Prop) → Prop} {Hs : Hp} {Qd : Hp → Prop} (Pv : Nat → Hp → Prop) (h0 : Pv 0 Hs) (hl : ∀ i H, i ≤ xs.length → Pv i H → SqL K H a xs)
    (hs : ∀ i x H, xs[i]? = some x → Pv i H → Body x H (Pv (i + 1))) (hd : ∀ H, Pv xs.length H → Qd H) : Goes (Itl K a) Body Hs Qd :=
  goes_by (n := xs.length) Pv h0 (fun H p => ⟨⟨xs, hl _ H (Nat.le_refl _) p, Nat.le_refl _⟩, hd H p⟩) fun i H lt p =>
    have stays := hl i H (Nat.le_of_lt lt) p
    ⟨⟨xs, _, stays, List.getElem?_eq_getElem lt⟩, fun x _ y => y.1 ▸ hs i x H (y.2 xs stays) p⟩
theorem wk_range {lo : Int} {n : Nat} {Body : V → Hp → (Hp → Prop) → Prop} {Hs : Hp} {Qd : Hp → Prop} (Pv : Nat → Hp → Prop) (h0 : Pv 0 Hs)
    (hs : ∀ i H, i < n → Pv i H → Body (.int (lo + i)) H (Pv (i + 1))) (hd : ∀ H, Pv n H → Qd H) : Goes (Itr lo n) Body Hs Qd :=
  goes_by Pv h0 (fun H p => ⟨Nat.le_refl n, hd H p⟩) fun i H lt p => ⟨lt, fun _ _ y => y.1 ▸ y.2 ▸ hs i H lt p⟩
theorem yes_ok2 {σ : L2.St} {H : Hp} {X Z : Hp → Prop} (h : X H) : tYes σ H (fun b H3 => if b = true then X H3 else Z H3) := by
  show if true = true then X H else Z H
  rw [if_pos rfl]
  exact h
def dwg : List RW → List Int
  | [] => []
  | r :: t => List.replicate r.2.toNat r.1 ++ dwg t
theorem dwg_append (a b : List RW) : dwg (a ++ b) = dwg a ++ dwg b := by
  induction a with
  | nil => rfl
  | cons r t ih => rw [List.cons_append, dwg, dwg, ih, List.append_assoc]
theorem dwg_len : ∀ {rs : List RW}, (∀ r ∈ rs, VRow r) → ((dwg rs).length : Int) = tot rs
  | [], _ => rfl
  | r :: t, v => by
    have v1 := v r (List.mem_cons_self ..)
    have ih := dwg_len (rs := t) fun q hq => v q (List.mem_cons_of_mem _ hq)
    rw [dwg, List.length_append, List.length_replicate, tot_cons]
    obtain ⟨_, _, h3, _⟩ := v1
    omega
theorem dwg_at : ∀ {rs : List RW} {i : Nat}, (∀ r ∈ rs, VRow r) → (i : Int) < tot rs → (dwg rs)[i]? = some (walk rs i)
  | [], i, _, h => by
    rw [tot_nil] at h
    omega
  | r :: t, i, v, h => by
    have v1 := v r (List.mem_cons_self ..)
    have vt : ∀ q ∈ t, VRow q := fun q hq => v q (List.mem_cons_of_mem _ hq)
    obtain ⟨_, _, h3, _⟩ := v1
    rw [tot_cons] at h
    rw [dwg]
    unfold walk
    by_cases c : (i : Int) < r.2
    · rw [if_pos c, List.getElem?_append_left (by rw [List.length_replicate]; omega), List.getElem?_replicate, if_pos (by omega)]
    · rw [if_neg c, List.getElem?_append_right (by rw [List.length_replicate]; omega), List.length_replicate]
      have := dwg_at (rs := t) (i := i - r.2.toNat) vt (by omega)
      rw [this]
      congr 2
      omega
theorem walk_cons (r : RW) (t : List RW) (m : Int) : walk (r :: t) m = if m < r.2 then r.1 else walk t (m - r.2) := rfl
theorem walk_append : ∀ {a b : List RW} {m : Int}, (∀ r ∈ a, VRow r) → 0 ≤ m → walk (a ++ b) m = if m < tot a then walk a m else walk b (m - tot a)
  | [], b, m, _, h => by
    rw [tot_nil, if_neg (by omega), List.nil_append, show m - 0 = m by omega]
  | r :: t, b, m, v, h => by
    have v1 := v r (List.mem_cons_self ..)
    have vt : ∀ q ∈ t, VRow q := fun q hq => v q (List.mem_cons_of_mem _ hq)
    have t0 := (tot_nonneg vt).1
    obtain ⟨_, _, h3, _⟩ := v1
    rw [List.cons_append, tot_cons, walk_cons, walk_cons]
    by_cases c : m < r.2
    · rw [if_pos c, if_pos (by omega), if_pos c]
    · rw [if_neg c, walk_append vt (by omega), if_neg c]
      by_cases d : m < r.2 + tot t
      · rw [if_pos d, if_pos (by omega)]
      · rw [if_neg d, if_neg (by omega), show m - r.2 - tot t = m - (r.2 + tot t) by omega]
theorem rep_at {α : Type} {B : List α} (hB : 0 < B.length) : ∀ (t j : Nat), j < t * B.length → (List.replicate t B).flatten[j]? = B[j % B.length]?
  | 0, j, h => by omega
  | t + 1, j, h => by
    rw [List.replicate_succ, List.flatten_cons]
    by_cases c : j < B.length
    · rw [List.getElem?_append_left c, Nat.mod_eq_of_lt c]
    · rw [List.getElem?_append_right (by omega), rep_at hB t (j - B.length) (by rw [Nat.add_mul, Nat.one_mul] at h; omega), ← Nat.mod_eq_sub_mod (by omega)]
/-- what a layer shows: ahead once, around again and again -/
def ahL (rs : List RW) : Option Int → List Int
  | none => dwg rs
  | some b => dwg (rs.take b.toNat)
def arL (rs : List RW) : Option Int → List Int
  | none => [0]
  | some b => dwg (rs.drop b.toNat)
theorem VRows.takeV {rs : List RW} (v : VRows rs) (k : Nat) : VRows (rs.take k) := ⟨by rw [List.length_take]; have := v.1; omega, fun r hr => v.2 r (List.mem_of_mem_take hr)⟩
theorem VRows.dropV {rs : List RW} (v : VRows rs) (k : Nat) : VRows (rs.drop k) := ⟨by rw [List.length_drop]; have := v.1; omega, fun r hr => v.2 r (List.mem_of_mem_drop hr)⟩
theorem ahL_len {rs : List RW} {bk : Option Int} (v : VRows rs) : (ahL rs bk).length ≤ 192 := by
  cases bk with
  | none =>
    have h := dwg_len v.2
    have t := (tot_nonneg v.2).2
    have := v.1
    show (dwg rs).length ≤ 192
    omega
  | some b =>
    have h := dwg_len (v.takeV b.toNat).2
    have t := (tot_nonneg (v.takeV b.toNat).2).2
    have := (v.takeV b.toNat).1
    show (dwg (rs.take b.toNat)).length ≤ 192
    omega
theorem arL_len {rs : List RW} {bk : Option Int} (v : VRows rs) (vb : VBack rs bk) : 1 ≤ (arL rs bk).length ∧ (arL rs bk).length ≤ 192 := by
  cases bk with
  | none => exact ⟨Nat.le_refl _, by show 1 ≤ 192; omega⟩
  | some b =>
    have hb := vb b rfl
    have h := dwg_len (v.dropV b.toNat).2
    have t := tot_nonneg (v.dropV b.toNat).2
    have := v.1
    rw [List.length_drop] at t
    show 1 ≤ (dwg (rs.drop b.toNat)).length ∧ (dwg (rs.drop b.toNat)).length ≤ 192
    omega
theorem shown_lay {rs : List RW} {bk : Option Int} (v : VRows rs) (vb : VBack rs bk) (i : Nat) :
    some (shown rs bk i) = if i < (ahL rs bk).length then (ahL rs bk)[i]? else (arL rs bk)[(i - (ahL rs bk).length) % (arL rs bk).length]? := by
  cases bk with
  | none =>
    have h := dwg_len v.2
    show some (walk rs i) = if i < (dwg rs).length then (dwg rs)[i]? else ([0] : List Int)[(i - (dwg rs).length) % 1]?
    by_cases c : i < (dwg rs).length
    · rw [if_pos c, dwg_at v.2 (by omega)]
    · rw [if_neg c, walk_out rs i (by omega) v.2, Nat.mod_one]
      rfl
  | some b =>
    have hb := vb b rfl
    have h := dwg_len (v.takeV b.toNat).2
    have h2 := dwg_len (v.dropV b.toNat).2
    have t2 := (tot_nonneg (v.dropV b.toNat).2).1
    rw [List.length_drop] at t2
    have cpos : 0 < tot (rs.drop b.toNat) := by omega
    show some (walk rs (if (i : Int) < tot (rs.take b.toNat) then (i : Int) else tot (rs.take b.toNat) + ((i : Int) - tot (rs.take b.toNat)) % tot (rs.drop b.toNat))) = if i < (dwg (rs.take b.toNat)).length then (dwg (rs.take b.toNat))[i]? else (dwg (rs.drop b.toNat))[(i - (dwg (rs.take b.toNat)).length) % (dwg (rs.drop b.toNat)).length]?
    have wa := fun m h0 => walk_append (a := rs.take b.toNat) (b := rs.drop b.toNat) (m := m) (v.takeV b.toNat).2 h0
    rw [List.take_append_drop] at wa
    by_cases c : i < (dwg (rs.take b.toNat)).length
    · rw [if_pos c, if_pos (by omega), wa _ (by omega), if_pos (by omega), dwg_at (v.takeV b.toNat).2 (by omega)]
    · have m0 := Int.emod_nonneg ((i : Int) - tot (rs.take b.toNat)) (show tot (rs.drop b.toNat) ≠ 0 by omega)
      have m1 := Int.emod_lt_of_pos ((i : Int) - tot (rs.take b.toNat)) cpos
      have t1 := (tot_nonneg (v.takeV b.toNat).2).1
      have em : (((i - (dwg (rs.take b.toNat)).length) % (dwg (rs.drop b.toNat)).length : Nat) : Int) = ((i : Int) - tot (rs.take b.toNat)) % tot (rs.drop b.toNat) := by
        rw [Int.natCast_emod, h2, Int.natCast_sub (by omega), h]
      rw [if_neg c, if_neg (by omega), wa _ (by omega), if_neg (by omega), dwg_at (v.dropV b.toNat).2 (by omega), em]
      congr 2
      omega
def laysI (rs : List RW) (bk : Option Int) (n : Nat) : List Int := (List.range n).map fun i => shown rs bk (i : Nat)
theorem laysI_map (rs : List RW) (bk : Option Int) (n : Nat) : lays rs bk n = (laysI rs bk n).map V.int := by
  unfold lays laysI
  rw [List.map_map]
  rfl
theorem first_lay {rs : List RW} {bk : Option Int} (v : VRows rs) (vb : VBack rs bk) {n t : Nat} (ht : n ≤ (ahL rs bk).length + t * (arL rs bk).length) :
    ((ahL rs bk) ++ (List.replicate t (arL rs bk)).flatten).take n = laysI rs bk n := by
  have hp := (arL_len v vb).1
  apply List.ext_getElem?
  intro i
  unfold laysI
  by_cases hi : i < n
  · rw [List.getElem?_take_of_lt hi, List.getElem?_map, List.getElem?_range hi]
    show _ = some (shown rs bk (i : Nat))
    rw [shown_lay v vb]
    by_cases c : i < (ahL rs bk).length
    · rw [if_pos c, List.getElem?_append_left c]
    · rw [if_neg c, List.getElem?_append_right (by omega), rep_at (by omega) t _ (by omega)]
  · rw [List.getElem?_eq_none (by rw [List.length_take]; omega), List.getElem?_eq_none (by rw [List.length_map, List.length_range]; omega)]
/-! ### data that is compared -/
mutual
def nb : PyData → Bool
  | .none => true
  | .int _ => true
  | .str x => PyData.strOk x
  | .bool _ => false
  | .list xs => nbs xs
  | .tuple xs => nbs xs
  | .dict _ => false
def nbs : List PyData → Bool
  | [] => true
  | x :: xs => nb x && nbs xs
end
theorem nbs_all : ∀ {xs : List PyData}, (∀ x ∈ xs, nb x = true) → nbs xs = true
  | [], _ => rfl
  | x :: xs, h => by
    show (nb x && nbs xs) = true
    rw [h x (List.mem_cons_self ..), nbs_all fun y hy => h y (List.mem_cons_of_mem _ hy)]
    rfl
mutual
theorem nb_can : ∀ d : PyData, nb d = true → d.canLay0 = true
  | .none, _ => rfl
  | .int _, _ => rfl
  | .str x, h => h
  | .bool _, h => nomatch h
  | .list xs, h => nbs_can xs h
  | .tuple xs, h => nbs_can xs h
  | .dict _, h => nomatch h
theorem nbs_can : ∀ xs : List PyData, nbs xs = true → PyData.canLayAll0 xs = true
  | [], _ => rfl
  | x :: xs, h => by
    have h' : (nb x && nbs xs) = true := h
    rw [Bool.and_eq_true] at h'
    show (x.canLay0 && PyData.canLayAll0 xs) = true
    rw [nb_can x h'.1, nbs_can xs h'.2]
    rfl
end
mutual
theorem nb_eq : ∀ d e : PyData, nb d = true → nb e = true → (PyData.eqv d e = true → d = e)
  | .none, e, _, h => by cases e <;> first | (intro _; rfl) | (intro z; cases z) | (cases h)
  | .int i, e, _, h => by
    cases e <;> first | (intro z; cases z) | (cases h) | skip
    intro z
    rw [PyData.eqv] at z
    rw [eq_of_beq z]
  | .str x, e, _, h => by
    cases e <;> first | (intro z; cases z) | (cases h) | skip
    intro z
    rw [PyData.eqv] at z
    rw [eq_of_beq z]
  | .bool _, _, h, _ => nomatch h
  | .list xs, e, h0, h => by
    cases e <;> first | (intro z; cases z) | (cases h) | skip
    intro z
    rw [PyData.eqv] at z
    rw [nbs_eq xs _ h0 h z]
  | .tuple xs, e, h0, h => by
    cases e <;> first | (intro z; cases z) | (cases h) | skip
    intro z
    rw [PyData.eqv] at z
    rw [nbs_eq xs _ h0 h z]
  | .dict _, _, h, _ => nomatch h
theorem nbs_eq : ∀ xs ys : List PyData, nbs xs = true → nbs ys = true → (PyData.eqvAll xs ys = true → xs = ys)
  | [], [], _, _ => fun _ => rfl
  | [], _ :: _, _, _ => fun z => nomatch z
  | _ :: _, [], _, _ => fun z => nomatch z
  | x :: xs, y :: ys, h0, h => by
    intro z
    have h0' : (nb x && nbs xs) = true := h0
    have h' : (nb y && nbs ys) = true := h
    rw [Bool.and_eq_true] at h0' h'
    rw [PyData.eqvAll, Bool.and_eq_true] at z
    rw [nb_eq x y h0'.1 h'.1 z.1, nbs_eq xs ys h0'.2 h'.2 z.2]
end
theorem nb_eqv {d e : PyData} (h0 : nb d = true) (h : nb e = true) : PyData.eqv d e = true ↔ d = e :=
  ⟨nb_eq d e h0 h, fun z => by rw [z]; exact SeqAt.eqv_refl e (nb_can e h)⟩
/-- may be compared: depth at most k -/
structure Sd (k : Nat) (d : PyData) : Prop where
  nb : nb d = true
  dp : d.depth ≤ k
theorem Sd.int {k : Nat} (i : Int) : Sd k (.int i) := ⟨rfl, Nat.zero_le _⟩
theorem Sd.none {k : Nat} : Sd k .none := ⟨rfl, Nat.zero_le _⟩
theorem Sd.more {k k' : Nat} {d : PyData} (h : Sd k d) (h1 : k ≤ k') : Sd k' d := ⟨h.nb, Nat.le_trans h.dp h1⟩
theorem sd_all {k : Nat} : ∀ {ds : List PyData}, (∀ e ∈ ds, Sd k e) → PyData.depthAll ds ≤ k
  | [], _ => Nat.zero_le _
  | d :: t, h => Nat.max_le.mpr ⟨(h d (List.mem_cons_self ..)).dp, sd_all fun x hx => h x (List.mem_cons_of_mem _ hx)⟩
theorem Sd.tup {k : Nat} {ds : List PyData} (h : ∀ e ∈ ds, Sd k e) : Sd (k + 1) (.tuple ds) := ⟨nbs_all fun x hx => (h x hx).nb, Nat.succ_le_succ (sd_all h)⟩
theorem Sd.lst {k : Nat} {ds : List PyData} (h : ∀ e ∈ ds, Sd k e) : Sd (k + 1) (.list ds) := ⟨nbs_all fun x hx => (h x hx).nb, Nat.succ_le_succ (sd_all h)⟩
theorem Sd.sh {k : Nat} {d : PyData} (h : Sd k d) (hk : k ≤ 64) : SeqAt.shaped d = true := by
  show (d.canLay0 && decide (d.depth ≤ 64)) = true
  rw [nb_can d h.nb, decide_eq_true (Nat.le_trans h.dp hk)]
  rfl
theorem Sd.ints {ns : List Int} : Sd 1 (.list (ns.map .int)) := Sd.lst fun e he => by
  obtain ⟨i, _, rfl⟩ := List.mem_map.mp he
  exact Sd.int i
theorem Sd.intsT {ns : List Int} : Sd 1 (.tuple (ns.map .int)) := Sd.tup fun e he => by
  obtain ⟨i, _, rfl⟩ := List.mem_map.mp he
  exact Sd.int i
theorem ints_inj {ns ms : List Int} : ns.map PyData.int = ms.map PyData.int ↔ ns = ms :=
  ⟨fun h => List.map_inj_right (fun _ _ e => PyData.int.inj e) |>.mp h, fun h => by rw [h]⟩
theorem eqv_ints (ns ms : List Int) : PyData.eqv (.list (ns.map .int)) (.list (ms.map .int)) = decide (ns = ms) := by
  have h := nb_eqv (Sd.ints (ns := ns)).nb (Sd.ints (ns := ms)).nb
  by_cases e : ns = ms
  · rw [decide_eq_true e]
    exact h.mpr (by rw [e])
  · rw [decide_eq_false e]
    exact Bool.eq_false_iff.mpr fun z => e (ints_inj.mp (PyData.list.inj (h.mp z)))
/-- x != y of data: the readings -/
theorem ne_data {K : PySem.W.Frag} {H : Hp} {x y : V} {d e : PyData} {k : Nat} {Q : VK} (hx : Dp K H x d) (hy : Dp K H y e) (sd : Sd k d) (se : Sd k e) (hk : k ≤ 64) (q : ∀ b : Bool, (b = true ↔ d = e) → Q (.bl (!b)) H) : rNeD K x y H Q :=
  ⟨d, e, hx, hy, sd.sh hk, se.sh hk, q _ (nb_eqv sd.nb se.nb)⟩
theorem ne_same {K : PySem.W.Frag} {H : Hp} {x y : V} {d : PyData} {k : Nat} {Q : VK} (hx : Dp K H x d) (hy : Dp K H y d) (sd : Sd k d) (hk : k ≤ 64) (q : Q (.bl false) H) : rNeD K x y H Q :=
  ⟨d, d, hx, hy, sd.sh hk, sd.sh hk, by rw [(nb_eqv sd.nb sd.nb).mpr rfl]; exact q⟩
theorem eq_data {K : PySem.W.Frag} {H : Hp} {x y : V} {d e : PyData} {k : Nat} {Q : VK} (hx : Dp K H x d) (hy : Dp K H y e) (sd : Sd k d) (se : Sd k e) (hk : k ≤ 64) (q : ∀ b : Bool, (b = true ↔ d = e) → Q (.bl b) H) : rEqD K x y H Q :=
  ⟨d, e, hx, hy, sd.sh hk, se.sh hk, q _ (nb_eqv sd.nb se.nb)⟩
theorem ne_ints {K : PySem.W.Frag} {H : Hp} {x y : Addr} {ns ms : List Int} {Q : VK} (hx : SqL K H x (ns.map V.int)) (hy : SqL K H y (ms.map V.int)) (q : Q (.bl (!decide (ns = ms))) H) : rNeD K (.ref x) (.ref y) H Q :=
  ⟨_, _, .lst hx (ints_dp _), .lst hy (ints_dp _), Sd.ints.sh (by decide), Sd.ints.sh (by decide), by rw [eqv_ints]; exact q⟩
theorem ints_dpl {K : PySem.W.Frag} {H : Hp} {p : Addr} {ns : List Int} (h : SqL K H p (ns.map V.int)) : Dp K H (.ref p) (.list (ns.map .int)) := .lst h (ints_dp _)
theorem while_R {c : TT} {tb : TS} {D : Ends} {σ : L2.St} {H : Hp} (Pv : L2.St → Hp → Prop) (μ : L2.St → Hp → Nat) (h0 : Pv σ H)
    (hs : ∀ σ H, Pv σ H → ∀ R : Bool → Hp → Prop, (∀ H1, tb { D with nx := fun σ' H' => Pv σ' H' ∧ μ σ' H' < μ σ H, ct := fun σ' H' => Pv σ' H' ∧ μ σ' H' < μ σ H, bk := D.nx } σ H1 → R true H1) → (∀ H1, D.nx σ H1 → R false H1) → c σ H R) : tWhile c tb D σ H := by
  refine ⟨fun m σ H => m = μ σ H ∧ Pv σ H, ⟨_, rfl, h0⟩, ?_⟩
  rintro m σ H ⟨rfl, p⟩
  refine hs σ H p _ (fun H1 h => ?_) (fun H1 h => ?_)
  · show if true = true then _ else _
    rw [if_pos rfl]
    exact ⟨_, fun σ' H' ⟨p', l⟩ => ⟨_, l, rfl, p'⟩, h⟩
  · show if false = true then _ else _
    rw [if_neg (by decide)]
    exact h
/-! ### what comes again and again -/
section
variable {f : Nat → Int}
theorem per_mul {A m : Nat} (h : ∀ t, A ≤ t → f (t + m) = f t) : ∀ (k t : Nat), A ≤ t → f (t + m * k) = f t
  | 0, t, _ => by rw [Nat.mul_zero, Nat.add_zero]
  | k + 1, t, ht => by rw [Nat.mul_succ, ← Nat.add_assoc, h _ (by omega), per_mul h k t ht]
theorem per_mod {A m n : Nat} (h : ∀ t, A ≤ t → f (t + m) = f t) (h' : ∀ t, A ≤ t → f (t + n) = f t) : ∀ t, A ≤ t → f (t + n % m) = f t := fun t ht => by
  rw [← per_mul h (n / m) _ (show A ≤ t + n % m by omega), Nat.add_assoc, Nat.mod_add_div, h' t ht]
theorem per_ev {A c m B : Nat} (hc : 1 ≤ c) (hp : ∀ t, A ≤ t → f (t + c) = f t) (h : ∀ t, B ≤ t → f (t + m) = f t) : ∀ t, A ≤ t → f (t + m) = f t := fun t ht => by
  have hb : B ≤ c * B := Nat.le_mul_of_pos_left B hc
  rw [← per_mul hp B t ht, ← h (t + c * B) (by omega), ← per_mul hp B (t + m) (by omega)]
  congr 1
  omega
/-- the least round -/
structure Lst (f : Nat → Int) (a m : Nat) : Prop where
  m1 : 1 ≤ m
  per : ∀ t, a ≤ t → f (t + m) = f t
  dvd : ∀ n B, (∀ t, B ≤ t → f (t + n) = f t) → m ∣ n
  fst : ∀ b, b + 1 = a → f (b + m) ≠ f b
theorem ex_least {A c : Nat} (hc : 1 ≤ c) (hp : ∀ t, A ≤ t → f (t + c) = f t) : ∃ m, 1 ≤ m ∧ m ≤ c ∧ (∀ t, A ≤ t → f (t + m) = f t) ∧ ∀ k, 1 ≤ k → (∀ t, A ≤ t → f (t + k) = f t) → m ≤ k := by
  induction c using Nat.strongRecOn with
  | ind c ih =>
    by_cases h : ∃ k, 1 ≤ k ∧ k < c ∧ ∀ t, A ≤ t → f (t + k) = f t
    · obtain ⟨k, k1, kc, kp⟩ := h
      obtain ⟨m, m1, mk, r⟩ := ih k kc k1 kp
      exact ⟨m, m1, by omega, r⟩
    · refine ⟨c, hc, Nat.le_refl _, hp, fun k k1 kp => ?_⟩
      exact Nat.le_of_not_lt fun z => h ⟨k, k1, z, kp⟩
/-- the least many, then the least ahead -/
theorem lst_of {A c m a : Nat} (hc : 1 ≤ c) (hp : ∀ t, A ≤ t → f (t + c) = f t) (m1 : 1 ≤ m) (hm : ∀ t, A ≤ t → f (t + m) = f t) (least : ∀ k, 1 ≤ k → k < m → c % k = 0 → ¬ ∀ t, A ≤ t → f (t + k) = f t)
    (ha : a ≤ A) (hb : ∀ t, a ≤ t → t < A → f (t + m) = f t) (hf : ∀ b, b + 1 = a → f (b + m) ≠ f b) : Lst f a m := by
  obtain ⟨n, n1, nc, np, nl⟩ := ex_least hc hp
  have div : ∀ k, (∀ t, A ≤ t → f (t + k) = f t) → n ∣ k := fun k kp => by
    apply Nat.dvd_of_mod_eq_zero
    rcases Nat.eq_zero_or_pos (k % n) with z | z
    · exact z
    · have := nl (k % n) z (per_mod np kp)
      have := Nat.mod_lt k (show 0 < n by omega)
      omega
  have e : m = n := by
    have h1 := Nat.le_of_dvd (by omega) (div m hm)
    rcases Nat.lt_or_ge n m with z | z
    · exact absurd np (least n n1 z (Nat.mod_eq_zero_of_dvd (div c hp)))
    · omega
  subst e
  refine ⟨m1, fun t ht => ?_, fun k B h => div k (per_ev hc hp h), hf⟩
  rcases Nat.lt_or_ge t A with z | z
  · exact hb t ht z
  · exact hm t z
theorem Lst.uniq {a m a' m' : Nat} (h : Lst f a m) (h' : Lst f a' m') : a = a' ∧ m = m' := by
  have e : m = m' := Nat.dvd_antisymm (h.dvd m' a' h'.per) (h'.dvd m a h.per)
  subst e
  refine ⟨?_, rfl⟩
  rcases Nat.lt_trichotomy a a' with z | z | z
  · exact absurd (h.per (a' - 1) (by omega)) (h'.fst (a' - 1) (by omega))
  · exact z
  · exact absurd (h'.per (a - 1) (by omega)) (h.fst (a - 1) (by omega))
/-- rounds by the least one -/
theorem Lst.iff {a m : Nat} (h : Lst f a m) (b n : Nat) (n1 : 1 ≤ n) : (∀ t, b ≤ t → f (t + n) = f t) ↔ a ≤ b ∧ m ∣ n := by
  constructor
  · intro hp
    have d := h.dvd n b hp
    refine ⟨?_, d⟩
    rcases Nat.lt_or_ge b a with z | z
    · obtain ⟨k, rfl⟩ := d
      have k1 : 1 ≤ k := by
        rcases Nat.eq_zero_or_pos k with z | z
        · rw [z] at n1
          omega
        · exact z
      exfalso
      refine h.fst (a - 1) (by omega) ?_
      have e := hp (a - 1) (by omega)
      have e2 := per_mul h.per (k - 1) (a - 1 + m) (by have := h.m1; omega)
      rw [show a - 1 + m + m * (k - 1) = a - 1 + m * k by
        obtain ⟨j, rfl⟩ : ∃ j, k = j + 1 := ⟨k - 1, by omega⟩
        rw [Nat.add_sub_cancel, Nat.mul_succ]
        omega, e] at e2
      exact e2.symm
    · exact z
  · rintro ⟨z, k, rfl⟩ t ht
    exact per_mul h.per k t (by omega)
def seg (f : Nat → Int) (A c : Nat) : List Int := (List.range c).map fun j => f (A + j)
theorem seg_len (A c : Nat) : (seg f A c).length = c := by
  unfold seg
  rw [List.length_map, List.length_range]
theorem seg_at {A c i : Nat} (h : i < c) : (seg f A c)[i]? = some (f (A + i)) := by
  unfold seg
  rw [List.getElem?_map, List.getElem?_range h]
  rfl
theorem rot_at {A c m j : Nat} (hp : ∀ t, A ≤ t → f (t + c) = f t) (hm : m ≤ c) (hj : j < c) : ((seg f A c).drop m ++ (seg f A c).take m)[j]? = some (f (A + j + m)) := by
  by_cases h : j < c - m
  · rw [List.getElem?_append_left (by rw [List.length_drop, seg_len]; exact h), List.getElem?_drop, seg_at (by omega)]
    congr 2
    omega
  · rw [List.getElem?_append_right (by rw [List.length_drop, seg_len]; omega), List.length_drop, seg_len, List.getElem?_take_of_lt (by omega), seg_at (by omega), ← hp _ (by omega)]
    congr 2
    omega
theorem rot_iff {A c m : Nat} (hc : 1 ≤ c) (hp : ∀ t, A ≤ t → f (t + c) = f t) (hm : m ≤ c) : (seg f A c).drop m ++ (seg f A c).take m = seg f A c ↔ ∀ t, A ≤ t → f (t + m) = f t := by
  constructor
  · intro h t ht
    have l := Nat.mod_lt (t - A) (show 0 < c by omega)
    have e := rot_at hp hm l
    rw [h, seg_at l] at e
    have e1 := Option.some.inj e
    have q := Nat.mod_add_div (t - A) c
    have e2 := per_mul hp ((t - A) / c) (A + (t - A) % c) (by omega)
    have e3 := per_mul hp ((t - A) / c) (A + (t - A) % c + m) (by omega)
    rw [show A + (t - A) % c + c * ((t - A) / c) = t by omega] at e2
    rw [show A + (t - A) % c + m + c * ((t - A) / c) = t + m by omega] at e3
    rw [e2, e3]
    exact e1.symm
  · intro h
    apply List.ext_getElem?
    intro i
    by_cases hi : i < c
    · rw [rot_at hp hm hi, seg_at hi, h _ (by omega)]
    · rw [List.getElem?_eq_none (by rw [List.length_append, List.length_drop, List.length_take, seg_len]; omega), List.getElem?_eq_none (by rw [seg_len]; omega)]
end
/-- what a layer shows, by the moment -/
def shN (rs : List RW) (bk : Option Int) (t : Nat) : Int := shown rs bk (t : Nat)
theorem shN_per {rs : List RW} {bk : Option Int} (v : VRows rs) (vb : VBack rs bk) : ∀ t, (ahL rs bk).length ≤ t → shN rs bk (t + (arL rs bk).length) = shN rs bk t := fun t ht => by
  have e1 := shown_lay v vb t
  have e2 := shown_lay v vb (t + (arL rs bk).length)
  rw [if_neg (by omega)] at e1 e2
  rw [show t + (arL rs bk).length - (ahL rs bk).length = t - (ahL rs bk).length + (arL rs bk).length by omega, Nat.add_mod_right] at e2
  exact Option.some.inj (e2.trans e1.symm)
theorem arL_seg {rs : List RW} {bk : Option Int} (v : VRows rs) (vb : VBack rs bk) : arL rs bk = seg (shN rs bk) (ahL rs bk).length (arL rs bk).length := by
  apply List.ext_getElem?
  intro i
  by_cases hi : i < (arL rs bk).length
  · rw [seg_at hi]
    show _ = some (shown rs bk (((ahL rs bk).length + i : Nat) : Int))
    rw [shown_lay v vb, if_neg (by omega), Nat.add_sub_cancel_left, Nat.mod_eq_of_lt hi]
  · rw [List.getElem?_eq_none (by omega), List.getElem?_eq_none (by rw [seg_len]; omega)]
theorem aa_at {rs : List RW} {bk : Option Int} (v : VRows rs) (vb : VBack rs bk) {i : Nat} (h : i < (ahL rs bk).length + (arL rs bk).length) : (ahL rs bk ++ arL rs bk)[i]? = some (shN rs bk i) := by
  show _ = some (shown rs bk (i : Nat))
  rw [shown_lay v vb]
  by_cases c : i < (ahL rs bk).length
  · rw [if_pos c, List.getElem?_append_left c]
  · rw [if_neg c, List.getElem?_append_right (by omega), Nat.mod_eq_of_lt (by omega)]
/-! ### helpers of the laws over rounds -/
theorem Paired.appP {α β : Type} {F : α → β → Prop} : ∀ {l₁ m₁ : List α} {l₂ m₂ : List β}, Paired F l₁ l₂ → Paired F m₁ m₂ → Paired F (l₁ ++ m₁) (l₂ ++ m₂)
  | _, _, _, _, .nil, h => h
  | _, _, _, _, .cons r t, h => .cons r (Paired.appP t h)
theorem Paired.repP {α β : Type} {F : α → β → Prop} {l₁ : List α} {l₂ : List β} (h : Paired F l₁ l₂) : ∀ n, Paired F (List.replicate n l₁).flatten (List.replicate n l₂).flatten
  | 0 => .nil
  | n + 1 => by
    rw [List.replicate_succ, List.replicate_succ, List.flatten_cons, List.flatten_cons]
    exact Paired.appP h (Paired.repP h n)
theorem mem_rep {α : Type} {l : List α} {x : α} {n : Nat} (h : x ∈ (List.replicate n l).flatten) : x ∈ l := by
  obtain ⟨m, hm, hx⟩ := List.mem_flatten.mp h
  rw [(List.mem_replicate.mp hm).2] at hx
  exact hx
theorem len_rep {α : Type} {l : List α} {n : Nat} : (List.replicate n l).flatten.length = n * l.length := by
  rw [List.length_flatten, List.map_replicate, List.sum_replicate_nat]
theorem cut_mid {xs : List V} {a b : Nat} (h : a ≤ b) (h2 : b ≤ xs.length) : cutV xs (some (a : Int)) (some (b : Int)) = (xs.drop a).take (b - a) := by
  unfold cutV
  rw [HT.sIx_nat, HT.sIx_nat, Nat.min_eq_left h2, Nat.min_eq_left (show a ≤ xs.length by omega)]
theorem lays_cut {rs : List RW} {bk : Option Int} {n a b : Nat} (h : a ≤ b) (h2 : b ≤ n) : cutV (lays rs bk n) (some (a : Int)) (some (b : Int)) = (seg (shN rs bk) a (b - a)).map V.int := by
  rw [cut_mid h (by rw [lays_len]; exact h2)]
  apply List.ext_getElem?
  intro i
  by_cases hi : i < b - a
  · rw [List.getElem?_take_of_lt hi, List.getElem?_drop, lays_at (by omega), List.getElem?_map, seg_at hi]
    rfl
  · rw [List.getElem?_eq_none (by rw [List.length_take]; omega), List.getElem?_eq_none (by rw [List.length_map, seg_len]; omega)]
theorem cut_opt {rs : List RW} {bk : Option Int} (vb : VBack rs bk) (xs : List V) : cutV xs none bk = match bk with | none => xs | some b => xs.take b.toNat := by
  cases bk with
  | none => exact cut_all xs
  | some b =>
    have hb := vb b rfl
    obtain ⟨k, rfl⟩ : ∃ k : Nat, b = (k : Int) := ⟨b.toNat, by omega⟩
    exact cut_to xs k
def ahd (rs : List RW) : Option Int → List RW
  | none => rs
  | some b => rs.take b.toNat
def siz (rs : List RW) : Option Int → Int
  | none => 1
  | some b => tot (rs.drop b.toNat)
theorem siz_pos {rs : List RW} {bk : Option Int} (v : VRows rs) (vb : VBack rs bk) : 1 ≤ siz rs bk ∧ siz rs bk ≤ 192 := by
  obtain ⟨v8, vr⟩ := v
  cases bk with
  | none => exact ⟨by show (1 : Int) ≤ 1; omega, by show (1 : Int) ≤ 192; omega⟩
  | some b =>
    have hb := vb b rfl
    have := tot_nonneg (rs := rs.drop b.toNat) fun q hq => vr q (List.mem_of_mem_drop hq)
    rw [List.length_drop] at this
    obtain ⟨t1, t2⟩ := this
    constructor
    · show 1 ≤ tot (rs.drop b.toNat)
      omega
    · show tot (rs.drop b.toNat) ≤ 192
      omega
theorem siz_len {rs : List RW} {bk : Option Int} (v : VRows rs) : siz rs bk = ((arL rs bk).length : Int) := by
  cases bk with
  | none => rfl
  | some b => exact (dwg_len (v.dropV b.toNat).2).symm
theorem ahL_tot {rs : List RW} {bk : Option Int} (v : VRows rs) : ((ahL rs bk).length : Int) ≤ tot rs := by
  cases bk with
  | none => exact Int.le_of_eq (dwg_len v.2)
  | some b =>
    show ((dwg (rs.take b.toNat)).length : Int) ≤ tot rs
    have h := dwg_len (v.takeV b.toNat).2
    have s := tot_split rs b.toNat
    have t := (tot_nonneg (v.dropV b.toNat).2).1
    omega
/-- by the whole length and the round's size -/
theorem per_whole {rs : List RW} {bk : Option Int} (v : VRows rs) (vb : VBack rs bk) {W c : Nat} (hW : (W : Int) = tot rs) (hc : (c : Int) = siz rs bk) : ∀ t, W ≤ t → shN rs bk (t + c) = shN rs bk t := fun t ht => by
  have e := siz_len (bk := bk) v
  have a := ahL_tot (bk := bk) v
  rw [show c = (arL rs bk).length by omega]
  exact shN_per v vb t (by omega)
theorem Gr.keepRow {st : Addr} {K : PySem.W.Frag} {H H' : Hp} (g : Gr st H H') (s : IsSt H st) {vs : List V} {rs : List RW} (p : Paired (RowAt K H) vs rs) : Paired (RowAt K H') vs rs := Paired.mono p fun _ _ => RowAt.keep (g.tk s)
theorem gr_upd {st D : Addr} {H0 H : Hp} {o : HO} (g : Gr st H0 H) (n0 : H0 D = none) (nD : D ≠ st) : Gr st H0 (upd H D o) :=
  ⟨fun b x nb e => by rw [upd_ne (ne_of_none e n0)]; exact g.1 b x nb e, fun hz => by
    obtain ⟨x, y, hx, hxy⟩ := g.2 hz
    exact ⟨x, y, by rw [upd_ne (Ne.symm nD)]; exact hx, hxy⟩⟩
/-! ### rounds of sheets -/
def plN (x y : Int) (ms : List MV) (t : Nat) : RW × RW := plc x y ms (t : Int)
theorem rwD_inj {r s : RW} (h : rwD r = rwD s) : r = s := by
  have e := PyData.tuple.inj h
  injection e with e1 e2
  injection e2 with e2 _
  exact Prod.ext (PyData.int.inj e1) (PyData.int.inj e2)
theorem plD_inj {p q : RW × RW} (h : plD p = plD q) : p = q := by
  have e := PyData.tuple.inj h
  injection e with e1 e2
  injection e2 with e2 _
  exact Prod.ext (rwD_inj e1) (rwD_inj e2)
theorem picD_inj {c d : PIC} (h : picD c = picD d) : c = d := by
  have e := PyData.tuple.inj h
  injection e with e1 e2
  injection e2 with e2 _
  exact Prod.ext (ints_inj.mp (PyData.tuple.inj e1)) (plD_inj e2)
theorem sd_rw (r : RW) : Sd 1 (rwD r) := Sd.tup fun e he => by
  rcases mem2 he with rfl | rfl <;> exact Sd.int _
theorem sd_pl (p : RW × RW) : Sd 2 (plD p) := Sd.tup fun e he => by
  rcases mem2 he with rfl | rfl <;> exact sd_rw _
theorem sd_pic (c : PIC) : Sd 3 (picD c) := Sd.tup fun e he => by
  rcases mem2 he with rfl | rfl
  · exact Sd.intsT.more (by decide)
  · exact sd_pl _
structure WinR (x y : Int) (ms : List MV) (b : Nat) : Prop where
  per : ∀ t, b ≤ t → plN x y ms (t + 1) = plN x y ms t
  fst : ∀ c, c + 1 = b → plN x y ms (c + 1) ≠ plN x y ms c
structure ShR (ls : List LY) (x y : Int) (ms : List MV) (a m : Nat) : Prop where
  m1 : 1 ≤ m
  perL : ∀ l ∈ ls, ∀ t, a ≤ t → shN l.1 l.2 (t + m) = shN l.1 l.2 t
  perW : ∀ t, a ≤ t → plN x y ms (t + 1) = plN x y ms t
  dvd : ∀ n, (∀ l ∈ ls, ∀ a' m', Lst (shN l.1 l.2) a' m' → m' ∣ n) → m ∣ n
  fst : ∀ b, b + 1 = a → (∃ l ∈ ls, shN l.1 l.2 (b + m) ≠ shN l.1 l.2 b) ∨ plN x y ms (b + 1) ≠ plN x y ms b
theorem ShR.uniq {ls : List LY} {x y : Int} {ms : List MV} {a m a' m' : Nat} (h : ShR ls x y ms a m) (h' : ShR ls x y ms a' m') : a = a' ∧ m = m' := by
  have e : m = m' := Nat.dvd_antisymm (h.dvd m' fun l hl b n hb => hb.dvd m' a' (h'.perL l hl)) (h'.dvd m fun l hl b n hb => hb.dvd m a (h.perL l hl))
  subst e
  refine ⟨?_, rfl⟩
  rcases Nat.lt_trichotomy a a' with z | z | z
  · rcases h'.fst (a' - 1) (by omega) with ⟨l, hl, hn⟩ | hn
    · exact absurd (h.perL l hl (a' - 1) (by omega)) hn
    · exact absurd (h.perW (a' - 1) (by omega)) hn
  · exact z
  · rcases h.fst (a - 1) (by omega) with ⟨l, hl, hn⟩ | hn
    · exact absurd (h'.perL l hl (a - 1) (by omega)) hn
    · exact absurd (h'.perW (a - 1) (by omega)) hn
theorem Paired.mem2 {α β : Type} {F : α → β → Prop} {l₁ : List α} {l₂ : List β} (p : Paired F l₁ l₂) {y : β} (h : y ∈ l₂) : ∃ x ∈ l₁, F x y := by
  obtain ⟨i, hi⟩ := List.mem_iff_getElem?.mp h
  obtain ⟨x, hx, f⟩ := Paired.at2 p hi
  exact ⟨x, List.mem_of_getElem? hx, f⟩
theorem Paired.mem1 {α β : Type} {F : α → β → Prop} {l₁ : List α} {l₂ : List β} (p : Paired F l₁ l₂) {x : α} (h : x ∈ l₁) : ∃ y ∈ l₂, F x y := by
  obtain ⟨i, hi⟩ := List.mem_iff_getElem?.mp h
  obtain ⟨y, hy, f⟩ := Paired.at p hi
  exact ⟨y, List.mem_of_getElem? hy, f⟩
abbrev RdOf (r : Nat × Nat) (l : LY) : Prop := Lst (shN l.1 l.2) r.1 r.2 ∧ r.1 ≤ 192 ∧ r.2 ≤ 192
theorem shR_mk {ls : List LY} {rd : List (Nat × Nat)} {x y : Int} {ms : List MV} {a b m : Nat} (hp : Paired RdOf rd ls) (hw : WinR x y ms b) (ha : ∀ r ∈ rd, r.1 ≤ a) (hb : b ≤ a) (hm : a = b ∨ ∃ r ∈ rd, r.1 = a) (m1 : 1 ≤ m)
    (hd : ∀ r ∈ rd, r.2 ∣ m) (hl : ∀ n, (∀ r ∈ rd, r.2 ∣ n) → m ∣ n) : ShR ls x y ms a m := by
  refine ⟨m1, fun l hl t ht => ?_, fun t ht => hw.per t (by omega), fun n hn => hl n fun r hr => ?_, fun c hc => ?_⟩
  · obtain ⟨r, hr, f, _⟩ := Paired.mem2 hp hl
    obtain ⟨k, rfl⟩ := hd r hr
    exact per_mul f.per k t (by have := ha r hr; omega)
  · obtain ⟨l, hl', f, _⟩ := Paired.mem1 hp hr
    exact hn l hl' r.1 r.2 f
  · rcases hm with e | ⟨r, hr, e⟩
    · exact .inr (hw.fst c (by omega))
    · obtain ⟨l, hl', f, _⟩ := Paired.mem1 hp hr
      refine .inl ⟨l, hl', fun z => f.fst c (by omega) ?_⟩
      obtain ⟨k, hk⟩ := hd r hr
      obtain ⟨j, rfl⟩ : ∃ j, k = j + 1 := ⟨k - 1, by
        rcases Nat.eq_zero_or_pos k with z | z
        · rw [z] at hk
          omega
        · omega⟩
      have e2 := per_mul f.per j (c + r.2) (by have := f.m1; omega)
      rw [show c + r.2 + r.2 * j = c + m by rw [hk, Nat.mul_succ]; omega, z] at e2
      exact e2.symm
theorem ShR.pic_eq {ls : List LY} {x y : Int} {ms : List MV} {a m : Nat} (h : ShR ls x y ms a m) {t : Nat} (ht : a ≤ t) (k : Nat) : pic ls x y ms ((t + m * k : Nat) : Int) = pic ls x y ms (t : Int) := by
  refine Prod.ext ?_ ?_
  · exact List.map_congr_left fun l hl => per_mul (h.perL l hl) k t ht
  · have := per_mul (f := fun t => (0 : Int)) (A := 0) (m := 1) (fun _ _ => rfl)
    have e : ∀ n, plN x y ms (t + n) = plN x y ms t := fun n => by
      induction n with
      | zero => rfl
      | succ n ih => rw [← Nat.add_assoc, h.perW _ (by omega), ih]
    exact e (m * k)
theorem ShR.pic_ne {ls : List LY} {x y : Int} {ms : List MV} {a m : Nat} (h : ShR ls x y ms a m) {b : Nat} (hb : b + 1 = a) : pic ls x y ms (b : Int) ≠ pic ls x y ms ((b + m : Nat) : Int) := fun e => by
  rcases h.fst b hb with ⟨l, hl, hn⟩ | hn
  · exact hn (List.map_inj_left.mp (congrArg Prod.fst e) l hl).symm
  · refine hn ?_
    have e1 : plN x y ms b = plN x y ms (b + m) := congrArg Prod.snd e
    have e2 : ∀ n, plN x y ms (b + 1 + n) = plN x y ms (b + 1) := fun n => by
      induction n with
      | zero => rfl
      | succ n ih => rw [← Nat.add_assoc, h.perW _ (by omega), ih]
    have m1 := h.m1
    have e3 := e2 (m - 1)
    rw [show b + 1 + (m - 1) = b + m by omega] at e3
    rw [e1, e3]
theorem winR_of {x y : Int} {ms : List MV} {L b : Nat} (vm : ∀ m ∈ ms, VMove m) (hL : (L : Int) = mtot ms) (hb : b ≤ L) (hp : ∀ t, b ≤ t → t < L → plN x y ms (t + 1) = plN x y ms t) (hf : ∀ c, c + 1 = b → plN x y ms (c + 1) ≠ plN x y ms c) : WinR x y ms b := by
  refine ⟨fun t ht => ?_, hf⟩
  rcases Nat.lt_or_ge t L with z | z
  · exact hp t ht z
  · exact plc_far ms x y _ _ vm (by omega) (by omega)
/-- the step of the law's own reckoning of a common multiple -/
theorem lcm_step {s z k : Nat} (s1 : 1 ≤ s) (z1 : 1 ≤ z) (k1 : 1 ≤ k) (hd : z ∣ s * k) (hmin : ∀ j, 1 ≤ j → j < k → ¬ z ∣ s * j) : s * k = Nat.lcm s z := by
  obtain ⟨j, hj⟩ := Nat.dvd_lcm_left s z
  have lp : 0 < Nat.lcm s z := Nat.lcm_pos (by omega) (by omega)
  have j1 : 1 ≤ j := by
    rcases Nat.eq_zero_or_pos j with e | e
    · rw [e] at hj
      omega
    · exact e
  have h1 : Nat.lcm s z ∣ s * k := Nat.lcm_dvd (Nat.dvd_mul_right s k) hd
  have h2 : k ≤ j := Nat.le_of_not_lt fun lt => hmin j j1 lt (by rw [← hj]; exact Nat.dvd_lcm_right s z)
  have h3 := Nat.le_of_dvd (Nat.mul_pos (by omega) (by omega)) h1
  have h4 : s * k ≤ s * j := Nat.mul_le_mul_left s h2
  omega
theorem lcm_le {s z : Nat} (h : 0 < Nat.gcd s z) : Nat.lcm s z ≤ s * z := by
  unfold Nat.lcm
  exact Nat.div_le_self _ _

theorem sl_any {K : PySem.W.Frag} {H : Hp} {a : Addr} {xs : List V} {lo hi : Option Int} {R : VK} (hS : SqT K H a xs) (h : ∀ H' p, Same H H' → SqT K H' p (cutV xs lo hi) → R (.ref p) H') : rSlA K (.ref a) lo hi H R :=
  ⟨a, xs, rfl, hS, fun w => h H a (Same.refl _) (by rw [cut_whole w]; exact hS), fun _ p np => h _ p (same_upd np) (.inl (.inl upd_same))⟩
theorem cat_any {K : PySem.W.Frag} {H : Hp} {a b : Addr} {xs ys : List V} {R : VK} (ha : SqT K H a xs) (hb : SqT K H b ys) (hz : xs.length + ys.length ≤ 1000) (h : ∀ H' p, Same H H' → SqT K H' p (xs ++ ys) → R (.ref p) H') : rCatA K (.ref a) (.ref b) H R :=
  ⟨a, b, xs, ys, rfl, rfl, ha, hb, Nat.le_of_lt (small1000 hz), fun e => h H b (Same.refl _) (by rw [e]; exact hb), fun _ e => h H a (Same.refl _) (by rw [e, List.append_nil]; exact ha), fun _ _ p np => h _ p (same_upd np) (.inl (.inl upd_same))⟩
theorem Sd.st {k : Nat} {x : Str} (h : PyData.strOk x = true) : Sd k (.str x) := ⟨h, Nat.zero_le _⟩
theorem sd_mv (m : MV) : Sd 1 (mvD m) := Sd.tup fun e he => by
  rcases mem3 he with rfl | rfl | rfl <;> exact Sd.int _
theorem sd_bk (o : Option Int) : Sd 0 (bkD o) := by
  cases o with
  | none => exact Sd.none
  | some i => exact Sd.int i
theorem sd_ly (l : LY) : Sd 3 (lyD l) := Sd.tup fun e he => by
  rcases mem2 he with rfl | rfl
  · exact Sd.tup fun z hz => by
      obtain ⟨r, _, rfl⟩ := List.mem_map.mp hz
      exact sd_rw r
  · exact (sd_bk _).more (by omega)
theorem sd_win (x y : Int) (ms : List MV) : Sd 3 (winD x y ms) := Sd.tup fun e he => by
  rcases mem3 he with rfl | rfl | rfl
  · exact Sd.int _
  · exact Sd.int _
  · exact Sd.tup fun z hz => by
      obtain ⟨m, _, rfl⟩ := List.mem_map.mp hz
      exact sd_mv m
theorem sd_sh (ls : List LY) (x y : Int) (ms : List MV) : Sd 5 (shD ls x y ms) := Sd.tup fun e he => by
  rcases mem2 he with rfl | rfl
  · exact Sd.tup fun z hz => by
      obtain ⟨l, _, rfl⟩ := List.mem_map.mp hz
      exact sd_ly l
  · exact (sd_win x y ms).more (by omega)
/-- what met tells, as data -/
def toldD (d : PyData) : PyData := .tuple [.str "told", d]
def refD (i : Int) : PyData := .tuple [.str "refused", .int i]
def manyD (m n : Int) : PyData := .tuple [.str "many", .tuple [.int m, .int n]]
theorem sd_told {k : Nat} {d : PyData} (h : Sd k d) : Sd (k + 1) (toldD d) := Sd.tup fun e he => by
  rcases mem2 he with rfl | rfl
  · exact Sd.st (by decide +kernel)
  · exact h
theorem sd_ref (i : Int) : Sd 1 (refD i) := Sd.tup fun e he => by
  rcases mem2 he with rfl | rfl
  · exact Sd.st (by decide +kernel)
  · exact Sd.int i
theorem sd_many (m n : Int) : Sd 2 (manyD m n) := Sd.tup fun e he => by
  rcases mem2 he with rfl | rfl
  · exact Sd.st (by decide +kernel)
  · exact Sd.tup fun z hz => by rcases mem2 hz with rfl | rfl <;> exact Sd.int _
theorem told_dp {K : PySem.W.Frag} {H : Hp} {p : Addr} {v : V} {d : PyData} (h : SqT K H p [.str "told", v]) (hv : Dp K H v d) : Dp K H (.ref p) (toldD d) := .tup h (.cons (.str _) (.cons hv .nil))
theorem ref_dp {K : PySem.W.Frag} {H : Hp} {p : Addr} {i : Int} (h : SqT K H p [.str "refused", .int i]) : Dp K H (.ref p) (refD i) := .tup h (.cons (.str _) (.cons (.int i) .nil))
theorem many_dp {K : PySem.W.Frag} {H : Hp} {p q : Addr} {m n : Int} (h : SqT K H p [.str "many", .ref q]) (hq : SqT K H q [.int m, .int n]) : Dp K H (.ref p) (manyD m n) := .tup h (.cons (.str _) (.cons (.tup hq (.cons (.int m) (.cons (.int n) .nil))) .nil))
/-- != of two things of the same data -/
theorem ne_eqd {K : PySem.W.Frag} {H : Hp} {x y : V} {d : PyData} {Q : VK} (hx : Dp K H x d) (hy : Dp K H y d) (sd : ∃ k, Sd k d ∧ k ≤ 64) (q : Q (.bl false) H) : rNeD K x y H Q := by
  obtain ⟨k, s, hk⟩ := sd
  exact ne_same hx hy s hk q
/-- data that stands as long as the tuples do -/
def Dk (K : PySem.W.Frag) (H : Hp) (v : V) (d : PyData) : Prop := ∀ H', TKeep K H H' → Dp K H' v d
theorem Dk.keep {K : PySem.W.Frag} {H H' : Hp} {v : V} {d : PyData} (h : Dk K H v d) (k : TKeep K H H') : Dk K H' v d := fun H2 k2 => h H2 fun a xs z => k2 _ _ (k _ _ z)
theorem Dk.dp {K : PySem.W.Frag} {H : Hp} {v : V} {d : PyData} (h : Dk K H v d) : Dp K H v d := h H fun _ _ z => z
theorem ShAt.dk {K : PySem.W.Frag} {H : Hp} {v : V} {ls : List LY} {x y : Int} {ms : List MV} (h : ShAt K H v ls x y ms) : Dk K H v (shD ls x y ms) := fun H' k => (h.keep k).dp
theorem LyAt.dk {K : PySem.W.Frag} {H : Hp} {v : V} {l : LY} (h : LyAt K H v l) : Dk K H v (lyD l) := fun H' k => (LyAt.keep k h).dp
theorem told_dk {K : PySem.W.Frag} {H : Hp} {p : Addr} {v : V} {d : PyData} (h : SqT K H p [.str "told", v]) (hv : Dk K H v d) : Dk K H (.ref p) (toldD d) := fun H' k => told_dp (k _ _ h) (hv H' k)
theorem ref_dk {K : PySem.W.Frag} {H : Hp} {p : Addr} {i : Int} (h : SqT K H p [.str "refused", .int i]) : Dk K H (.ref p) (refD i) := fun H' k => ref_dp (k _ _ h)
theorem many_dk {K : PySem.W.Frag} {H : Hp} {p q : Addr} {m n : Int} (h : SqT K H p [.str "many", .ref q]) (hq : SqT K H q [.int m, .int n]) : Dk K H (.ref p) (manyD m n) := fun H' k => many_dp (k _ _ h) (k _ _ hq)
theorem pi_listK {X : Cx} {K : PySem.W.Frag} {tg l : Expr} {tl : TE} (hl : PE X l tl) (hK : X.K = K := by rfl) : PI X tg l (iList K tl) := by
  subst hK
  exact pi_list hl
theorem pi_tupK {X : Cx} {K : PySem.W.Frag} {tg l : Expr} {tl : TE} (hl : PE X l tl) (hK : X.K = K := by rfl) : PI X tg l (iTup K tl) := by
  subst hK
  exact pi_tup hl
/-- is not, of two truths -/
theorem op_notB {X : Cx} : OpR X (compareOp .IsNot) (fun x y H Q => ∃ a b, x = .bl a ∧ y = .bl b ∧ Q (.bl (!decide (a = b))) H) := by
  intro pins s σ H x y v u Q I rx ry h
  obtain ⟨a, b, rfl, rfl, q⟩ := h
  cases rx
  cases ry
  show wpAny _ _ ((isSame (Value.bool a) (Value.bool b)) >>= fun z => pure (Value.bool (!z))) _ _ s
  exact wpAny_bind (wpAny_isSame_plain rfl (wpAny_pure (fin_bl I q (by cases a <;> cases b <;> rfl))))

/-! ### min(xs, default=None) of a list of ints -/
theorem reads_ints {h : Heap} : ∀ {us : List Value} {ns : List Int}, IntsAre us ns → ReadsAll h us (ns.map PyData.int) []
  | _, _, .nil => .nil
  | _, _, .cons k t r => ReadsAll.cons (as := []) (bs := []) (.int k t) (reads_ints r)
theorem foldl_min : ∀ (ns : List Int) (n : Int), (ns.foldl min n ∈ n :: ns) ∧ ∀ y ∈ n :: ns, ns.foldl min n ≤ y
  | [], n => ⟨by simp, fun y hy => by rw [List.mem_singleton.mp hy]; exact Int.le_refl _⟩
  | a :: ns, n => by
    obtain ⟨h1, h2⟩ := foldl_min ns (min n a)
    refine ⟨?_, fun y hy => ?_⟩
    · show ns.foldl min (min n a) ∈ _
      rcases List.mem_cons.mp h1 with e | e
      · rw [e]
        rcases Int.le_total n a with c | c
        · rw [Int.min_eq_left c]
          simp
        · rw [Int.min_eq_right c]
          simp
      · exact List.mem_cons_of_mem _ (List.mem_cons_of_mem _ e)
    · show ns.foldl min (min n a) ≤ y
      have h0 := h2 (min n a) (by simp)
      rcases List.mem_cons.mp hy with e | hy
      · rw [e]
        exact Int.le_trans h0 (Int.min_le_left ..)
      · rcases List.mem_cons.mp hy with e | hy
        · rw [e]
          exact Int.le_trans h0 (Int.min_le_right ..)
        · exact h2 y (List.mem_cons_of_mem _ hy)
def rMinD (K : PySem.W.Frag) : List V → List V → Hp → VK → Prop := fun vs zs H Q => ∃ (a : Addr) (ns : List Int), vs = [.ref a] ∧ zs = [.non] ∧ SqL K H a (ns.map V.int) ∧ (ns = [] → Q .non H) ∧ ∀ m ∈ ns, (∀ y ∈ ns, m ≤ y) → Q (.int m) H
theorem depth_ints : ∀ ns : List Int, PyData.depthAll (ns.map PyData.int) ≤ 1
  | [] => by
    unfold List.map PyData.depthAll
    exact Nat.zero_le _
  | n :: ns => by
    have := depth_ints ns
    rw [List.map_cons]
    unfold PyData.depthAll PyData.depth
    omega
theorem cr_minD {X : Cx} (hc : X.calm = true) (hu : X.A.units + 64 < cLine) : CallRK X (.builtin "min") [Str.ofString "default"] (rMinD X.K) := by
  intro pins s σ H vs zs us ws Q I r rz h
  obtain ⟨a, ns, rfl, rfl, hs, q0, q⟩ := h
  obtain rfl := Vals.ref1 r
  obtain ⟨w1, rfl, e1⟩ := vals1 rz
  obtain rfl : w1 = Value.none := e1
  obtain ⟨its, rv, hl, _⟩ := I.list hs
  have dl := depth_ints ns
  refine PySem.W.min_list_default (xs := ns.map PyData.int) (I.ok.hd hc) hl.isList (reads_ints rv.ints) ⟨fun x hx y hy => ?_, fun x hx => ?_⟩ (by omega) (fun e h' tk k => ?_) fun y ys i v h' tk bs e hv rd k => ?_
  · obtain ⟨m, _, rfl⟩ := List.mem_map.mp hx
    obtain ⟨n, _, rfl⟩ := List.mem_map.mp hy
    rfl
  · obtain ⟨m, _, rfl⟩ := List.mem_map.mp hx
    exact fun z => by cases z
  · exact ⟨.non, H, I.kept k, rfl, q0 (List.map_eq_nil_iff.mp e)⟩
  · cases ns with
    | nil => cases e
    | cons n ns =>
      cases e
      rw [PySem.W.minD_ints] at rd
      obtain ⟨f1, f2⟩ := foldl_min ns n
      cases rd
      exact ⟨.int _, H, I.kept k, ⟨_, rfl⟩, q _ f1 f2⟩

/-! ### tuple(zip(xs, ys)), two lists of one length -/
theorem zip_nolen : typeLookup (.type "zip") "__len__" = pure none := by rw [typeLookup_type, builtinLookup_eq_fast]; kernel_rfl
theorem zip_nohint : typeLookup (.type "zip") "__length_hint__" = pure none := by rw [typeLookup_type, builtinLookup_eq_fast]; kernel_rfl
/-- a zip on its way, what it told so far may be held -/
structure Zst (S z TI TO i1 i2 l1 l2 : Addr) (xs ys : Array Value) (i : Nat) (h : Heap) : Prop where
  ti : IsPair h TI (.ref i1) (.ref i2)
  a1 : h.IsListIter i1 l1 i
  a2 : h.IsListIter i2 l2 i
  b1 : h.IsList l1 xs
  b2 : h.IsList l2 ys
  zz : (IsZip h z TI TO .none ∧ ∃ a b, IsPair h TO a b) ∨ ∃ T f oT, IsZipHeld h z TI TO T f ∧ h.get? T = some oT ∧ T ≠ z ∧ T ≠ i1 ∧ T ≠ i2 ∧ T ≠ S
section
variable {P : Program} {w : World} {A : Around} {E : Value → Shared → Prop} {s : Shared} {S z TI TO i1 i2 l1 l2 : Addr} {xs ys : Array Value}
theorem Zst.keep {i : Nat} {h h' : Heap} (x : Zst S z TI TO i1 i2 l1 l2 xs ys i h) (d : S ∉ [z, TI, TO, i1, i2, l1, l2]) (k : ∀ b o, b ≠ S → h.get? b = some o → h'.get? b = some o) : Zst S z TI TO i1 i2 l1 l2 xs ys i h' := by
  simp only [List.mem_cons, List.not_mem_nil, or_false, not_or] at d
  obtain ⟨d1, d2, d3, d4, d5, d6, d7⟩ := d
  refine ⟨k _ _ (Ne.symm d2) x.ti, x.a1.at fun o e => k _ o (Ne.symm d4) e, x.a2.at fun o e => k _ o (Ne.symm d5) e, x.b1.at fun o e => k _ o (Ne.symm d6) e, x.b2.at fun o e => k _ o (Ne.symm d7) e, ?_⟩
  rcases x.zz with ⟨q, a, b, r⟩ | ⟨T, f, oT, q, r, n1, n2, n3, n4⟩
  · exact .inl ⟨k _ _ (Ne.symm d1) q, a, b, k _ _ (Ne.symm d3) r⟩
  · exact .inr ⟨T, f, oT, k _ _ (Ne.symm d1) q, k _ _ n4 r, n1, n2, n3, n4⟩
/-- one more pair -/
theorem zst_next {i : Nat} {x y : Value} {Q : Option Value → Shared → Prop} (D : ZipApart z TI TO i1 i2 l1 l2) (st : Zst S z TI TO i1 i2 l1 l2 xs ys i s.heap) (hS : S < s.heap.objs.size) (hx : xs[i]? = some x) (hy : ys[i]? = some y)
    (q : ∀ h', Zst S z TI TO i1 i2 l1 l2 xs ys (i + 1) h' → IsPair h' s.heap.objs.size x y → h'.objs.size = s.heap.objs.size + 1 → (∀ b o, b ∉ [z, TO, i1, i2] → s.heap.get? b = some o → h'.get? b = some o) → Q (some (.ref s.heap.objs.size)) { s with heap := h' }) :
    wpAny (model P w) A (pyNext (.ref z)) Q E s := by
  have far : ∀ {c : Addr} {o : Obj}, s.heap.get? c = some o → s.heap.objs.size ≠ c := fun e => Nat.ne_of_gt (Heap.lt_size e)
  have f1 : s.heap.objs.size ≠ i1 := let ⟨_, e, _⟩ := st.a1; far e
  have f2 : s.heap.objs.size ≠ i2 := let ⟨_, e, _⟩ := st.a2; far e
  rcases st.zz with ⟨hz, a, b, hTO⟩ | ⟨T, f, oT, hz, hT, n1, n2, n3, n4⟩
  · refine wpAny_pyNext_zip_item D hz st.ti hTO st.a1 st.a2 st.b1 st.b2 hx hy fun h' c1 c2 c3 c4 c5 c6 k => q h' ⟨k _ _ D.TIz D.TITO D.TIi1 D.TIi2 st.ti, c3, c4, st.b1.at fun o e => k _ o D.l1z D.l1TO D.l1i1 D.l1i2 e, st.b2.at fun o e => k _ o D.l2z D.l2TO D.l2i1 D.l2i2 e,
      .inr ⟨_, false, _, c1, c5, far hz, f1, f2, Nat.ne_of_gt hS⟩⟩ c5 c6 fun b o nb e => ?_
    simp only [List.mem_cons, List.not_mem_nil, or_false, not_or] at nb
    exact k b o nb.1 nb.2.1 nb.2.2.1 nb.2.2.2 e
  · refine wpAny_pyNext_zip_item_held D hz hT st.ti st.a1 st.a2 st.b1 st.b2 hx hy fun h' c1 c3 c4 c5 c6 k => q h' ⟨k _ _ D.TIz D.TIi1 D.TIi2 st.ti, c3, c4, st.b1.at fun o e => k _ o D.l1z D.l1i1 D.l1i2 e, st.b2.at fun o e => k _ o D.l2z D.l2i1 D.l2i2 e,
      .inr ⟨T, true, oT, c1, k _ _ n1 n2 n3 hT, n1, n2, n3, n4⟩⟩ c5 c6 fun b o nb e => ?_
    simp only [List.mem_cons, List.not_mem_nil, or_false, not_or] at nb
    exact k b o nb.1 nb.2.2.1 nb.2.2.2 e
theorem zst_end {Q : Option Value → Shared → Prop} (hh : A.handled = none) (D : ZipApart z TI TO i1 i2 l1 l2) (st : Zst S z TI TO i1 i2 l1 l2 xs ys xs.size s.heap)
    (q : ∀ h', (∀ b o, b ∉ [z, TO, i1, i2] → s.heap.get? b = some o → h'.get? b = some o) → Q none { s with heap := h' }) : wpAny (model P w) A (pyNext (.ref z)) Q E s := by
  have e : xs[xs.size]? = none ∨ ys[xs.size]? = none := .inl (Array.getElem?_eq_none (Nat.le_refl _))
  rcases st.zz with ⟨hz, a, b, hTO⟩ | ⟨T, f, oT, hz, hT, _⟩
  · refine wpAny_pyNext_zip_end hh D hz st.ti hTO st.a1 st.a2 st.b1 st.b2 e fun h' k => q h' fun b o nb e => ?_
    simp only [List.mem_cons, List.not_mem_nil, or_false, not_or] at nb
    exact k b o nb.1 nb.2.1 nb.2.2.1 nb.2.2.2 e
  · refine wpAny_pyNext_zip_end_held hh D hz hT st.ti st.a1 st.a2 st.b1 st.b2 e fun h' k => q h' fun b o nb e => ?_
    simp only [List.mem_cons, List.not_mem_nil, or_false, not_or] at nb
    exact k b o nb.1 nb.2.2.1 nb.2.2.2 e
/-- what lies there, pair by pair -/
def Lain (xs ys : Array Value) (ts : List Addr) (h : Heap) : Prop := ∀ (j : Nat) (T : Addr) (x y : Value), ts[j]? = some T → xs[j]? = some x → ys[j]? = some y → IsPair h T x y
theorem ext_zip {R : Result → Shared → Prop} (res : Value) (hh : A.handled = none) (D : ZipApart z TI TO i1 i2 l1 l2) (dS : S ∉ [z, TI, TO, i1, i2, l1, l2]) (le : xs.size = ys.size) (hn : xs.size ≤ sizeLine) (b0 : Nat) (hb0 : ∀ b ∈ [z, TO, i1, i2, S], b < b0) :
    ∀ (k i : Nat) (s : Shared) (ts : List Addr) (c : Nat), i + k = xs.size → Zst S z TI TO i1 i2 l1 l2 xs ys i s.heap → s.heap.get? S = some { cls := .type "list", dict := none, data := .seq (ts.map Value.ref).toArray c, slots := #[] } →
    ts.length = i → ts.Pairwise (· < ·) → (∀ T ∈ ts, b0 ≤ T ∧ T < s.heap.objs.size) → b0 ≤ s.heap.objs.size → Lain xs ys ts s.heap →
    (∀ (h' : Heap) (ts' : List Addr) (c' : Nat), (∀ b o, b ∉ [z, TO, i1, i2, S] → s.heap.get? b = some o → h'.get? b = some o) → h'.get? S = some { cls := .type "list", dict := none, data := .seq (ts'.map Value.ref).toArray c', slots := #[] } →
      ts'.length = xs.size → ts'.Pairwise (· < ·) → (∀ T ∈ ts', b0 ≤ T) → Lain xs ys ts' h' → R (.ok (.ret res)) { s with heap := h' }) →
    codeAny (model P w) A (.builtin "list.extend.loop" ⟨[.ref S, .ref z, res], []⟩) R s := by
  have sub : ∀ {b : Addr}, b ∉ [z, TO, i1, i2, S] → b ∉ [z, TO, i1, i2] := fun h m => h (by
    simp only [List.mem_cons, List.not_mem_nil, or_false] at m ⊢
    rcases m with e | e | e | e <;> simp [e])
  have notS : S ∉ [z, TO, i1, i2] := fun m => dS (by
    simp only [List.mem_cons, List.not_mem_nil, or_false] at m ⊢
    rcases m with e | e | e | e <;> simp [e])
  have offT : ∀ {T : Addr}, b0 ≤ T → T ∉ [z, TO, i1, i2, S] := fun h m => absurd (hb0 _ m) (Nat.not_lt.mpr h)
  intro k
  induction k with
  | zero =>
    intro i s ts c hk st gS hl hp hT hb la R'
    have e : i = xs.size := by omega
    subst e
    refine codeAny_builtin F.entry_extend_loop ?_
    rw [Around.under_plainId F.plain_extend_loop _]
    show wpAny _ A.in1 (pyNext (.ref z) >>= _) _ _ s
    refine wpAny_bind (zst_end (by simp [hh]) D st fun h' kp => wpAny_pure (R' h' ts c (fun b o nb e => kp b o (sub nb) e) (kp _ _ notS gS) hl hp (fun T m => (hT T m).1) fun j T x y e1 e2 e3 => kp _ _ (sub (offT (hT T (List.mem_of_getElem? e1)).1)) (la j T x y e1 e2 e3)))
  | succ k ih =>
    intro i s ts c hk st gS hl hp hT hb la R'
    have i1' : i < xs.size := by omega
    have i2' : i < ys.size := by omega
    refine codeAny_builtin F.entry_extend_loop ?_
    rw [Around.under_plainId F.plain_extend_loop _]
    show wpAny _ A.in1 (pyNext (.ref z) >>= _) _ _ s
    refine wpAny_bind (zst_next D st (Heap.lt_size gS) (Array.getElem?_eq_getElem i1') (Array.getElem?_eq_getElem i2') fun h' st' pr sz kp => ?_)
    have gS' := kp _ _ notS gS
    have oth : ∀ b o, b ≠ S → h'.get? b = some o → (h'.update S (Obj.mapSeq (·.push (.ref s.heap.objs.size)))).get? b = some o := fun b o nb e => (Heap.get?_update_other _ _ (Ne.symm nb)).trans e
    have eq : ((ts ++ [s.heap.objs.size]).map Value.ref).toArray = (ts.map Value.ref).toArray.push (.ref s.heap.objs.size) := by simp
    have neS : ∀ {T : Addr}, b0 ≤ T → T ≠ S := fun h e => offT h (by simp [e])
    show wpAny _ A.in1 (updateSeq S (·.push (.ref s.heap.objs.size)) >>= _) _ _ _
    refine wpAny_bind (wpAny_updateSeq gS' rfl (wpAny_pure ⟨plainId_quiet F.plain_extend_loop _, ih (i + 1) _ (ts ++ [s.heap.objs.size]) _ (by omega) (st'.keep dS oth) (by rw [eq]; exact Heap.get?_update_self _ gS' rfl) (by rw [List.length_append, hl]; rfl)
      (List.pairwise_append.mpr ⟨hp, List.pairwise_singleton _ _, fun a ha b hb => by rw [List.mem_singleton.mp hb]; exact (hT a ha).2⟩) ?_ ?_ ?_ ?_⟩) (by simp [hl]; omega) (by simp [hl]; omega))
    · intro T m
      show b0 ≤ T ∧ T < (h'.update S _).objs.size
      rw [Heap.size_update, sz]
      rcases List.mem_append.mp m with m | m
      · exact ⟨(hT T m).1, Nat.lt_succ_of_lt (hT T m).2⟩
      · rw [List.mem_singleton.mp m]
        exact ⟨hb, Nat.lt_succ_self _⟩
    · show b0 ≤ (h'.update S _).objs.size
      rw [Heap.size_update, sz]
      exact Nat.le_succ_of_le hb
    · intro j T x y e1 e2 e3
      rcases Nat.lt_or_ge j ts.length with lt | ge
      · rw [List.getElem?_append_left lt] at e1
        have bT := (hT T (List.mem_of_getElem? e1)).1
        exact oth _ _ (neS bT) (kp _ _ (sub (offT bT)) (la j T x y e1 e2 e3))
      · rw [List.getElem?_append_right ge] at e1
        have ej : j = i := by
          rcases Nat.lt_or_ge (j - ts.length) 1 with z | z
          · omega
          · rw [List.getElem?_eq_none (by simpa using z)] at e1
            cases e1
        subst ej
        rw [hl, Nat.sub_self] at e1
        have eT : s.heap.objs.size = T := by simpa using e1
        rw [Array.getElem?_eq_getElem i1'] at e2
        rw [Array.getElem?_eq_getElem i2'] at e3
        cases e2
        cases e3
        subst eT
        exact oth _ _ (neS hb) pr
    · intro h2 ts' c' k2 g2 l2' p2 t2 la2
      exact R' h2 ts' c' (fun b o nb e => k2 b o nb (oth b o (fun e => nb (by simp [e])) (kp b o (sub nb) e))) g2 l2' p2 t2 la2
end

section
variable {P : Program} {w : World} {A : Around} {E : Value → Shared → Prop} {s : Shared} {z TI TO i1 i2 l1 l2 : Addr} {xs ys : Array Value}
theorem collect_zip {Q : List Value → Shared → Prop} (hh : A.handled = none) (D : ZipApart z TI TO i1 i2 l1 l2) (st : Zst s.heap.objs.size z TI TO i1 i2 l1 l2 xs ys 0 s.heap) (hz : IsZip s.heap z TI TO .none) (le : xs.size = ys.size) (hn : xs.size ≤ sizeLine) (hf : ∀ b ∈ [z, TI, TO, i1, i2, l1, l2], b < s.heap.objs.size)
    (q : ∀ (h' : Heap) (ts : List Addr), (∀ b o, b ∉ [z, TO, i1, i2] → s.heap.get? b = some o → h'.get? b = some o) → ts.length = xs.size → ts.Pairwise (· < ·) → (∀ T ∈ ts, s.heap.objs.size ≤ T) → Lain xs ys ts h' → s.heap.objs.size ≤ h'.objs.size → Q (ts.map Value.ref) { s with heap := h' }) :
    wpAny (model P w) A (collect (.ref z)) Q E s := by
  have dS : s.heap.objs.size ∉ [z, TI, TO, i1, i2, l1, l2] := fun m => Nat.lt_irrefl _ (hf _ m)
  have nz : s.heap.objs.size ≠ z := fun e => dS (by simp [e])
  unfold collect
  refine wpAny_bind (wpAny_runValue (codeAny_builtin F.entry_proto_collect ?_))
  rw [Around.under_plainId F.plain_proto_collect _]
  show wpAny _ A.in1 (newList [] >>= fun l' => again (.builtin "list.__iadd__" ⟨[l', .ref z], []⟩)) _ _ s
  refine wpAny_bind (wpAny_newObj_type (wpAny_pure ⟨plainId_quiet F.plain_list_iadd _, codeAny_builtin F.entry_list_iadd ?_⟩))
  rw [Around.under_plainId F.plain_list_iadd _]
  have gS : (s.heap.push { cls := .type "list", data := .seq ([] : List Value).toArray }).get? s.heap.objs.size = some { cls := .type "list", data := .seq ([] : List Value).toArray } := Heap.get?_push_size _ rfl
  have kp0 : ∀ b o, s.heap.get? b = some o → (s.heap.push { cls := .type "list", data := .seq ([] : List Value).toArray }).get? b = some o := fun b o e => Heap.get?_push_of_some _ e
  have sz0 : (s.heap.push { cls := .type "list", data := .seq ([] : List Value).toArray }).objs.size = s.heap.objs.size + 1 := Heap.size_push ..
  generalize s.heap.push { cls := .type "list", data := .seq ([] : List Value).toArray } = h0 at gS kp0 sz0 ⊢
  have ty : Shared.TypeIs { s with heap := h0 } (.ref z) "zip" := ⟨_, kp0 _ _ hz, rfl⟩
  have f1 : Builtin.List.listSameRef (.ref s.heap.objs.size) (.ref z) = false := by simp [Builtin.List.listSameRef, nz]
  have f2 : (Value.type "zip" == Value.type "list") = false := by decide
  have f3 : (Value.type "zip" == Value.type "tuple") = false := by decide
  show wpAny _ A.in1 (Builtin.List.listExtendWith (.ref s.heap.objs.size) (.ref z) (.ref s.heap.objs.size)) _ _ _
  unfold Builtin.List.listExtendWith
  refine wpAny_bind (wpAny_typeOf ty ?_)
  simp only [f1, f2, f3, Bool.or_false, Bool.false_eq_true, if_false]
  refine wpAny_bind (wpAny_pyIter_zip (s := { s with heap := h0 }) (kp0 _ _ hz) (wpAny_bind (wpAny_holding ?_)))
  unfold Builtin.List.listLengthHint
  refine wpAny_bind (wpAny_specialOf ty zip_nolen ?_)
  show wpAny _ A.in1 (specialOf (Value.ref z) (Str.ofString "__length_hint__") >>= _) _ _ _
  refine wpAny_bind (wpAny_specialOf ty zip_nohint (wpAny_pure ?_))
  show wpAny _ A.in1 (rule "list.extend.makes-room" >>= fun _ => Builtin.List.listTouch (.ref s.heap.objs.size) >>= fun _ =>
    again (.builtin "list.extend.loop" ⟨[.ref s.heap.objs.size, .ref z, .ref s.heap.objs.size], []⟩)) _ _ _
  refine wpAny_bind (wpAny_rule (wpAny_bind ?_))
  show wpAny _ A.in1 (updateSeq s.heap.objs.size (·.push .none) >>= fun _ => updateSeq s.heap.objs.size (·.pop)) _ _ _
  refine wpAny_bind (wpAny_updateSeq gS rfl ?_)
  have g1 := Heap.get?_update_self (Obj.mapSeq (·.push Value.none)) gS rfl
  refine wpAny_updateSeq g1 rfl ?_
  have g2 := Heap.get?_update_self (Obj.mapSeq (·.pop)) g1 rfl
  have k2 : ∀ b o, b ≠ s.heap.objs.size → h0.get? b = some o → ((h0.update s.heap.objs.size (Obj.mapSeq (·.push Value.none))).update s.heap.objs.size (Obj.mapSeq (·.pop))).get? b = some o :=
    fun b o nb e => (Heap.get?_update_other _ _ (Ne.symm nb)).trans ((Heap.get?_update_other _ _ (Ne.symm nb)).trans e)
  have sz2 : ((h0.update s.heap.objs.size (Obj.mapSeq (·.push Value.none))).update s.heap.objs.size (Obj.mapSeq (·.pop))).objs.size = s.heap.objs.size + 1 := by rw [Heap.size_update, Heap.size_update, sz0]
  refine wpAny_pure ⟨plainId_quiet F.plain_extend_loop _, ext_zip (S := s.heap.objs.size) (.ref s.heap.objs.size) (by simp [hh]) D dS le hn (s.heap.objs.size + 1) (fun b hb => ?_) xs.size 0 _ [] _ (Nat.zero_add _) (st.keep dS fun b o nb e => k2 b o nb (kp0 b o e)) g2 rfl .nil (fun T m => by cases m) (by rw [sz2]; exact Nat.le_refl _) (fun j T x y e => by cases e) fun h' ts c kp gS' lt pt bt la => ?_⟩
  · rcases List.mem_cons.mp hb with e | hb
    · exact Nat.lt_succ_of_lt (hf b (by simp [e]))
    simp only [List.mem_cons, List.not_mem_nil, or_false] at hb
    rcases hb with e | e | e | e
    · exact Nat.lt_succ_of_lt (hf b (by simp [e]))
    · exact Nat.lt_succ_of_lt (hf b (by simp [e]))
    · exact Nat.lt_succ_of_lt (hf b (by simp [e]))
    · rw [e]
      exact Nat.lt_succ_self _
  · show wpAny _ A (load s.heap.objs.size >>= _) _ _ _
    refine wpAny_bind (wpAny_load gS' (wpAny_pure ?_))
    have el : (ts.map Value.ref).toArray.toList = ts.map Value.ref := by simp
    show Q (ts.map Value.ref).toArray.toList _
    rw [el]
    refine q h' ts (fun b o nb e => kp b o (fun m => ?_) (k2 b o (Nat.ne_of_lt (Heap.lt_size e)) (kp0 b o e))) lt pt (fun T m => Nat.le_of_succ_le (bt T m)) la (Nat.le_of_lt (Heap.lt_size gS'))
    simp only [List.mem_cons, List.not_mem_nil, or_false] at m nb
    rcases m with e' | e' | e' | e' | e'
    · exact nb (.inl e')
    · exact nb (.inr (.inl e'))
    · exact nb (.inr (.inr (.inl e')))
    · exact nb (.inr (.inr (.inr e')))
    · rw [e'] at e
      exact absurd (Heap.lt_size e) (Nat.lt_irrefl _)
theorem tuple_zip {Q : Value → Shared → Prop} (hh : A.handled = none) (D : ZipApart z TI TO i1 i2 l1 l2) (st : Zst s.heap.objs.size z TI TO i1 i2 l1 l2 xs ys 0 s.heap) (hz : IsZip s.heap z TI TO .none) (le : xs.size = ys.size) (hn : xs.size ≤ sizeLine) (hf : ∀ b ∈ [z, TI, TO, i1, i2, l1, l2], b < s.heap.objs.size)
    (q : ∀ (h' : Heap) (ts : List Addr) (p : Addr), (∀ b o, b ∉ [z, TO, i1, i2] → s.heap.get? b = some o → h'.get? b = some o) → ts.length = xs.size → ts.Pairwise (· < ·) → (∀ T ∈ ts, s.heap.objs.size ≤ T ∧ T ≠ p) → Lain xs ys ts h' →
      s.heap.objs.size ≤ p → h'.get? p = some { cls := .type "tuple", data := .seq (ts.map Value.ref).toArray } → Q (.ref p) { s with heap := h' }) :
    wpAny (model P w) A (call (.type "tuple") [.ref z]) Q E s := by
  refine callType_codes (Q₁ := fun o t => t.TypeIs o "tuple" ∧ Q o t) F.called_tuple (F.typeCall_tuple_1 _) F.entry_object_init (codeAny_of_tree ?_) fun o t h => ⟨h.1, F.args_object_init_2 o _, object_init_meets F.called_tuple.init.lookup F.called_tuple.made (by decide) P w A.in1 _ t ⟨h.1, rfl, h.2⟩⟩
  show wpAny _ A.in1.in1 (do checkBuiltinCall "tuple.__new__" ⟨[.type "tuple", .ref z], []⟩; again (.builtin "tuple.__new__" ⟨[.type "tuple", .ref z], []⟩)) _ _ s
  refine wpAny_bind (wpAny_of_eq (F.newCall_tuple_1 _) (wpAny_pure ⟨plainId_quiet F.plain_tuple_new _, codeAny_builtin F.entry_tuple_new ?_⟩))
  rw [Around.under_plainId F.plain_tuple_new _]
  have u1 := sub_tuple_self
  have u2 := init_tuple_lookup
  have u3 := madeHere_tuple
  have ty : s.TypeIs (.ref z) "zip" := ⟨_, hz, rfl⟩
  have h3 : A.in1.in1.handled = none := by simp [hh]
  wp_walk using wpAny_typeOf ty, collect_zip (A := A.in1.in1) h3 D st hz le hn hf
  intro h' ts kp lt pt bt la ge
  show wpAny _ _ (Builtin.Tuple.tupleExact (ts.map Value.ref).toArray >>= fun v => ret v) _ _ _
  unfold Builtin.Tuple.tupleExact
  refine wpAny_bind (wpAny_newObj_type (wpAny_pure ?_) (by show (ts.map Value.ref).toArray.size ≤ sizeLine; rw [List.size_toArray, List.length_map, lt]; exact hn))
  have off : ∀ T ∈ ts, T ≠ h'.objs.size := fun T m => by
    obtain ⟨j, hj, e⟩ := List.getElem_of_mem m
    exact Nat.ne_of_lt (Heap.lt_size (la j T _ _ (by rw [List.getElem?_eq_getElem hj, e]) (Array.getElem?_eq_getElem (show j < xs.size by omega)) (Array.getElem?_eq_getElem (show j < ys.size by omega))))
  exact ⟨⟨_, Heap.get?_push_size _ rfl, rfl⟩, q _ ts _ (fun b o nb e => Heap.get?_push_of_some _ (kp b o nb e)) lt pt (fun T m => ⟨bt T m, off T m⟩) (fun j T x y e1 e2 e3 => Heap.get?_push_of_some _ (la j T x y e1 e2 e3)) ge (Heap.get?_push_size _ rfl)⟩
end
/-! ### many tuples laid at once -/
def lay2 (H : Hp) : List Addr → List V → List V → Hp
  | t :: ts, u :: us, v :: vs => upd (lay2 H ts us vs) t (.tup [u, v])
  | _, _, _ => H
theorem lay2_at {H : Hp} : ∀ {ts : List Addr} {us vs : List V}, ts.Pairwise (· < ·) → ∀ (j : Nat) (T : Addr) (u v : V), ts[j]? = some T → us[j]? = some u → vs[j]? = some v → lay2 H ts us vs T = some (.tup [u, v])
  | [], _, _, _, j, T, u, v, e, _, _ => by cases e
  | t :: ts, [], _, _, j, T, u, v, _, e, _ => by cases e
  | t :: ts, _ :: _, [], _, j, T, u, v, _, _, e => by cases e
  | t :: ts, u0 :: us, v0 :: vs, p, 0, T, u, v, e1, e2, e3 => by
    cases e1
    cases e2
    cases e3
    exact upd_same
  | t :: ts, u0 :: us, v0 :: vs, p, j + 1, T, u, v, e1, e2, e3 => by
    have ⟨p1, p2⟩ := List.pairwise_cons.mp p
    have lt := p1 T (List.mem_of_getElem? e1)
    show upd (lay2 H ts us vs) t (.tup [u0, v0]) T = _
    rw [upd_ne (Nat.ne_of_gt lt)]
    exact lay2_at p2 j T u v e1 e2 e3
theorem lay2_old {H : Hp} {b : Addr} : ∀ {ts : List Addr} {us vs : List V}, b ∉ ts → lay2 H ts us vs b = H b
  | [], _, _, _ => rfl
  | t :: ts, [], _, _ => rfl
  | t :: ts, _ :: _, [], _ => rfl
  | t :: ts, u0 :: us, v0 :: vs, n => by
    show upd (lay2 H ts us vs) t (.tup [u0, v0]) b = _
    rw [upd_ne fun e => n (by simp [e])]
    exact lay2_old fun m => n (List.mem_cons_of_mem _ m)
theorem inv_many {X : Cx} {pins : List (Addr × Obj)} {σ : L2.St} {H H' : Hp} {s : Shared} {h' : Heap} {t' : Nat} (I : Inv X pins σ H s) (k : ∀ b u, s.heap.get? b = some u → h'.get? b = some u) (ext : ∀ b o, H b = some o → H' b = some o)
    (new : ∀ b o, H' b = some o → H b = some o ∨ (s.heap.objs.size ≤ b ∧ ObjOk X.prog X.w H' h' b o)) : Inv X pins σ H' { s with heap := h', toks := t' } := by
  refine L2.Inv.un I ⟨fun b u q _ _ _ => k b u q, fun b u q _ _ _ => ⟨u.slots, k b u q⟩, fun b u q n _ => ?_, fun b u q _ => ⟨u, k b u q⟩, fun b xs q => ext _ _ q, fun b u xs q => ext _ _ q, fun b ps q => ⟨#[], by rw [ext _ _ q]; simp⟩⟩ fun b o e => ?_
  · cases e : H' b with
    | none => rfl
    | some o =>
      rcases new b o e with z | ⟨z, _⟩
      · rw [n] at z
        cases z
      · exact absurd (Heap.lt_size q) (Nat.not_lt.mpr z)
  · rcases new b o e with z | ⟨_, z⟩
    · exact (I.hok b o z).stay (fun c u _ q => k c u q) (fun c q => ext _ _ q) fun c xs q => ext _ _ q
    · exact z
theorem apart5 {n l1 l2 : Nat} (p1 : l1 < n) (p2 : l2 < n) : ZipApart (n + 4) (n + 2) (n + 3) n (n + 1) l1 l2 := by
  constructor <;> first | exact Nat.ne_of_lt (by omega) | exact Nat.ne_of_gt (by omega)
/-- tuple(zip(xs, ys)) -/
def tTupZip (K : PySem.W.Frag) (t : TA) : TE := fun σ H Q => t σ H fun vs H1 => ∃ (l1 l2 : Addr) (us ws : List V), vs = [.ref l1, .ref l2] ∧ SqL K H1 l1 us ∧ SqL K H1 l2 ws ∧ us.length = ws.length ∧
  ∀ (H' : Hp) (p : Addr) (ts : List Addr), Same H1 H' → H1 p = none → H' p = some (.tup (ts.map V.ref)) → ts.length = us.length → (∀ (j : Nat) (T : Addr) (u v : V), ts[j]? = some T → us[j]? = some u → ws[j]? = some v → H' T = some (.tup [u, v])) → Q (.ref p) H'
theorem vals_refs : ∀ ts : List Addr, Vals (ts.map V.ref) (ts.map Value.ref)
  | [] => .nil
  | t :: ts => .cons rfl (vals_refs ts)
theorem pe_tupZip {X : Cx} {a b : Expr} {t : TA} {p p2 q pos : Pos} (hc : X.calm = true) (hg : Gl X "tuple") (hm : X.mg "tuple" = none) (hg2 : Gl X "zip") (hm2 : X.mg "zip" = none) (hab : PA X [a, b] t)
    (he : starEach [a, b] X.env = (false, eval a X.env) :: starEach [b] X.env := by rfl) (hpl : (backTo q (starEach [b] X.env)).any (·.1) = false := by rfl) :
    PE X (.Call (.Name "tuple" p) [.Call (.Name "zip" p2) [a, b] [] q] [] pos) (tTupZip X.K t) := by
  refine ⟨fun pins s σ H Q I h => ?_⟩
  refine wpAny_Call_Name_kw (ld_blt I hg hm (by decide +kernel) (PyProof.Rows.callWith_type1 (T := "tuple") (PyProof.Rows.args_cons ?_ rfl) rfl rfl))
  refine wpAny_Call_Name_kw (ld_blt I hg2 hm2 (by decide +kernel) (PyProof.Rows.callWith_type1 (T := "zip") (thn (hab.run q pins s σ H _ I h) fun us' s1 ⟨vs, H1, I1, r1, q1⟩ => ?_) he hpl))
  obtain ⟨l1, l2, us, ws, rfl, h1, h2, le, fin⟩ := q1
  obtain ⟨xs, rx, gx, zx⟩ := I1.list h1
  obtain ⟨ys, ry, gy, zy⟩ := I1.list h2
  cases r1 with | cons ra rt =>
  cases rt with | cons rb rn =>
  cases rn
  cases ra
  cases rb
  have lx : xs.toArray.size = us.length := by rw [List.size_toArray, rx.length]
  have ly : ys.toArray.size = ws.length := by rw [List.size_toArray, ry.length]
  have p1 : l1 < s1.heap.objs.size := by
    obtain ⟨o, e, _⟩ := gx.isList
    exact Heap.lt_size e
  have p2 : l2 < s1.heap.objs.size := by
    obtain ⟨o, e, _⟩ := gy.isList
    exact Heap.lt_size e
  refine call_zip_2 gx.isList gy.isList fun h' c1 c2 c3 c4 c5 c6 k => PyProof.Rows.args_nil ?_
  refine tuple_zip (s := { s1 with heap := h' }) (xs := xs.toArray) (ys := ys.toArray) (I1.ok.hd hc) ?_ ⟨c2, c4, c5, gx.isList.at fun o e => k _ o e, gy.isList.at fun o e => k _ o e, .inl ⟨c1, _, _, c3⟩⟩ c1 (by rw [lx, ly, le]) (by rw [lx]; exact zx) (fun b hb => ?_) fun h2 ts p kp lt pt bt la pp gp => ?_
  · exact apart5 p1 p2
  · show b < h'.objs.size
    rw [c6]
    simp only [List.mem_cons, List.not_mem_nil, or_false] at hb
    have w1 : l1 < s1.heap.objs.size + 5 := Nat.lt_add_right 5 p1
    have w2 : l2 < s1.heap.objs.size + 5 := Nat.lt_add_right 5 p2
    rcases hb with e | e | e | e | e | e | e <;> rw [e] <;> first | exact w1 | exact w2 | exact Nat.lt_succ_of_le (by omega)
  · have sz : s1.heap.objs.size ≤ h'.objs.size := by omega
    have pp' : h'.objs.size ≤ p := pp
    have keep : ∀ b u, s1.heap.get? b = some u → h2.get? b = some u := fun b u e => by
      refine kp b u (fun m => ?_) (k b u e)
      simp only [List.mem_cons, List.not_mem_nil, or_false] at m
      rcases m with e' | e' | e' | e' <;> exact absurd (Heap.lt_size e) (by rw [e']; exact Nat.not_lt.mpr (by omega))
    have off : ∀ b o, H1 b = some o → b ∉ ts ∧ b ≠ p := fun b o e => by
      exact ⟨fun m => absurd (Nat.lt_of_lt_of_le (I1.hok.lt e) (Nat.le_trans sz (bt b m).1)) (Nat.lt_irrefl _), Nat.ne_of_lt (Nat.lt_of_lt_of_le (I1.hok.lt e) (Nat.le_trans sz pp'))⟩
    have np : p ∉ ts := fun m => (bt p m).2 rfl
    have ext : ∀ b o, H1 b = some o → upd (lay2 H1 ts us ws) p (.tup (ts.map V.ref)) b = some o := fun b o e => by
      rw [upd_ne (off b o e).2, lay2_old (off b o e).1]
      exact e
    have at' : ∀ (j : Nat) (T : Addr) (u v : V), ts[j]? = some T → us[j]? = some u → ws[j]? = some v → upd (lay2 H1 ts us ws) p (.tup (ts.map V.ref)) T = some (.tup [u, v]) := fun j T u v e1 e2 e3 => by
      rw [upd_ne fun e => np (by rw [← e]; exact List.mem_of_getElem? e1)]
      exact lay2_at pt j T u v e1 e2 e3
    refine have J : L2.Inv X pins σ (upd (lay2 H1 ts us ws) p (.tup (ts.map V.ref))) { s1 with heap := h2, toks := s1.toks } := inv_many (s := s1) I1 keep ext fun b o e => ?_; ⟨.ref p, upd (lay2 H1 ts us ws) p (.tup (ts.map V.ref)), J, rfl, fin _ p ts ext (I1.hok.fresh (Nat.le_trans sz pp')) upd_same (lt.trans lx) at'⟩
    by_cases eb : b = p
    · subst eb
      rw [upd_same] at e
      cases e
      refine .inr ⟨Nat.le_trans sz pp', by rw [List.length_map, lt, lx]; exact zx, _, vals_refs ts, _, gp, rfl, _, rfl⟩
    · by_cases mb : b ∈ ts
      · obtain ⟨j, hj, ej⟩ := List.getElem_of_mem mb
        have e1 : ts[j]? = some b := by rw [List.getElem?_eq_getElem hj, ej]
        have j1 : j < us.length := by omega
        have j2 : j < ws.length := by omega
        have e' := at' j b _ _ e1 (List.getElem?_eq_getElem j1) (List.getElem?_eq_getElem j2)
        rw [e] at e'
        cases e'
        obtain ⟨x, hx, rx'⟩ := rx.get (List.getElem?_eq_getElem j1)
        obtain ⟨y, hy, ry'⟩ := ry.get (List.getElem?_eq_getElem j2)
        refine .inr ⟨Nat.le_trans sz (bt b mb).1, (by show 2 ≤ sizeLine; decide), [x, y], .cons rx' (.cons ry' .nil), _, la j b x y e1 (by simpa using hx) (by simpa using hy), rfl, _, rfl⟩
      · rw [upd_ne eb, lay2_old mb] at e
        exact .inl e

/-! ### enumerate(zip(xs, ys)), two lists -/
section
variable {P : Program} {w : World} {A : Around} {E : Value → Shared → Prop} {s : Shared} {S z TI TO i1 i2 l1 l2 : Addr} {xs ys : Array Value}
/-- the zip's next, asked by another iterator -/
theorem nextZ {i : Nat} {x y : Value} {Q : Value → Shared → Prop} (Lv : Addr → Prop) (D : ZipApart z TI TO i1 i2 l1 l2) (st : Zst S z TI TO i1 i2 l1 l2 xs ys i s.heap) (zz : (IsZip s.heap z TI TO .none ∧ ∃ a b, IsPair s.heap TO a b) ∨ ∃ T f oT, IsZipHeld s.heap z TI TO T f ∧ s.heap.get? T = some oT ∧ T ≠ z ∧ T ≠ i1 ∧ T ≠ i2 ∧ T ≠ S ∧ Lv T) (to : ∃ a b, IsPair s.heap TO a b) (hS : S < s.heap.objs.size) (hx : xs[i]? = some x) (hy : ys[i]? = some y)
    (q : ∀ h', Zst S z TI TO i1 i2 l1 l2 xs ys (i + 1) h' → IsPair h' s.heap.objs.size x y → (∃ a b, IsPair h' TO a b) → (∃ T0 f0, IsZipHeld h' z TI TO T0 f0 ∧ (T0 = s.heap.objs.size ∨ Lv T0)) → h'.objs.size = s.heap.objs.size + 1 → (∀ b o, b ∉ [z, TO, i1, i2] → s.heap.get? b = some o → h'.get? b = some o) → Q (.ref s.heap.objs.size) { s with heap := h' }) :
    wpAny (model P w) A (Builtin.SmallTypes.nextOf (.ref z)) Q E s := by
  have far : ∀ {c : Addr} {o : Obj}, s.heap.get? c = some o → s.heap.objs.size ≠ c := fun e => Nat.ne_of_gt (Heap.lt_size e)
  have f1 : s.heap.objs.size ≠ i1 := let ⟨_, e, _⟩ := st.a1; far e
  have f2 : s.heap.objs.size ≠ i2 := let ⟨_, e, _⟩ := st.a2; far e
  unfold Builtin.SmallTypes.nextOf
  rcases zz with ⟨hz, a, b, hTO⟩ | ⟨T, f, oT, hz, hT, n1, n2, n3, n4, lT⟩
  · have ty : s.TypeIs (.ref z) "zip" := ⟨_, hz, rfl⟩
    refine wpAny_bind (wpAny_callSpecial?_slot (name := Str.ofString "__next__") ty F.slot_zip_next (wpAny_call_entry F.slot_zip_next ty F.entry_zip_next (zip_next_item D hz st.ti hTO st.a1 st.a2 st.b1 st.b2 hx hy fun h' c1 c2 c3 c4 c5 c6 k => wpAny_pure (q h' ⟨k _ _ D.TIz D.TITO D.TIi1 D.TIi2 st.ti, c3, c4, st.b1.at fun o e => k _ o D.l1z D.l1TO D.l1i1 D.l1i2 e, st.b2.at fun o e => k _ o D.l2z D.l2TO D.l2i1 D.l2i2 e,
      .inr ⟨_, false, _, c1, c5, far hz, f1, f2, Nat.ne_of_gt hS⟩⟩ c5 ⟨_, _, c2⟩ ⟨_, false, c1, .inl rfl⟩ c6 fun b o nb e => ?_)) (F.args_zip_next_1 _)))
    simp only [List.mem_cons, List.not_mem_nil, or_false, not_or] at nb
    exact k b o nb.1 nb.2.1 nb.2.2.1 nb.2.2.2 e
  · have ty : s.TypeIs (.ref z) "zip" := ⟨_, hz, rfl⟩
    refine wpAny_bind (wpAny_callSpecial?_slot (name := Str.ofString "__next__") ty F.slot_zip_next (wpAny_call_entry F.slot_zip_next ty F.entry_zip_next (zip_next_item_held D hz hT st.ti st.a1 st.a2 st.b1 st.b2 hx hy fun h' c1 c3 c4 c5 c6 k => wpAny_pure (q h' ⟨k _ _ D.TIz D.TIi1 D.TIi2 st.ti, c3, c4, st.b1.at fun o e => k _ o D.l1z D.l1i1 D.l1i2 e, st.b2.at fun o e => k _ o D.l2z D.l2i1 D.l2i2 e,
      .inr ⟨T, true, oT, c1, k _ _ n1 n2 n3 hT, n1, n2, n3, n4⟩⟩ c5 (let ⟨p, r, h⟩ := to; ⟨p, r, k _ _ D.TOz D.TOi1 D.TOi2 h⟩) ⟨T, true, c1, .inr lT⟩ c6 fun b o nb e => ?_)) (F.args_zip_next_1 _)))
    simp only [List.mem_cons, List.not_mem_nil, or_false, not_or] at nb
    exact k b o nb.1 nb.2.2.1 nb.2.2.2 e
theorem nextZ_end {Q : Value → Shared → Prop} (hh : A.handled = none) (D : ZipApart z TI TO i1 i2 l1 l2) (st : Zst S z TI TO i1 i2 l1 l2 xs ys xs.size s.heap)
    (q : ∀ h' e, (∀ b o, b ∉ [z, TO, i1, i2] → s.heap.get? b = some o → h'.get? b = some o) → (∃ o, h'.get? e = some o ∧ o.cls = .type "StopIteration") → E (.ref e) { s with heap := h' }) : wpAny (model P w) A (Builtin.SmallTypes.nextOf (.ref z)) Q E s := by
  have e0 : xs[xs.size]? = none ∨ ys[xs.size]? = none := .inl (Array.getElem?_eq_none (Nat.le_refl _))
  unfold Builtin.SmallTypes.nextOf
  rcases st.zz with ⟨hz, a, b, hTO⟩ | ⟨T, f, oT, hz, hT, _⟩
  · have ty : s.TypeIs (.ref z) "zip" := ⟨_, hz, rfl⟩
    refine wpAny_bind (wpAny_callSpecial?_slot (name := Str.ofString "__next__") ty F.slot_zip_next (wpAny_call_entry F.slot_zip_next ty F.entry_zip_next (zip_next_end (by simp [hh]) D hz st.ti hTO st.a1 st.a2 st.b1 st.b2 e0 fun h' e k ho => q h' e (fun b o nb e => ?_) ho) (F.args_zip_next_1 _)))
    simp only [List.mem_cons, List.not_mem_nil, or_false, not_or] at nb
    exact k b o nb.1 nb.2.1 nb.2.2.1 nb.2.2.2 e
  · have ty : s.TypeIs (.ref z) "zip" := ⟨_, hz, rfl⟩
    refine wpAny_bind (wpAny_callSpecial?_slot (name := Str.ofString "__next__") ty F.slot_zip_next (wpAny_call_entry F.slot_zip_next ty F.entry_zip_next (zip_next_end_held (by simp [hh]) D hz hT st.ti st.a1 st.a2 st.b1 st.b2 e0 fun h' e k ho => q h' e (fun b o nb e => ?_) ho) (F.args_zip_next_1 _)))
    simp only [List.mem_cons, List.not_mem_nil, or_false, not_or] at nb
    exact k b o nb.1 nb.2.2.1 nb.2.2.2 e
end

section
variable {P : Program} {w : World} {A : Around} {E : Value → Shared → Prop} {s : Shared} {e z TI TO i1 i2 l1 l2 : Addr} {xs ys : Array Value}
theorem enumZ {i : Nat} {c : Int} {old x y : Value} {Q : Option Value → Shared → Prop} (Lv : Addr → Prop) (D : ZipApart z TI TO i1 i2 l1 l2) (he : IsEnum s.heap e z c old) (st : Zst e z TI TO i1 i2 l1 l2 xs ys i s.heap) (zz : (IsZip s.heap z TI TO .none ∧ ∃ a b, IsPair s.heap TO a b) ∨ ∃ T f oT, IsZipHeld s.heap z TI TO T f ∧ s.heap.get? T = some oT ∧ T ≠ z ∧ T ≠ i1 ∧ T ≠ i2 ∧ T ≠ e ∧ Lv T) (to : ∃ a b, IsPair s.heap TO a b) (de : e ∉ [z, TI, TO, i1, i2, l1, l2]) (hx : xs[i]? = some x) (hy : ys[i]? = some y)
    (q : ∀ (h' : Heap) (tk : Nat), IsEnumOut h' e z (c + 1) (.ref s.heap.objs.size) (s.heap.objs.size + 1) → Zst e z TI TO i1 i2 l1 l2 xs ys (i + 1) h' → IsPair h' s.heap.objs.size x y → (∃ a b, IsPair h' TO a b) → (∃ T0 f0, IsZipHeld h' z TI TO T0 f0 ∧ (T0 = s.heap.objs.size ∨ Lv T0)) →
      h'.get? (s.heap.objs.size + 1) = some { cls := .type "tuple", data := .seq #[.int c tk, .ref s.heap.objs.size] } → (∀ b o, b ∉ [e, z, TO, i1, i2] → s.heap.get? b = some o → h'.get? b = some o) → Q (some (.ref (s.heap.objs.size + 1))) { s with heap := h', toks := tk + 1 }) :
    wpAny (model P w) A (pyNext (.ref e)) Q E s := by
  have ty : s.TypeIs (.ref e) "enumerate" := ⟨_, he, rfl⟩
  have ze : e < s.heap.objs.size := Heap.lt_size he
  have nw : e ∉ [z, TO, i1, i2] := fun m => de (by
    simp only [List.mem_cons, List.not_mem_nil, or_false] at m ⊢
    rcases m with r | r | r | r <;> simp [r])
  unfold pyNext
  refine wpAny_bind (wpAny_attempt (wpAny_callSpecial?_slot (name := Str.ofString "__next__") ty F.slot_enumerate_next (wpAny_call_entry F.slot_enumerate_next ty F.entry_enumerate_next ?_ (F.args_enumerate_next_1 _))))
  obtain ⟨hp, g, d, tk, os⟩ := s
  show wpAny _ _ (field (.ref e) 2 >>= _) _ _ _
  refine wpAny_bind (wpAny_field he rfl (x := .ref z) rfl ?_)
  refine wpAny_bind (nextZ Lv D st zz to ze hx hy fun h1 st1 pr1 to1 hd1 sz1 k1 => ?_)
  have nz : z ≠ e := fun r => de (by simp [r])
  have nTO : TO ≠ e := fun r => de (by simp [r])
  have he1 : IsEnum h1 e z c old := k1 _ _ nw he
  show wpAny _ _ (field (.ref e) 3 >>= _) _ _ ⟨h1, g, d, tk, os⟩
  refine wpAny_bind (wpAny_field he1 rfl (x := rawInt c) rfl ?_)
  show wpAny _ _ (field (.ref e) 4 >>= _) _ _ ⟨h1, g, d, tk, os⟩
  refine wpAny_bind (wpAny_field he1 rfl (x := .none) rfl ?_)
  show wpAny _ _ (mkInt c >>= _) _ _ ⟨h1, g, d, tk, os⟩
  refine wpAny_bind (wpAny_mkInt ?_)
  show wpAny _ _ (setField (.ref e) 3 (rawInt (c + 1)) >>= _) _ _ ⟨h1, g, d, tk + 1, os⟩
  refine wpAny_bind (wpAny_setField_rec he1 (by simp) fun h2 he2 sb2 => ?_)
  replace he2 : IsEnum h2 e z (c + 1) old := he2
  show wpAny _ _ (setField (.ref e) 4 .none >>= _) _ _ ⟨h2, g, d, tk + 1, os⟩
  refine wpAny_bind (wpAny_setField_rec he2 (by simp) fun h3 he3 sb3 => ?_)
  replace he3 : IsEnum h3 e z (c + 1) old := he3
  show wpAny _ _ (newTuple [.int c tk, .ref hp.objs.size] >>= _) _ _ ⟨h3, g, d, tk + 1, os⟩
  refine wpAny_bind (wpAny_newTuple ?_)
  have z3 : h3.objs.size = hp.objs.size + 1 := by rw [sb3.1, sb2.1]; exact sz1
  have k3 : ∀ b o, b ≠ e → h1.get? b = some o → h3.get? b = some o := fun b o nb r => sb3.extBut b o nb (sb2.extBut b o nb r)
  have he4 : IsEnum (h3.push { cls := .type "tuple", data := .seq #[.int c tk, .ref hp.objs.size] }) e z (c + 1) old := Heap.get?_push_of_some _ he3
  have hT4 : (h3.push { cls := .type "tuple", data := .seq #[.int c tk, .ref hp.objs.size] }).get? (hp.objs.size + 1) = some { cls := .type "tuple", data := .seq #[.int c tk, .ref hp.objs.size] } := by
    rw [← z3]
    exact Heap.get?_push_size _ rfl
  have k4 : ∀ b o, b ≠ e → h1.get? b = some o → (h3.push { cls := .type "tuple", data := .seq #[.int c tk, .ref hp.objs.size] }).get? b = some o := fun b o nb r => Heap.get?_push_of_some _ (k3 b o nb r)
  show wpAny _ _ (Builtin.SmallTypes.ownedTupleIsFree (.ref e) >>= _) _ _ ⟨h3.push { cls := .type "tuple", data := .seq #[.int c tk, .ref hp.objs.size] }, g, d, tk + 1, os⟩
  rw [z3]
  generalize h3.push { cls := .type "tuple", data := .seq #[.int c tk, .ref hp.objs.size] } = h4 at he4 hT4 k4 ⊢
  refine wpAny_bind ?_
  unfold Builtin.SmallTypes.ownedTupleIsFree
  refine wpAny_bind (wpAny_field he4 rfl (x := .none) rfl (wpAny_pure ?_))
  simp only [if_true]
  refine wpAny_bind (wpAny_rule (wpAny_bind (wpAny_field he4 rfl (x := old) rfl (wpAny_bind (wpAny_setField_rec he4 (by simp) fun h5 he5 sb5 => ?_)))))
  replace he5 : IsEnum h5 e z (c + 1) (.ref hp.objs.size) := he5
  show wpAny _ _ (Builtin.SmallTypes.ownedTupleHandOut (.ref e) (.ref (hp.objs.size + 1)) >>= _) _ _ ⟨h5, g, d, tk + 1, os⟩
  refine wpAny_bind ?_
  unfold Builtin.SmallTypes.ownedTupleHandOut
  refine wpAny_bind (wpAny_setField_rec he5 (by simp) fun h6 he6 sb6 => ?_)
  replace he6 : IsEnumOut h6 e z (c + 1) (.ref hp.objs.size) (hp.objs.size + 1) := he6
  refine wpAny_setField_rec he6 (by simp) fun h7 he7 sb7 => ?_
  replace he7 : IsEnumOut h7 e z (c + 1) (.ref hp.objs.size) (hp.objs.size + 1) := he7
  have k7 : ∀ b o, b ≠ e → h4.get? b = some o → h7.get? b = some o := fun b o nb r => sb7.extBut b o nb (sb6.extBut b o nb (sb5.extBut b o nb r))
  refine wpAny_bind (wpAny_letGo (wpAny_pure ⟨_, rfl, wpAny_pure (q h7 tk he7 ?_ ?_ (let ⟨p, r, hh⟩ := to1; ⟨p, r, k7 _ _ nTO (k4 _ _ nTO hh)⟩) (let ⟨p, r, hh, l⟩ := hd1; ⟨p, r, k7 _ _ nz (k4 _ _ nz hh), l⟩) ?_ fun b o nb r => ?_)⟩))
  · exact st1.keep de fun b o nb r => k7 b o nb (k4 b o nb r)
  · exact k7 _ _ (Nat.ne_of_gt ze) (k4 _ _ (Nat.ne_of_gt ze) pr1)
  · exact k7 _ _ (Nat.ne_of_gt (Nat.lt_succ_of_lt ze)) hT4
  · simp only [List.mem_cons, List.not_mem_nil, or_false, not_or] at nb
    refine k7 b o nb.1 (k4 b o nb.1 (k1 b o ?_ r))
    simp only [List.mem_cons, List.not_mem_nil, or_false, not_or]
    exact nb.2
theorem enumZ_end {c : Int} {old : Value} {Q : Option Value → Shared → Prop} (hh : A.handled = none) (D : ZipApart z TI TO i1 i2 l1 l2) (he : IsEnum s.heap e z c old) (st : Zst e z TI TO i1 i2 l1 l2 xs ys xs.size s.heap)
    (q : ∀ h', (∀ b o, b ∉ [z, TO, i1, i2] → s.heap.get? b = some o → h'.get? b = some o) → Q none { s with heap := h' }) : wpAny (model P w) A (pyNext (.ref e)) Q E s := by
  have ty : s.TypeIs (.ref e) "enumerate" := ⟨_, he, rfl⟩
  unfold pyNext
  refine wpAny_bind (wpAny_attempt (wpAny_callSpecial?_slot (name := Str.ofString "__next__") ty F.slot_enumerate_next (wpAny_call_entry F.slot_enumerate_next ty F.entry_enumerate_next ?_ (F.args_enumerate_next_1 _))))
  show wpAny _ _ (field (.ref e) 2 >>= _) _ _ _
  refine wpAny_bind (wpAny_field he rfl (x := .ref z) rfl ?_)
  refine wpAny_bind (nextZ_end (by simp [hh]) D st fun h' r k ⟨o, ho, hc⟩ => ?_)
  refine wpAny_bind (wpAny_isInstance (T := "StopIteration") (b := true) ⟨o, ho, hc⟩ isSubtype_stop ?_)
  exact wpAny_pure (q _ k)
end

theorem meets_enumZ (z TI TO : Addr) :
    Meets (Builtin.«enumerate.__new__» ⟨[.type "enumerate", .ref z], []⟩) (fun _ R s => IsZip s.heap z TI TO .none ∧
      R (.ok (.ret (.ref s.heap.objs.size))) { s with heap := s.heap.push { cls := .type "enumerate", data := .fields #[.none, .bool false, .ref z, rawInt 0, .none, .none] } }) :=
  .of_wp fun prog w A R s h => by
    obtain ⟨hp, g, d, tk, os⟩ := s
    obtain ⟨hz, h⟩ := h
    have hsub := sub_enumerate
    have hZ : IsZip (Shared.heap ⟨hp, g, d, tk, os⟩) z TI TO .none := hz
    wp_walk using wpAny_loadPart' hz
    refine wpAny_stack_any fun st => wpAny_pure ?_
    split
    · rename_i c _ _ _ _ _
      cases (c == Value.type "enumerate")
      · wp_walk using wpAny_loadPart' hz, wpAny_pyIter_zip hZ
        exact ⟨_, rfl, h⟩
      · wp_walk using wpAny_loadPart' hz, wpAny_pyIter_zip hZ
        exact ⟨_, rfl, h⟩
    · wp_walk using wpAny_loadPart' hz, wpAny_pyIter_zip hZ
      exact ⟨_, rfl, h⟩
section
variable {P : Program} {w : World} {A : Around} {E : Value → Shared → Prop} {s : Shared}
theorem call_enumZ {z TI TO : Addr} {Q : Value → Shared → Prop} (hz : IsZip s.heap z TI TO .none)
    (q : ∀ h', IsEnum h' s.heap.objs.size z 0 .none → h'.objs.size = s.heap.objs.size + 1 → (∀ b o, s.heap.get? b = some o → h'.get? b = some o) → Q (.ref s.heap.objs.size) { s with heap := h' }) :
    wpAny (model P w) A (call (.type "enumerate") [.ref z]) Q E s := by
  have he : IsEnum (s.heap.push { cls := .type "enumerate", data := .fields #[.none, .bool false, .ref z, rawInt 0, .none, .none] }) s.heap.objs.size z 0 .none := Heap.get?_push_size _ rfl
  exact callType_new F.called_enumerate (by decide) (F.typeCall_enumerate_1 _) (F.newCall_enumerate_1 _) (fun obj => F.args_object_init_2 obj _) F.entry_enumerate_new
    (meets_enumZ z TI TO) ⟨hz, ⟨_, he, rfl⟩, q _ he (Heap.size_push ..) fun b o r => Heap.get?_push_of_some _ r⟩
end

section
variable {X : Cx} {pins : List (Addr × Obj)} {σ : L2.St} {H H' : Hp} {s : Shared} {h' : Heap}
/-- records of ours have turned, new things are laid -/
theorem inv_turn {t' : Nat} {ch : List Addr} (I : Inv X pins σ H s) (k : ∀ b o, b ∉ ch → s.heap.get? b = some o → h'.get? b = some o) (hf : ∀ b ∈ ch, FpOk X pins H b) (ext : ∀ b o, H b = some o → H' b = some o)
    (new : ∀ b o, H' b = some o → H b = some o ∨ (s.heap.objs.size ≤ b ∧ ObjOk X.prog X.w H' h' b o)) : Inv X pins σ H' { s with heap := h', toks := t' } := by
  have off : ∀ b u, H b = some u → b ∉ ch := fun b u e m => by
    have := (hf b m).1
    rw [e] at this
    cases this
  refine I.step (g' := s.gens) (d' := s.drawn) (ch := ch) (fun b hb => ⟨(hf b hb).2.2.2.1, (hf b hb).2.1, (hf b hb).2.2.2.2.1, (hf b hb).2.2.2.2.2⟩) (fun b o _ _ hc e _ => k b o hc e) (fun b o _ _ hc e _ => ⟨o.slots, k b o hc e⟩)
    (fun b o _ e n => ?_) (fun b o hc e => ⟨o, k b o hc e⟩) (fun b xs e => ext _ _ e) (fun b o u e => ext _ _ e) (fun b ps e => ⟨#[], by rw [ext _ _ e]; simp⟩) (fun m hm => ?_) (fun b u e => ?_) I.bare
  · cases q : H' b with
    | none => rfl
    | some u =>
      rcases new b u q with z | ⟨z, _⟩
      · rw [n] at z
        cases z
      · exact absurd (Heap.lt_size e) (Nat.not_lt.mpr z)
  · obtain ⟨o, es, ep, ho, r⟩ := hm
    exact ⟨o, es, ep, k _ o (fun z => (hf _ z).2.1 rfl) ho, r⟩
  · rcases new b u e with z | ⟨_, z⟩
    · refine (I.hok b u z).stay (fun c v hc q => k c v ?_ q) (fun c q => ext _ _ q) fun c xs q => ext _ _ q
      rcases hc with y | y
      · rw [y]
        exact off b u z
      · exact off c _ y
    · exact z
end
/-- for a, (b, c) in enumerate(zip(xs, ys)) -/
def tForEZ (K : PySem.W.Frag) (t : TA) (g : TG) (tb : TS) : TS := fun D σ H => t σ H fun vs H1 => ∃ (l1 l2 : Addr) (us ws : List V), vs = [.ref l1, .ref l2] ∧ us.length = ws.length ∧ ∃ Pv : Nat → L2.St → Hp → Prop, Pv 0 σ H1 ∧
  (∀ i σ' H', Pv i σ' H' → SqL K H' l1 us ∧ SqL K H' l2 ws) ∧ (∀ σ' H', Pv us.length σ' H' → D.nx σ' H') ∧
  ∀ (i : Nat) (u v : V) (σ' : L2.St) (H' : Hp) (U T : Addr), us[i]? = some u → ws[i]? = some v → Pv i σ' H' → H' U = none → H' T = none → U ≠ T →
    g (.ref T) σ' (upd (upd H' U (.tup [u, v])) T (.tup [.int (i : Nat), .ref U])) fun σ2 H2 =>
      tb { D with nx := fun σ3 H3 => Pv (i + 1) σ3 H3 ∧ H3 U = some (.tup [u, v]) ∧ ∀ b xs, H' b = some (.tup xs) → H3 b = some (.tup xs), ct := fun σ3 H3 => Pv (i + 1) σ3 H3 ∧ H3 U = some (.tup [u, v]) ∧ ∀ b xs, H' b = some (.tup xs) → H3 b = some (.tup xs), bk := D.nx } σ2 H2
/-- the loop's own records -/
structure Ez (e z TI TO i1 i2 l1 l2 : Addr) (i : Nat) (H : Hp) (h : Heap) : Prop where
  en : ∃ old, IsEnum h e z (i : Nat) old
  ti : IsPair h TI (.ref i1) (.ref i2)
  a1 : h.IsListIter i1 l1 i
  a2 : h.IsListIter i2 l2 i
  zz : (IsZip h z TI TO .none ∧ ∃ a b, IsPair h TO a b) ∨ ∃ T f, IsZipHeld h z TI TO T f ∧ (∃ a b, IsPair h TO a b) ∧ ∃ xs, H T = some (.tup xs)

section
variable {X : Cx}
theorem apart6 {n l1 l2 : Nat} (p1 : l1 < n) (p2 : l2 < n) : n + 5 ∉ [n + 4, n + 2, n + 3, n, n + 1, l1, l2] := by
  intro m
  simp only [List.mem_cons, List.not_mem_nil, or_false] at m
  omega
theorem ps_forEZ {a b : Expr} {elts : List Expr} {kk : Nat} {body : List Stmt} {t : TA} {g : TG} {tb : TS} {p p2 q pos tpos fpos : Pos} (hp : PassesOwn (model X.prog X.w) X.A X.env X.xe) (hc : X.calm = true) (hge : Gl X "enumerate") (hme : X.mg "enumerate" = none) (hgz : Gl X "zip") (hmz : X.mg "zip" = none) (hab : PA X [a, b] t) (hg : PG X (.Tuple elts kk tpos) g) (hb : PSs X body tb)
    (he : starEach [a, b] X.env = (false, eval a X.env) :: starEach [b] X.env := by rfl) (hpl : (backTo q (starEach [b] X.env)).any (·.1) = false := by rfl)
    (hs : ∀ x, foldedSetIterable (.Call (.Name "enumerate" p) [.Call (.Name "zip" p2) [a, b] [] q] [] pos) X.env x = pure x := by intro _; rfl) :
    PS X (.For (.Tuple elts kk tpos) (.Call (.Name "enumerate" p) [.Call (.Name "zip" p2) [a, b] [] q] [] pos) body [] fpos) (tForEZ X.K t g tb) := by
  refine ⟨fun pins s σ H D I h => ?_⟩
  refine wpAny_For (wpAny_Call_Name_kw (ld_blt I hge hme (by decide +kernel) (PyProof.Rows.callWith_type1 (T := "enumerate") (PyProof.Rows.args_cons ?_ rfl) rfl rfl))) hs
  refine wpAny_Call_Name_kw (ld_blt I hgz hmz (by decide +kernel) (PyProof.Rows.callWith_type1 (T := "zip") (thn (hab.run q pins s σ H _ I h) fun us' s1 ⟨vs, H1, I1, r1, q1⟩ => ?_) he hpl))
  obtain ⟨l1, l2, us, ws, rfl, le, Pv, pv0, sq, fin, step⟩ := q1
  obtain ⟨s01, s02⟩ := sq 0 σ H1 pv0
  obtain ⟨xs0, rx0, gx0, _⟩ := I1.list s01
  obtain ⟨ys0, ry0, gy0, _⟩ := I1.list s02
  obtain ⟨u1, u2, rfl, r2, r3⟩ := vals2 r1
  cases (show u1 = Value.ref l1 from r2)
  cases (show u2 = Value.ref l2 from r3)
  have p1 : l1 < s1.heap.objs.size := by
    obtain ⟨o, e, _⟩ := gx0.isList
    exact Heap.lt_size e
  have p2' : l2 < s1.heap.objs.size := by
    obtain ⟨o, e, _⟩ := gy0.isList
    exact Heap.lt_size e
  refine call_zip_2 gx0.isList gy0.isList fun h1 c1 c2 c3 c4 c5 c6 k1 => PyProof.Rows.args_nil ?_
  refine call_enumZ (s := { s1 with heap := h1 }) c1 fun h2 e2 z2 k2 => wpAny_pyIter_enum e2 ?_
  have D : ZipApart (s1.heap.objs.size + 4) (s1.heap.objs.size + 2) (s1.heap.objs.size + 3) s1.heap.objs.size (s1.heap.objs.size + 1) l1 l2 := apart5 p1 p2'
  have eE : h1.objs.size = s1.heap.objs.size + 5 := c6
  have e2' : IsEnum h2 (s1.heap.objs.size + 5) (s1.heap.objs.size + 4) 0 .none := eE ▸ e2
  have de : s1.heap.objs.size + 5 ∉ [s1.heap.objs.size + 4, s1.heap.objs.size + 2, s1.heap.objs.size + 3, s1.heap.objs.size, s1.heap.objs.size + 1, l1, l2] := apart6 p1 p2'
  show codeAny _ _ (.forLoop _ (.ref h1.objs.size) _ _ _) _ _
  rw [eE]
  have I2 : Inv X pins σ H1 { s1 with heap := h2 } := I1.kept (t' := s1.toks) fun b o r => k2 _ _ (k1 _ _ r)
  have ez2 : Ez (s1.heap.objs.size + 5) (s1.heap.objs.size + 4) (s1.heap.objs.size + 2) (s1.heap.objs.size + 3) s1.heap.objs.size (s1.heap.objs.size + 1) l1 l2 0 H1 h2 :=
    ⟨⟨_, e2'⟩, k2 _ _ c2, c4.at fun o r => k2 _ o r, c5.at fun o r => k2 _ o r, .inl ⟨k2 _ _ c1, _, _, k2 _ _ c3⟩⟩
  have f2 : ∀ b ∈ [s1.heap.objs.size + 5, s1.heap.objs.size + 4, s1.heap.objs.size + 2, s1.heap.objs.size + 3, s1.heap.objs.size, s1.heap.objs.size + 1], FpOk X pins H1 b := fun b hb => by
    have hle : s1.heap.objs.size ≤ b := by
      simp only [List.mem_cons, List.not_mem_nil, or_false] at hb
      rcases hb with r | r | r | r | r | r <;> rw [r] <;> first | exact Nat.le_add_right _ _ | exact Nat.le_refl _
    exact I1.fpOk hle (I1.hok.fresh hle)
  clear e2 e2' c1 c2 c3 c4 c5 k1 z2 s01 s02 rx0 gx0 ry0 gy0 I1 eE c6
  generalize s1.heap.objs.size + 5 = e at *
  generalize s1.heap.objs.size + 4 = z at *
  generalize s1.heap.objs.size + 3 = TO at *
  generalize s1.heap.objs.size + 2 = TI at *
  generalize s1.heap.objs.size + 1 = i2 at *
  generalize s1.heap.objs.size = i1 at *
  have stat : ∀ {H' : Hp}, (∀ b ∈ [e, z, TI, TO, i1, i2], H' b = none) → ∀ b ∈ [e, z, TI, TO, i1, i2], FpOk X pins H' b := fun hn b hb => ⟨hn b hb, (f2 b hb).2⟩
  refine codeAny_forLoop_any (fun n s' => ∃ i σ' H', n = us.length - i ∧ i ≤ us.length ∧ Inv X pins σ' H' s' ∧ Ez e z TI TO i1 i2 l1 l2 i H' s'.heap ∧ (∀ b ∈ [e, z, TI, TO, i1, i2], H' b = none) ∧ Pv i σ' H') ?_ us.length ⟨0, σ, H1, rfl, Nat.zero_le _, I2, ez2, fun b hb => (f2 b hb).1, pv0⟩
  rintro n s3 ⟨i, σ3, H3, rfl, hi, I3, ez, fr, pv⟩
  obtain ⟨sx, sy⟩ := sq i σ3 H3 pv
  obtain ⟨xs, rx, gx, _⟩ := I3.list sx
  obtain ⟨ys, ry, gy, _⟩ := I3.list sy
  have lx : xs.toArray.size = us.length := by rw [List.size_toArray, rx.length]
  have ly : ys.toArray.size = ws.length := by rw [List.size_toArray, ry.length]
  have to : ∃ a b, IsPair s3.heap TO a b := by
    rcases ez.zz with ⟨_, h⟩ | ⟨_, _, _, h, _⟩
    · exact h
    · exact h
  have zz : (IsZip s3.heap z TI TO .none ∧ ∃ a b, IsPair s3.heap TO a b) ∨ ∃ T f oT, IsZipHeld s3.heap z TI TO T f ∧ s3.heap.get? T = some oT ∧ T ≠ z ∧ T ≠ i1 ∧ T ≠ i2 ∧ T ≠ e ∧ ∃ vs, H3 T = some (.tup vs) := by
    rcases ez.zz with h | ⟨T, f, h, _, vs, hT⟩
    · exact .inl h
    · obtain ⟨_, its, _, ob, ho, _⟩ := I3.hok T _ hT
      exact .inr ⟨T, f, ob, h, ho, ne_of_none hT (fr _ (by simp)), ne_of_none hT (fr _ (by simp)), ne_of_none hT (fr _ (by simp)), ne_of_none hT (fr _ (by simp)), vs, hT⟩
  have zst : Zst e z TI TO i1 i2 l1 l2 xs.toArray ys.toArray i s3.heap := ⟨ez.ti, ez.a1, ez.a2, gx.isList, gy.isList, by
    rcases zz with h | ⟨T, f, oT, h1, h2, h3, h4, h5, h6, _⟩
    · exact .inl h
    · exact .inr ⟨T, f, oT, h1, h2, h3, h4, h5, h6⟩⟩
  obtain ⟨old, hen⟩ := ez.en
  rcases Nat.lt_or_ge i us.length with lt | ge
  · obtain ⟨x, hx, rxx⟩ := rx.get (List.getElem?_eq_getElem lt)
    obtain ⟨y, hy, ryy⟩ := ry.get (List.getElem?_eq_getElem (show i < ws.length by omega))
    refine wpAny_passesOwn hp (enumZ (fun T => ∃ vs, H3 T = some (.tup vs)) D hen zst zz to de (x := x) (y := y) (by simpa using hx) (by simpa using hy) fun h4 tk eo zst4 pr4 to4 hd4 hT4 k4 => ?_)
    refine wpAny_passesOwn hp (wpAny_letOwnedTupleGo_enum (s := { s3 with heap := h4, toks := tk + 1 }) eo fun h5 en5 sb => ?_)
    have ze : e < s3.heap.objs.size := Heap.lt_size hen
    have k5 : ∀ b o, b ≠ e → h4.get? b = some o → h5.get? b = some o := fun b o nb r => sb.extBut b o nb r
    have pr5 := k5 _ _ (Nat.ne_of_gt ze) pr4
    have hT5 := k5 _ _ (Nat.ne_of_gt (Nat.lt_succ_of_lt ze)) hT4
    have nU : H3 s3.heap.objs.size = none := I3.hok.fresh (Nat.le_refl _)
    have nT : H3 (s3.heap.objs.size + 1) = none := I3.hok.fresh (Nat.le_succ _)
    have UT : s3.heap.objs.size ≠ s3.heap.objs.size + 1 := Nat.ne_of_lt (Nat.lt_succ_self _)
    have nn : ∀ {b : Addr}, b ∈ [z, TI, TO, i1, i2, l1, l2] → b ≠ e := fun m r => de (r ▸ m)
    have en5' : IsEnum h5 e z ((i + 1 : Nat) : Int) (.ref s3.heap.objs.size) := by
      rw [show ((i + 1 : Nat) : Int) = (i : Int) + 1 by omega]
      exact en5
    have ti5 := k5 _ _ (nn (by simp)) zst4.ti
    have a15 : h5.IsListIter i1 l1 (i + 1) := zst4.a1.at fun o r => k5 _ o (nn (by simp)) r
    have a25 : h5.IsListIter i2 l2 (i + 1) := zst4.a2.at fun o r => k5 _ o (nn (by simp)) r
    obtain ⟨ta, tb', to4⟩ := to4
    have to5 := k5 _ _ (nn (by simp)) to4
    obtain ⟨T0, f0, hd4, lv4⟩ := hd4
    have hd5 := k5 _ _ (nn (by simp)) hd4
    have lt5 : ∀ b ∈ [e, z, TI, TO, i1, i2], b < s3.heap.objs.size := fun b hb => by
      simp only [List.mem_cons, List.not_mem_nil, or_false] at hb
      rcases hb with r | r | r | r | r | r
      · rw [r]
        exact ze
      · rw [r]
        rcases zz with ⟨h, _⟩ | ⟨_, _, _, h, _⟩ <;> exact Heap.lt_size h
      · rw [r]
        exact Heap.lt_size ez.ti
      · rw [r]
        obtain ⟨_, _, h⟩ := to
        exact Heap.lt_size h
      · rw [r]
        obtain ⟨_, h, _⟩ := ez.a1
        exact Heap.lt_size h
      · rw [r]
        obtain ⟨_, h, _⟩ := ez.a2
        exact Heap.lt_size h
    have obj5 : ∀ b ∈ [e, z, TI, TO, i1, i2], ∃ o, h5.get? b = some o ∧ ∀ v, o.data ≠ .cell v := fun b hb => by
      simp only [List.mem_cons, List.not_mem_nil, or_false] at hb
      rcases hb with r | r | r | r | r | r
      · rw [r]
        exact ⟨_, en5', fun v r => nomatch r⟩
      · rw [r]
        exact ⟨_, hd5, fun v r => nomatch r⟩
      · rw [r]
        exact ⟨_, ti5, fun v r => nomatch r⟩
      · rw [r]
        exact ⟨_, to5, fun v r => nomatch r⟩
      · rw [r]
        obtain ⟨o, h, _, hd⟩ := a15
        exact ⟨o, h, fun v r => by rw [hd] at r; cases r⟩
      · rw [r]
        obtain ⟨o, h, _, hd⟩ := a25
        exact ⟨o, h, fun v r => by rw [hd] at r; cases r⟩
    have ext : ∀ b o, H3 b = some o → upd (upd H3 s3.heap.objs.size (.tup [us[i], ws[i]'(by omega)])) (s3.heap.objs.size + 1) (.tup [.int (i : Nat), .ref s3.heap.objs.size]) b = some o := fun b o r => by
      rw [upd_ne (ne_of_none r nT), upd_ne (ne_of_none r nU)]
      exact r
    have fr5 : ∀ b ∈ [e, z, TI, TO, i1, i2], upd (upd H3 s3.heap.objs.size (.tup [us[i], ws[i]'(by omega)])) (s3.heap.objs.size + 1) (.tup [.int (i : Nat), .ref s3.heap.objs.size]) b = none := fun b hb => by
      rw [upd_ne (Nat.ne_of_lt (Nat.lt_succ_of_lt (lt5 b hb))), upd_ne (Nat.ne_of_lt (lt5 b hb))]
      exact fr b hb
    have I5 : Inv X pins σ3 (upd (upd H3 s3.heap.objs.size (.tup [us[i], ws[i]'(by omega)])) (s3.heap.objs.size + 1) (.tup [.int (i : Nat), .ref s3.heap.objs.size])) { s3 with heap := h5, toks := tk + 1 } := by
      refine inv_turn (s := s3) (ch := [e, z, TO, i1, i2]) I3 (fun b o nb r => k5 b o (fun r' => nb (by simp [r'])) (k4 b o nb r)) (fun b hb => stat fr b ?_) ext fun b o r => ?_
      · simp only [List.mem_cons, List.not_mem_nil, or_false] at hb ⊢
        rcases hb with r | r | r | r | r <;> simp [r]
      · by_cases bT : b = s3.heap.objs.size + 1
        · subst bT
          rw [upd_same] at r
          cases r
          exact .inr ⟨Nat.le_succ _, (by show 2 ≤ sizeLine; decide), [.int (i : Nat) tk, .ref s3.heap.objs.size], .cons ⟨tk, rfl⟩ (.cons rfl .nil), _, hT5, rfl, _, rfl⟩
        · rw [upd_ne bT] at r
          by_cases bU : b = s3.heap.objs.size
          · subst bU
            rw [upd_same] at r
            cases r
            exact .inr ⟨Nat.le_refl _, (by show 2 ≤ sizeLine; decide), [x, y], .cons rxx (.cons ryy .nil), _, pr5, rfl, _, rfl⟩
          · rw [upd_ne bU] at r
            exact .inl r
    have I5' := I5.pinned (stat fr5) obj5
    refine wpAny_passesOwn hp (thn (hg.run _ _ σ3 _ (.ref (s3.heap.objs.size + 1)) (.ref (s3.heap.objs.size + 1)) _ I5' rfl (step i _ _ σ3 H3 s3.heap.objs.size (s3.heap.objs.size + 1) (List.getElem?_eq_getElem lt) (List.getElem?_eq_getElem (by omega)) pv nU nT UT)) fun _ s6 ⟨σ6, H6, I6, q6⟩ => ?_)
    refine wpAny_passesOwn hp (thn (hb.run _ s6 σ6 H6 _ I6 q6) fun f s7 q7 => ?_)
    have again : ∀ {σ7 : L2.St} {H7 : Hp}, Inv X (pins ++ pinsAt [e, z, TI, TO, i1, i2] h5) σ7 H7 s7 → (Pv (i + 1) σ7 H7 ∧ H7 s3.heap.objs.size = some (.tup [us[i], ws[i]'(by omega)]) ∧ ∀ b xs, H3 b = some (.tup xs) → H7 b = some (.tup xs)) →
        ∃ m, m < us.length - i ∧ ∃ i' σ' H', m = us.length - i' ∧ i' ≤ us.length ∧ Inv X pins σ' H' s7 ∧ Ez e z TI TO i1 i2 l1 l2 i' H' s7.heap ∧ (∀ b ∈ [e, z, TI, TO, i1, i2], H' b = none) ∧ Pv i' σ' H' := fun {σ7 H7} I7 n7 => by
      have kp : ∀ b ∈ [e, z, TI, TO, i1, i2], ∀ o, h5.get? b = some o → s7.heap.get? b = some o ∧ H7 b = none := fun b hb o r => by
        have := I7.pin (b, o) (List.mem_append_right _ (List.mem_append_right _ (mem_pinsAt hb r)))
        exact ⟨this.1, this.2.1⟩
      refine ⟨us.length - (i + 1), by omega, i + 1, σ7, H7, rfl, lt, I7.unpinned, ⟨⟨_, (kp e (by simp) _ en5').1⟩, (kp TI (by simp) _ ti5).1, a15.at fun o r => (kp i1 (by simp) o r).1, a25.at fun o r => (kp i2 (by simp) o r).1, .inr ⟨T0, f0, (kp z (by simp) _ hd5).1, ⟨ta, tb', (kp TO (by simp) _ to5).1⟩, ?_⟩⟩, fun b hb => ?_, n7.1⟩
      · rcases lv4 with r | ⟨vs, r⟩
        · rw [r]
          exact ⟨_, n7.2.1⟩
        · exact ⟨vs, n7.2.2 _ _ r⟩
      · obtain ⟨o, r, _⟩ := obj5 b hb
        exact (kp b hb o r).2
    cases f with
    | next => obtain ⟨σ7, H7, I7, n7⟩ := q7; exact again I7 n7
    | cont => obtain ⟨σ7, H7, I7, n7⟩ := q7; exact again I7 n7
    | brk => obtain ⟨σ7, H7, I7, q7⟩ := q7; exact ⟨σ7, H7, I7.unpinned, q7⟩
    | ret v => obtain ⟨x7, σ7, H7, I7, r7, q7⟩ := q7; exact ⟨x7, σ7, H7, I7.unpinned, r7, q7⟩
  · have ei : i = xs.toArray.size := by omega
    rw [ei] at zst
    refine wpAny_passesOwn hp (enumZ_end (I3.ok.hd hc) D hen zst fun h4 k4 => ?_)
    have ei' : i = us.length := by omega
    subst ei'
    refine wpAny_execs_nil ⟨σ3, H3, I3.turnedL (t' := s3.toks) (ch := [z, TO, i1, i2]) k4 fun b hb => stat fr b ?_, fin σ3 H3 pv⟩
    simp only [List.mem_cons, List.not_mem_nil, or_false] at hb ⊢
    rcases hb with r | r | r | r <;> simp [r]
end

/-! ### zip of a tuple and a list -/
def ItzM (K : PySem.W.Frag) (a b : Addr) : It :=
  ⟨fun i H => ∃ (xs ys : List V) (x y : V), SqT K H a xs ∧ SqL K H b ys ∧ xs[i]? = some x ∧ ys[i]? = some y,
    fun i H v H' => ∃ T x y, v = .ref T ∧ H T = none ∧ H' = upd H T (.tup [x, y]) ∧ (∀ xs, SqT K H a xs → xs[i]? = some x) ∧ ∀ ys, SqL K H b ys → ys[i]? = some y,
    fun i H => ∃ xs ys : List V, SqT K H a xs ∧ SqL K H b ys ∧ i = min xs.length ys.length⟩
theorem turn_zipM {P : Program} {w : World} {K : PySem.W.Frag} {elts : List Expr} {kk : Nat} {tpos : Pos} {a b z TI TO i1 i2 : Addr} (S : ZipSep2 z TI TO i1 i2 [i1, a] [i2, b]) (na : a ≠ i1) (nb : b ≠ i2) :
    Turn P w K (.Tuple elts kk tpos) (ItzM K a b) [z, TI, TO, i1, i2] z (fun i h => IsZip h z TI TO .none ∧ IsTupOf2 h TI (.ref i1) (.ref i2) ∧ (∃ x y, IsTupOf2 h TO x y) ∧ h.IsTupleIter i1 a i ∧ h.IsListIter i2 b i) where
  mem := List.mem_cons_self ..
  obj := fun i h ⟨hz, hTI, ⟨x, y, hTO⟩, ⟨o1, e1, _, d1⟩, ⟨o2, e2, _, d2⟩⟩ c hc => by
    simp only [List.mem_cons, List.not_mem_nil, or_false] at hc
    rcases hc with rfl | rfl | rfl | rfl | rfl
    · exact ⟨_, hz, fun v z => nomatch z⟩
    · exact ⟨_, hTI, fun v z => nomatch z⟩
    · exact ⟨_, hTO, fun v z => nomatch z⟩
    · exact ⟨o1, e1, fun v z => by rw [d1] at z; cases z⟩
    · exact ⟨o2, e2, fun v z => by rw [d2] at z; cases z⟩
  keep := fun i h h' ⟨hz, hTI, ⟨x, y, hTO⟩, h1, h2⟩ k =>
    ⟨k z (by simp) _ hz, k TI (by simp) _ hTI, ⟨x, y, k TO (by simp) _ hTO⟩,
      h1.at (fun o e => k i1 (by simp) o e), h2.at (fun o e => k i2 (by simp) o e)⟩
  item := by
    intro X eP ew eK hc i pins s σ H E I hf st hg
    subst eP ew eK
    obtain ⟨hz, hTI, hTO, h1, h2⟩ := st
    obtain ⟨xs, ys, x, y, sx, sy, hx, hy⟩ := hg
    obtain ⟨its, rv, p1, _⟩ := I.tuple sx
    obtain ⟨its2, rv2, p2, _⟩ := I.list sy
    obtain ⟨u, hu, ru⟩ := rv.get hx
    obtain ⟨u2, hu2, ru2⟩ := rv2.get hy
    have hd : X.A.in1.handled = none := by simp [I.ok.hd hc]
    have lu := (List.getElem?_eq_some_iff.mp hu).1
    have lu2 := (List.getElem?_eq_some_iff.mp hu2).1
    refine (GoesN.zip2 S (Draws.tuple hd i1 a na its.toArray) (Draws.list hd i2 b nb its2.toArray)).goes i s _ E
      (by simp only [List.size_toArray]; omega) ⟨hz, hTI, hTO, ⟨h1, p1⟩, ⟨h2, p2.isList⟩⟩
      fun v h' tk hY st' hk _ => ?_
    obtain ⟨T, v1, v2, rfl, hT, e1, e2, hpair⟩ := hY
    obtain ⟨hz', hTI', hTO', ⟨h1', _⟩, ⟨h2', _⟩⟩ := st'
    have ev1 : v1 = u := by
      have : its[i]? = some v1 := by simpa using e1
      exact Option.some.inj (this.symm.trans hu)
    have ev2 : v2 = u2 := by
      have : its2[i]? = some v2 := by simpa using e2
      exact Option.some.inj (this.symm.trans hu2)
    subst ev1 ev2
    have new : ObjOk X.prog X.w (upd H T (.tup [x, y])) h' T (.tup [x, y]) :=
      ⟨by show 2 ≤ sizeLine; decide, [v1, v2], .cons ru (.cons ru2 .nil), hpair⟩
    have J : Inv X pins σ (upd H T (.tup [x, y])) { s with heap := h', toks := tk } :=
      I.turnedNew (ch := [z, TI, TO, i1, i2]) (fun c o hb e => hk c o (fun m => hb (by
        simp only [List.mem_cons, List.not_mem_nil, or_false] at m ⊢
        rcases m with m | m | m | m <;> simp [m])) e) hf hT new
    refine ⟨.ref T, _, J, rfl, ⟨T, x, y, rfl, I.hok.fresh hT, rfl, fun l hl => ?_, fun l hl => ?_⟩, ⟨hz', hTI', hTO', h1', h2'⟩, fun c hcm => ?_⟩
    · rw [I.tuple_inj hl sx]
      exact hx
    · rw [I.list_inj hl sy]
      exact hy
    · have hlt : c < s.heap.objs.size := by
        obtain ⟨x0, y0, hTO⟩ := hTO
        obtain ⟨o1, g1, _⟩ := h1
        obtain ⟨o2, g2, _⟩ := h2
        simp only [List.mem_cons, List.not_mem_nil, or_false] at hcm
        rcases hcm with rfl | rfl | rfl | rfl | rfl
        · exact Heap.lt_size hz
        · exact Heap.lt_size hTI
        · exact Heap.lt_size hTO
        · exact Heap.lt_size g1
        · exact Heap.lt_size g2
      rw [upd_ne (Nat.ne_of_lt (Nat.lt_of_lt_of_le hlt hT))]
      exact (hf c hcm).1
  done := by
    intro X eP ew eK hc i pins s σ H E I hf st hg
    subst eP ew eK
    obtain ⟨hz, hTI, hTO, h1, h2⟩ := st
    obtain ⟨xs, ys, sx, sy, hi⟩ := hg
    obtain ⟨its, rv, p1, _⟩ := I.tuple sx
    obtain ⟨its2, rv2, p2, _⟩ := I.list sy
    have hd : X.A.in1.handled = none := by simp [I.ok.hd hc]
    have l1 := rv.length
    have l2 := rv2.length
    have hin : i = min its.toArray.size its2.toArray.size := by
      simp only [List.size_toArray]
      omega
    refine (GoesN.zip2 (elts := elts) (x1 := kk) (pos := tpos) S (Draws.tuple hd i1 a na its.toArray) (Draws.list hd i2 b nb its2.toArray)).stops s _ E
      (by rw [← hin]; exact ⟨hz, hTI, hTO, ⟨h1, p1⟩, ⟨h2, p2.isList⟩⟩) fun h' tk hk _ => ?_
    exact I.turnedL (ch := [z, TI, TO, i1, i2]) (fun c o hb e => hk c o (fun m => hb (by
        simp only [List.mem_cons, List.not_mem_nil, or_false] at m ⊢
        rcases m with m | m | m | m <;> simp [m])) e) hf
  self := fun A i s Q E st h => wpAny_pyIter_zip st.1 h
def iZipM (K : PySem.W.Frag) (ta : TA) : TI := fun σ H R => ta σ H fun vs H1 => ∃ a b xs ys, vs = [.ref a, .ref b] ∧ SqT K H1 a xs ∧ SqL K H1 b ys ∧ R (ItzM K a b) H1
theorem pi_zipM {X : Cx} {e e2 : Expr} {ta : TA} {p pos tpos : Pos} {elts : List Expr} {kk : Nat} (hg : Gl X "zip") (hm : X.mg "zip" = none) (ha : PA X [e, e2] ta)
    (hs : starEach [e, e2] X.env = (false, eval e X.env) :: starEach [e2] X.env := by rfl) (hpl : (backTo pos (starEach [e2] X.env)).any (·.1) = false := by rfl) : PI X (.Tuple elts kk tpos) (.Call (.Name "zip" p) [e, e2] [] pos) (iZipM X.K ta) := by
  refine ⟨fun pins s σ H R I h => Call_ (ld_blt I hg hm PyProof.Rows.boot_zip
    (PyProof.Rows.callWith_type1 (thn (ha.run pos pins s σ H _ I h) fun us s1 hh => ?_) hs hpl))⟩
  obtain ⟨vs, H1, I1, r1, a, b, xs, ys, rfl, sx, sy, q⟩ := hh
  obtain ⟨u1, u2, rfl, r2, r3⟩ := vals2 r1
  cases (show u1 = Value.ref a from r2)
  cases (show u2 = Value.ref b from r3)
  obtain ⟨its, rv, p1, _⟩ := I1.tuple sx
  obtain ⟨its2, rv2, p2, _⟩ := I1.list sy
  obtain ⟨o1, ho1, _⟩ := id p1
  have la : a < s1.heap.objs.size := Heap.lt_size ho1
  have lb : b < s1.heap.objs.size := p2.lt
  refine zip_begins2 (begins_tuple a its.toArray) (begins_list b its2.toArray) p1 p2.isList
    fun h' hz hTI hTO g1 g2 hsz hk => wpAny_pyIter_zip hz ?_
  have I2 : Inv X pins σ H1 { s1 with heap := h' } := I1.kept (t' := s1.toks) hk
  refine ⟨s1.heap.objs.size + 4, [s1.heap.objs.size + 4, s1.heap.objs.size + 2, s1.heap.objs.size + 3, s1.heap.objs.size, s1.heap.objs.size + 1], _, _, H1, rfl, I2,
    turn_zipM (zip_sep2 (fp1 := [a]) (fp2 := [b]) (fun c hc => by rw [List.mem_singleton.mp hc]; exact la) (fun c hc => by rw [List.mem_singleton.mp hc]; exact lb)) (Nat.ne_of_lt la) (Nat.ne_of_lt (Nat.lt_succ_of_lt lb)),
    ⟨hz, hTI, ⟨_, _, hTO⟩, ⟨_, g1, rfl, rfl⟩, ⟨_, g2, rfl, rfl⟩⟩, fun c hcm => ?_, q⟩
  have hle : s1.heap.objs.size ≤ c := by
    simp only [List.mem_cons, List.not_mem_nil, or_false] at hcm
    rcases hcm with rfl | rfl | rfl | rfl | rfl
    · exact Nat.le_add_right _ _
    · exact Nat.le_add_right _ _
    · exact Nat.le_add_right _ _
    · exact Nat.le_refl _
    · exact Nat.le_add_right _ _
  exact (I1.fpOk hle (I1.hok.fresh hle))
theorem zipM_go {K : PySem.W.Frag} {a b : Addr} {xs ys : List V} {i : Nat} {H : Hp} (hl : xs.length = ys.length) (hx : SqT K H a xs) (hy : SqL K H b ys) (hi : i < xs.length) : (ItzM K a b).go i H :=
  ⟨xs, ys, _, _, hx, hy, List.getElem?_eq_getElem hi, List.getElem?_eq_getElem (by omega)⟩
theorem zipM_stop {K : PySem.W.Frag} {a b : Addr} {xs ys : List V} {H : Hp} (hl : xs.length = ys.length) (hx : SqT K H a xs) (hy : SqL K H b ys) : (ItzM K a b).stop xs.length H :=
  ⟨xs, ys, hx, hy, by omega⟩
theorem zipM_yld {K : PySem.W.Frag} {a b : Addr} {xs ys : List V} {i : Nat} {H : Hp} {v : V} {H' : Hp} (hx : SqT K H a xs) (hy : SqL K H b ys) (h : (ItzM K a b).yld i H v H') : ∃ T x y, v = .ref T ∧ H T = none ∧ H' = upd H T (.tup [x, y]) ∧ xs[i]? = some x ∧ ys[i]? = some y := by
  obtain ⟨T, x, y, e1, e2, e3, e4, e5⟩ := h
  exact ⟨T, x, y, e1, e2, e3, e4 _ hx, e5 _ hy⟩
/-- a loop over pairs, whatever gives them -/
theorem for_pairs {J : It} {xs ys : List V} {g : TG} {tb : TS} {D : Ends} {σ : L2.St} {H : Hp} (Pv : Nat → L2.St → Hp → Prop) (h0 : Pv 0 σ H) (go : ∀ i σ H, Pv i σ H → i < xs.length → J.go i H) (st : ∀ σ H, Pv xs.length σ H → J.stop xs.length H)
    (yl : ∀ i σ H v H', Pv i σ H → J.yld i H v H' → ∃ T x y, v = .ref T ∧ H T = none ∧ H' = upd H T (.tup [x, y]) ∧ xs[i]? = some x ∧ ys[i]? = some y)
    (hs : ∀ (i : Nat) (x y : V) (T : Addr) (σ : L2.St) (H : Hp), xs[i]? = some x → ys[i]? = some y → Pv i σ H → H T = none → g (.ref T) σ (upd H T (.tup [x, y])) fun σ2 H2 => tb { D with nx := Pv (i + 1), ct := Pv (i + 1), bk := D.nx } σ2 H2) (hd : ∀ σ H, Pv xs.length σ H → D.nx σ H) :
    ∃ W : Nat → Nat → L2.St → Hp → Prop, (∃ m, W 0 m σ H) ∧ ∀ i m σ H, W i m σ H →
      (J.stop i H ∧ D.nx σ H) ∨ (J.go i H ∧ ∃ N : L2.St → Hp → Prop, (∀ σ' H', N σ' H' → ∃ m', m' < m ∧ W (i + 1) m' σ' H') ∧ ∀ v H', J.yld i H v H' → g v σ H' fun σ2 H2 => tb { D with nx := N, ct := N, bk := D.nx } σ2 H2) := by
  refine ⟨fun i m σ H => m = xs.length - i ∧ i ≤ xs.length ∧ Pv i σ H,
    ⟨xs.length, by omega, Nat.zero_le _, h0⟩, fun i m σ H hW => ?_⟩
  obtain ⟨rfl, hi, hp⟩ := hW
  rcases Nat.lt_or_ge i xs.length with lt | ge
  · refine .inr ⟨go i σ H hp lt, Pv (i + 1), fun σ' H' z => ⟨xs.length - (i + 1), by omega, rfl, by omega, z⟩, fun v H' hv => ?_⟩
    obtain ⟨T, x, y, rfl, nT, rfl, hx, hy⟩ := yl i σ H v H' hp hv
    exact hs i x y T σ H hx hy hp nT
  · have e : i = xs.length := by omega
    subst e
    exact .inl ⟨st σ H hp, hd σ H hp⟩
/-- a comprehension over pairs, whatever gives them -/
theorem lc_pairs {J : It} {xs ys : List V} {g : TG} {tt : TT} {te : TE} {vs : List Nat} {σ : L2.St} {H1 : Hp} {D : Addr} {Qd : Hp → Prop} (Pv : Nat → Hp → Prop) (h0 : Pv 0 (upd H1 D (.lst []))) (go : ∀ i H, Pv i H → i < xs.length → J.go i H) (st : ∀ H, Pv xs.length H → J.stop xs.length H)
    (yl : ∀ i H v H', Pv i H → J.yld i H v H' → ∃ T x y, v = .ref T ∧ H T = none ∧ H' = upd H T (.tup [x, y]) ∧ xs[i]? = some x ∧ ys[i]? = some y)
    (hs : ∀ (i : Nat) (x y : V) (T : Addr) (H : Hp), xs[i]? = some x → ys[i]? = some y → Pv i H → H T = none → g (.ref T) (wipe σ vs) (upd H T (.tup [x, y])) fun σ2 H2 => wipe σ2 vs = wipe σ vs ∧ tt σ2 H2 fun b H3 =>
      if b = true then te σ2 H3 fun z H4 => ∃ acc, H4 D = some (.lst acc) ∧ acc.length < sizeLine ∧ Pv (i + 1) (upd H4 D (.lst (acc ++ [z]))) else Pv (i + 1) H3) (hd : ∀ H, Pv xs.length H → Qd H) :
    ∃ W : Nat → Nat → Hp → Prop, (∃ m, W 0 m (upd H1 D (.lst []))) ∧ ∀ i m H, W i m H →
      (J.stop i H ∧ Qd H) ∨ (J.go i H ∧ ∃ Nx : Hp → Prop, (∀ H', Nx H' → ∃ m', m' < m ∧ W (i + 1) m' H') ∧ ∀ x H', J.yld i H x H' → g x (wipe σ vs) H' fun σ2 H2 => wipe σ2 vs = wipe σ vs ∧ tt σ2 H2 fun b H3 =>
        if b = true then te σ2 H3 fun y H4 => ∃ acc, H4 D = some (.lst acc) ∧ acc.length < sizeLine ∧ Nx (upd H4 D (.lst (acc ++ [y]))) else Nx H3) := by
  refine ⟨fun i m H => m = xs.length - i ∧ i ≤ xs.length ∧ Pv i H,
    ⟨xs.length, by omega, Nat.zero_le _, h0⟩, fun i m H hW => ?_⟩
  obtain ⟨rfl, hi, hp⟩ := hW
  rcases Nat.lt_or_ge i xs.length with lt | ge
  · refine .inr ⟨go i H hp lt, Pv (i + 1), fun H' z => ⟨xs.length - (i + 1), by omega, rfl, by omega, z⟩, fun v H' hv => ?_⟩
    obtain ⟨T, x, y, rfl, nT, rfl, hx, hy⟩ := yl i H v H' hp hv
    exact hs i x y T H hx hy hp nT
  · have e : i = xs.length := by omega
    subst e
    exact .inl ⟨st H hp, hd H hp⟩

/-! ### the first moment at which two are unlike -/
def Prt {α : Type} (f g : Nat → α) : Option Nat → Prop
  | none => ∀ t, f t = g t
  | some t => f t ≠ g t ∧ ∀ j, j < t → f j = g j
theorem Prt.uniq {α : Type} {f g : Nat → α} {r q : Option Nat} (a : Prt f g r) (b : Prt f g q) : r = q := by
  cases r with
  | none =>
    cases q with
    | none => rfl
    | some t => exact absurd (a t) b.1
  | some t =>
    cases q with
    | none => exact absurd (b t) a.1
    | some u =>
      rcases Nat.lt_trichotomy t u with h | h | h
      · exact absurd (b.2 t h) a.1
      · rw [h]
      · exact absurd (a.2 u h) b.1
/-- two that come again and again, alike for as long as both together -/
theorem prt_ever {α : Type} {f g : Nat → α} {a m b n E : Nat} (m1 : 1 ≤ m) (n1 : 1 ≤ n) (hf : ∀ t, a ≤ t → f (t + m) = f t) (hg : ∀ t, b ≤ t → g (t + n) = g t) (hE : max a b + m + n ≤ E) (h : ∀ t, t < E → f t = g t) : ∀ t, f t = g t := by
  intro t
  induction t using Nat.strongRecOn with
  | ind t ih =>
    rcases Nat.lt_or_ge t E with lt | ge
    · exact h t lt
    · have ha : a ≤ max a b := Nat.le_max_left a b
      have hb : b ≤ max a b := Nat.le_max_right a b
      obtain ⟨u, hu⟩ : ∃ u, t = u + m + n := ⟨t - m - n, by omega⟩
      have e1 : f (u + n + m) = f (u + n) := hf (u + n) (by omega)
      have e2 : g (u + m + n) = g (u + m) := hg (u + m) (by omega)
      have e3 : f (u + m) = f u := hf u (by omega)
      have e4 : g (u + n) = g u := hg u (by omega)
      have i1 : f (u + n) = g (u + n) := ih _ (by omega)
      have i2 : f (u + m) = g (u + m) := ih _ (by omega)
      have i3 : f u = g u := ih _ (by omega)
      rw [hu, e2, ← i2, e3, show u + m + n = u + n + m by omega, e1, i1, e4, i3]
def natV : Option Nat → V
  | none => .non
  | some n => .int (n : Int)
def Fu (ds es : List PyData) : Option Nat → Prop
  | none => ds = es
  | some i => (∃ d e, ds[i]? = some d ∧ es[i]? = some e ∧ d ≠ e) ∧ ∀ j, j < i → ds[j]? = es[j]?
theorem prt_fu {α : Type} {F : α → PyData} (inj : ∀ a b, F a = F b → a = b) {f g : Nat → α} {E : Nat} {r : Option Nat} (h : Fu ((List.range E).map fun i => F (f i)) ((List.range E).map fun i => F (g i)) r) (full : (∀ t, t < E → f t = g t) → ∀ t, f t = g t) : Prt f g r := by
  have at' : ∀ (k : Nat → α) {i : Nat}, i < E → ((List.range E).map fun i => F (k i))[i]? = some (F (k i)) := fun k {i} hi => by
    rw [List.getElem?_map, List.getElem?_range hi]
    rfl
  cases r with
  | none =>
    refine full fun t ht => ?_
    have e : ((List.range E).map fun i => F (f i)) = ((List.range E).map fun i => F (g i)) := h
    have := at' f ht
    rw [e, at' g ht] at this
    exact (inj _ _ (Option.some.inj this)).symm
  | some i =>
    obtain ⟨⟨d, e, h1, h2, ne⟩, h3⟩ := h
    have hi : i < E := by
      rcases Nat.lt_or_ge i E with z | z
      · exact z
      · rw [List.getElem?_eq_none (by rw [List.length_map, List.length_range]; exact z)] at h1
        cases h1
    rw [at' f hi] at h1
    rw [at' g hi] at h2
    cases h1
    cases h2
    refine ⟨fun z => ne (by rw [z]), fun j hj => ?_⟩
    have := h3 j hj
    rw [at' f (by omega), at' g (by omega)] at this
    exact inj _ _ (Option.some.inj this)
def pcN (ls : List LY) (x y : Int) (ms : List MV) (t : Nat) : PIC := pic ls x y ms (t : Int)
theorem pcN_eq {ls1 ls2 : List LY} {x1 y1 x2 y2 : Int} {ms1 ms2 : List MV} (hl : ls1.length = ls2.length) {t : Nat} : pcN ls1 x1 y1 ms1 t = pcN ls2 x2 y2 ms2 t ↔ (∀ (i : Nat) (l1 l2 : LY), ls1[i]? = some l1 → ls2[i]? = some l2 → shN l1.1 l1.2 t = shN l2.1 l2.2 t) ∧ plN x1 y1 ms1 t = plN x2 y2 ms2 t := by
  constructor
  · intro h
    obtain ⟨h1, h2⟩ := Prod.mk.inj h
    refine ⟨fun i l1 l2 e1 e2 => ?_, h2⟩
    have : (ls1.map fun l => shown l.1 l.2 (t : Int))[i]? = (ls2.map fun l => shown l.1 l.2 (t : Int))[i]? := by rw [h1]
    rw [List.getElem?_map, List.getElem?_map, e1, e2] at this
    exact Option.some.inj this
  · rintro ⟨h1, h2⟩
    refine Prod.ext ?_ h2
    refine List.ext_getElem? fun i => ?_
    show (ls1.map fun l => shown l.1 l.2 (t : Int))[i]? = (ls2.map fun l => shown l.1 l.2 (t : Int))[i]?
    rw [List.getElem?_map, List.getElem?_map]
    rcases Nat.lt_or_ge i ls1.length with lt | ge
    · have e1 := List.getElem?_eq_getElem lt
      have e2 : ls2[i]? = some (ls2[i]'(by omega)) := List.getElem?_eq_getElem (by omega)
      rw [e1, e2]
      exact congrArg some (h1 i _ _ e1 e2)
    · rw [List.getElem?_eq_none ge, List.getElem?_eq_none (by omega)]
/-- of pictures, by layers and places -/
theorem prt_pic {ls1 ls2 : List LY} {x1 y1 x2 y2 : Int} {ms1 ms2 : List MV} (hl : ls1.length = ls2.length) {rs : List (Option Nat)} {rw' : Option Nat} (lr : rs.length = ls1.length)
    (hp : ∀ (i : Nat) (l1 l2 : LY) (r : Option Nat), ls1[i]? = some l1 → ls2[i]? = some l2 → rs[i]? = some r → Prt (shN l1.1 l1.2) (shN l2.1 l2.2) r) (hw : Prt (plN x1 y1 ms1) (plN x2 y2 ms2) rw') :
    ((∀ r ∈ rs ++ [rw'], r = none) → Prt (pcN ls1 x1 y1 ms1) (pcN ls2 x2 y2 ms2) none) ∧ ∀ m, some m ∈ rs ++ [rw'] → (∀ k, some k ∈ rs ++ [rw'] → m ≤ k) → Prt (pcN ls1 x1 y1 ms1) (pcN ls2 x2 y2 ms2) (some m) := by
  have at' : ∀ i, i < ls1.length → ∃ r, rs[i]? = some r := fun i hi => ⟨_, List.getElem?_eq_getElem (show i < rs.length by omega)⟩
  refine ⟨fun all t => (pcN_eq hl).mpr ⟨fun i l1 l2 e1 e2 => ?_, ?_⟩, fun m hm least => ⟨fun z => ?_, fun j hj => (pcN_eq hl).mpr ⟨fun i l1 l2 e1 e2 => ?_, ?_⟩⟩⟩
  · obtain ⟨r, hr⟩ := at' i (List.getElem?_eq_some_iff.mp e1).1
    have p := hp i l1 l2 r e1 e2 hr
    rw [all r (List.mem_append_left _ (List.mem_of_getElem? hr))] at p
    exact p t
  · rw [all rw' (by simp)] at hw
    exact hw t
  · obtain ⟨z1, z2⟩ := (pcN_eq hl).mp z
    rcases List.mem_append.mp hm with h | h
    · obtain ⟨i, hi, ei⟩ := List.getElem_of_mem h
      have i1 : i < ls1.length := by omega
      have e1 := List.getElem?_eq_getElem i1
      have e2 : ls2[i]? = some (ls2[i]'(by omega)) := List.getElem?_eq_getElem (by omega)
      have p := hp i _ _ (some m) e1 e2 (by rw [List.getElem?_eq_getElem hi, ei])
      exact p.1 (z1 i _ _ e1 e2)
    · rw [← List.mem_singleton.mp h] at hw
      exact hw.1 z2
  · obtain ⟨r, hr⟩ := at' i (List.getElem?_eq_some_iff.mp e1).1
    have p := hp i l1 l2 r e1 e2 hr
    cases r with
    | none => exact p j
    | some k =>
      have := least k (List.mem_append_left _ (List.mem_of_getElem? hr))
      exact p.2 j (by omega)
  · cases rw' with
    | none => exact hw j
    | some k =>
      have := least k (by simp)
      exact hw.2 j (by omega)

/-! ### lengths -/
def lenL (l : LY) : Option Int := match l.2 with
  | none => some (tot l.1)
  | some _ => none
/-- r is the length of a sheet -/
def ShLen (ls : List LY) (last : Int) (r : Option Int) : Prop :=
  ((∃ l ∈ ls, lenL l = none) ∧ r = none) ∨ ((∀ l ∈ ls, lenL l = some (tot l.1)) ∧ ∃ m, r = some m ∧ m ∈ ls.map (fun l => tot l.1) ++ [last] ∧ ∀ y ∈ ls.map (fun l => tot l.1) ++ [last], y ≤ m)
theorem ShLen.uniq {ls : List LY} {last : Int} {r q : Option Int} (a : ShLen ls last r) (b : ShLen ls last q) : r = q := by
  rcases a with ⟨⟨l, hl, e⟩, rfl⟩ | ⟨h, m, rfl, hm, hx⟩
  · rcases b with ⟨_, rfl⟩ | ⟨h, _⟩
    · rfl
    · rw [h l hl] at e
      cases e
  · rcases b with ⟨⟨l, hl, e⟩, rfl⟩ | ⟨_, m', rfl, hm', hx'⟩
    · rw [h l hl] at e
      cases e
    · have := hx m' hm'
      have := hx' m hm
      congr 1
      omega
theorem bk_flat (o : Option Int) : flatV (bkV o) = true := by
  cases o <;> rfl
theorem in_ends (ls : List LY) : inV .non (ls.map fun l => bkV (lenL l)) = true ↔ ∃ l ∈ ls, lenL l = none := by
  unfold inV
  rw [List.any_eq_true]
  constructor
  · rintro ⟨y, hy, e⟩
    obtain ⟨l, hl, rfl⟩ := List.mem_map.mp hy
    refine ⟨l, hl, ?_⟩
    cases z : lenL l with
    | none => rfl
    | some i =>
      rw [z] at e
      cases e
  · rintro ⟨l, hl, e⟩
    exact ⟨_, List.mem_map.mpr ⟨l, hl, rfl⟩, by rw [e]; rfl⟩
theorem all_ints {ls : List LY} (h : ¬ ∃ l ∈ ls, lenL l = none) : (∀ l ∈ ls, lenL l = some (tot l.1)) ∧ (ls.map fun l => bkV (lenL l)) = (ls.map fun l => tot l.1).map V.int := by
  have h1 : ∀ l ∈ ls, lenL l = some (tot l.1) := fun l hl => by
    cases z : l.2 with
    | none =>
      unfold lenL
      rw [z]
    | some i =>
      exact absurd ⟨l, hl, by unfold lenL; rw [z]⟩ h
  refine ⟨h1, ?_⟩
  rw [List.map_map]
  exact List.map_congr_left fun l hl => by rw [h1 l hl]; rfl

/-! ### a window set aside -/
theorem gcd_aside (t b r : Int) : Nat.gcd (t + r * b).natAbs b.natAbs = Nat.gcd t.natAbs b.natAbs := by
  apply Nat.dvd_antisymm
  · apply Nat.dvd_gcd
    · have h1 : ((Nat.gcd (t + r * b).natAbs b.natAbs : Nat) : Int) ∣ t + r * b := Int.ofNat_dvd_left.mpr (Nat.gcd_dvd_left ..)
      have h2 : ((Nat.gcd (t + r * b).natAbs b.natAbs : Nat) : Int) ∣ b := Int.ofNat_dvd_left.mpr (Nat.gcd_dvd_right ..)
      have h3 : ((Nat.gcd (t + r * b).natAbs b.natAbs : Nat) : Int) ∣ t := by
        have := Int.dvd_sub h1 (Int.dvd_trans h2 (Int.dvd_mul_left r b))
        rwa [Int.add_sub_cancel] at this
      exact Int.ofNat_dvd_left.mp h3
    · exact Nat.gcd_dvd_right ..
  · apply Nat.dvd_gcd
    · have h1 : ((Nat.gcd t.natAbs b.natAbs : Nat) : Int) ∣ t := Int.ofNat_dvd_left.mpr (Nat.gcd_dvd_left ..)
      have h2 : ((Nat.gcd t.natAbs b.natAbs : Nat) : Int) ∣ b := Int.ofNat_dvd_left.mpr (Nat.gcd_dvd_right ..)
      exact Int.ofNat_dvd_left.mp (Int.dvd_add h1 (Int.dvd_trans h2 (Int.dvd_mul_left r b)))
    · exact Nat.gcd_dvd_right ..
theorem lo_aside {t b r : Int} : lo (t + r * b) b = ((lo t b).1 + r * (lo t b).2, (lo t b).2) := by
  unfold lo
  rw [gcd_aside]
  have h1 : ((Nat.gcd t.natAbs b.natAbs : Nat) : Int) ∣ b := Int.ofNat_dvd_left.mpr (Nat.gcd_dvd_right ..)
  have h0 : ((Nat.gcd t.natAbs b.natAbs : Nat) : Int) ∣ t := Int.ofNat_dvd_left.mpr (Nat.gcd_dvd_left ..)
  refine Prod.ext ?_ rfl
  show (t + r * b) / _ = t / _ + r * (b / _)
  rw [Int.add_ediv_of_dvd_left h0, Int.mul_ediv_assoc r h1]
def shft (p : RW) (r : Int) : RW := (p.1 + r * p.2, p.2)
theorem plc_aside (rx ry : Int) : ∀ (ms : List MV) (x y t : Int), (∀ m ∈ ms, VMove m) → plc (x + rx) (y + ry) (ms.map fun m => (m.1 + rx, m.2.1 + ry, m.2.2)) t = (shft (plc x y ms t).1 rx, shft (plc x y ms t).2 ry)
  | [], x, y, t, _ => by
    show ((x + rx, 1), (y + ry, 1)) = ((x + rx * 1, 1), (y + ry * 1, 1))
    rw [Int.mul_one, Int.mul_one]
  | m :: r, x, y, t, v => by
    rw [List.map_cons, plc_cons, plc_cons]
    show (if t < m.2.2 then _ else _) = _
    by_cases c : t < m.2.2
    · rw [if_pos c, if_pos c]
      have e : ∀ x g rr : Int, (x + rr) * m.2.2 + (g + rr - (x + rr)) * (t + 1) = x * m.2.2 + (g - x) * (t + 1) + rr * m.2.2 := fun x g rr => by
        rw [show g + rr - (x + rr) = g - x by omega, Int.add_mul]
        omega
      show (lo ((x + rx) * m.2.2 + (m.1 + rx - (x + rx)) * (t + 1)) m.2.2, lo ((y + ry) * m.2.2 + (m.2.1 + ry - (y + ry)) * (t + 1)) m.2.2) = _
      rw [e, e, lo_aside, lo_aside]
      rfl
    · rw [if_neg c, if_neg c]
      exact plc_aside rx ry r m.1 m.2.1 (t - m.2.2) fun q hq => v q (List.mem_cons_of_mem _ hq)
theorem plc_swap : ∀ (ms : List MV) (x y t : Int), plc y x (ms.map fun m => (m.2.1, m.1, m.2.2)) t = ((plc x y ms t).2, (plc x y ms t).1)
  | [], x, y, t => rfl
  | m :: r, x, y, t => by
    rw [List.map_cons, plc_cons, plc_cons]
    show (if t < m.2.2 then _ else _) = _
    by_cases c : t < m.2.2
    · rw [if_pos c, if_pos c]
    · rw [if_neg c, if_neg c]
      exact plc_swap r m.1 m.2.1 (t - m.2.2)
theorem shft_inj {p q : RW} {r : Int} (h : shft p r = shft q r) : p = q := by
  obtain ⟨h1, h2⟩ := Prod.mk.inj h
  refine Prod.ext ?_ h2
  have h2 : p.2 = q.2 := h2
  have h1 : p.1 + r * p.2 = q.1 + r * q.2 := h1
  rw [h2] at h1
  omega
/-! ### layers named otherwise -/
theorem walk_named (f : Int → Int) (f0 : f 0 = 0) : ∀ (rs : List RW) (m : Int), walk (rs.map fun r => (f r.1, r.2)) m = f (walk rs m)
  | [], _ => f0.symm
  | r :: t, m => by
    rw [List.map_cons, walk_cons, walk_cons]
    show (if m < r.2 then _ else _) = _
    by_cases c : m < r.2
    · rw [if_pos c, if_pos c]
    · rw [if_neg c, if_neg c]
      exact walk_named f f0 t (m - r.2)
theorem tot_named (f : Int → Int) : ∀ rs : List RW, tot (rs.map fun r => (f r.1, r.2)) = tot rs
  | [] => rfl
  | r :: t => by
    rw [List.map_cons, tot_cons, tot_cons, tot_named f t]
theorem shown_named (f : Int → Int) (f0 : f 0 = 0) (rs : List RW) (bk : Option Int) (m : Int) : shown (rs.map fun r => (f r.1, r.2)) bk m = f (shown rs bk m) := by
  have e : near (rs.map fun r => (f r.1, r.2)) bk m = near rs bk m := by
    cases bk with
    | none => rfl
    | some b =>
      show (if m < tot ((rs.map fun r => (f r.1, r.2)).take b.toNat) then m else tot ((rs.map fun r => (f r.1, r.2)).take b.toNat) + (m - tot ((rs.map fun r => (f r.1, r.2)).take b.toNat)) % tot ((rs.map fun r => (f r.1, r.2)).drop b.toNat)) = _
      rw [← List.map_take, ← List.map_drop, tot_named, tot_named]
      rfl
  unfold shown
  rw [e, walk_named f f0]

/-! ### layers and windows of a kind: alike at the same moments -/
def Kin (f g : Nat → Int) : Prop := ∀ s t, f s = f t ↔ g s = g t
theorem Kin.symm {f g : Nat → Int} (h : Kin f g) : Kin g f := fun s t => (h s t).symm
theorem Lst.kin {f g : Nat → Int} (h : Kin f g) {a m : Nat} (l : Lst f a m) : Lst g a m :=
  ⟨l.m1, fun t ht => (h _ _).mp (l.per t ht), fun n B hB => l.dvd n B fun t ht => (h _ _).mpr (hB t ht), fun b hb e => l.fst b hb ((h _ _).mpr e)⟩
theorem ShR.kin {ls ks : List LY} {x y x' y' : Int} {ms ns : List MV} {a m : Nat} (h : ShR ls x y ms a m) (h1 : ∀ l ∈ ls, ∃ k ∈ ks, Kin (shN l.1 l.2) (shN k.1 k.2)) (h2 : ∀ k ∈ ks, ∃ l ∈ ls, Kin (shN l.1 l.2) (shN k.1 k.2))
    (hw : ∀ s t, plN x y ms s = plN x y ms t ↔ plN x' y' ns s = plN x' y' ns t) : ShR ks x' y' ns a m := by
  refine ⟨h.m1, fun k hk t ht => ?_, fun t ht => (hw _ _).mp (h.perW t ht), fun n hn => h.dvd n fun l hl a' m' hl' => ?_, fun b hb => ?_⟩
  · obtain ⟨l, hl, kin⟩ := h2 k hk
    exact (kin _ _).mp (h.perL l hl t ht)
  · obtain ⟨k, hk, kin⟩ := h1 l hl
    exact hn k hk a' m' (hl'.kin kin)
  · rcases h.fst b hb with ⟨l, hl, ne⟩ | ne
    · obtain ⟨k, hk, kin⟩ := h1 l hl
      exact .inl ⟨k, hk, fun e => ne ((kin _ _).mpr e)⟩
    · exact .inr fun e => ne ((hw _ _).mpr e)
theorem ShLen.kin {ls ks : List LY} {last : Int} {r : Option Int} (h : ShLen ls last r) (h1 : ∀ l ∈ ls, ∃ k ∈ ks, lenL k = lenL l ∧ tot k.1 = tot l.1) (h2 : ∀ k ∈ ks, ∃ l ∈ ls, lenL k = lenL l ∧ tot k.1 = tot l.1) : ShLen ks last r := by
  rcases h with ⟨⟨l, hl, e⟩, rfl⟩ | ⟨h, m, rfl, hm, hx⟩
  · obtain ⟨k, hk, e1, _⟩ := h1 l hl
    exact .inl ⟨⟨k, hk, e1.trans e⟩, rfl⟩
  · refine .inr ⟨fun k hk => ?_, m, rfl, ?_, fun y hy => ?_⟩
    · obtain ⟨l, hl, e1, e2⟩ := h2 k hk
      rw [e1, e2]
      exact h l hl
    · rcases List.mem_append.mp hm with z | z
      · obtain ⟨l, hl, rfl⟩ := List.mem_map.mp z
        obtain ⟨k, hk, _, e2⟩ := h1 l hl
        exact List.mem_append_left _ (List.mem_map.mpr ⟨k, hk, e2⟩)
      · exact List.mem_append_right _ z
    · rcases List.mem_append.mp hy with z | z
      · obtain ⟨k, hk, rfl⟩ := List.mem_map.mp z
        obtain ⟨l, hl, _, e2⟩ := h2 k hk
        exact hx _ (List.mem_append_left _ (List.mem_map.mpr ⟨l, hl, e2.symm⟩))
      · exact hx _ (List.mem_append_right _ z)
theorem kin_named (f : Int → Int) (f0 : f 0 = 0) {rs : List RW} {bk : Option Int} (hd : ∀ s t, f (shN rs bk s) = f (shN rs bk t) → shN rs bk s = shN rs bk t) : Kin (shN rs bk) (shN (rs.map fun r => (f r.1, r.2)) bk) := fun s t => by
  show _ ↔ shown (rs.map fun r => (f r.1, r.2)) bk (s : Nat) = shown (rs.map fun r => (f r.1, r.2)) bk (t : Nat)
  rw [shown_named f f0, shown_named f f0]
  exact ⟨fun e => congrArg f e, hd s t⟩

/-! ### partings of a kind -/
theorem Prt.like {α β : Type} {f1 f2 : Nat → α} {g1 g2 : Nat → β} (h : ∀ t, f1 t = f2 t ↔ g1 t = g2 t) {r : Option Nat} (p : Prt f1 f2 r) : Prt g1 g2 r := by
  cases r with
  | none => exact fun t => (h t).mp (p t)
  | some n => exact ⟨fun e => p.1 ((h n).mpr e), fun j hj => (h j).mp (p.2 j hj)⟩
/-- two sheets with the same layers are parted where their windows are -/
theorem prt_win {ls : List LY} {x y x' y' : Int} {ms ns : List MV} {r : Option Nat} : Prt (pcN ls x y ms) (pcN ls x' y' ns) r ↔ Prt (plN x y ms) (plN x' y' ns) r := by
  have h : ∀ t, pcN ls x y ms t = pcN ls x' y' ns t ↔ plN x y ms t = plN x' y' ns t := fun t =>
    ⟨fun e => ((pcN_eq rfl).mp e).2, fun e => (pcN_eq rfl).mpr ⟨fun i l1 l2 e1 e2 => by rw [e1] at e2; cases e2; rfl, e⟩⟩
  exact ⟨fun p => p.like h, fun p => p.like fun t => (h t).symm⟩

/-! ### the text -/
def topS (i : Nat) : Stmt := PySem.Challenge.pw_lanternrows_k15_things_named_otherwise.main.body.getD i (.Pass ⟨0, 0, 0, 0⟩)
abbrev s_is_whole_from : Stmt := topS 7
theorem sc_is_whole_from : FnScope ["thing", "least"] ["thing", "least"] (defScope s_is_whole_from) := ⟨rfl, rfl, rfl, by decide +kernel, rfl, by decide +kernel, by decide +kernel⟩
abbrev s_is_whole : Stmt := topS 8
theorem sc_is_whole : FnScope ["thing", "least", "most"] ["thing", "least", "most"] (defScope s_is_whole) := ⟨rfl, rfl, rfl, by decide +kernel, rfl, by decide +kernel, by decide +kernel⟩
abbrev s_need_moment : Stmt := topS 9
theorem sc_need_moment : FnScope ["thing"] ["thing"] (defScope s_need_moment) := ⟨rfl, rfl, rfl, by decide +kernel, rfl, by decide +kernel, by decide +kernel⟩
abbrev s_is_tuple : Stmt := topS 18
theorem sc_is_tuple : FnScope ["thing", "least", "most"] ["thing", "least", "most"] (defScope s_is_tuple) := ⟨rfl, rfl, rfl, by decide +kernel, rfl, by decide +kernel, by decide +kernel⟩
abbrev s_is_drawing : Stmt := topS 19
theorem sc_is_drawing : FnScope ["thing"] ["thing"] (defScope s_is_drawing) := ⟨rfl, rfl, rfl, by decide +kernel, rfl, by decide +kernel, by decide +kernel⟩
abbrev s_is_hold : Stmt := topS 20
theorem sc_is_hold : FnScope ["thing"] ["thing"] (defScope s_is_hold) := ⟨rfl, rfl, rfl, by decide +kernel, rfl, by decide +kernel, by decide +kernel⟩
abbrev s_is_row : Stmt := topS 21
theorem sc_is_row : FnScope ["thing", "drawing", "hold"] ["thing"] (defScope s_is_row) := ⟨rfl, rfl, rfl, by decide +kernel, rfl, by decide +kernel, by decide +kernel⟩
abbrev s_is_layer : Stmt := topS 22
theorem sc_is_layer : FnScope ["thing", "rows", "back", "row"] ["thing"] (defScope s_is_layer) := ⟨rfl, rfl, rfl, by decide +kernel, rfl, by decide +kernel, by decide +kernel⟩
abbrev s_is_way : Stmt := topS 23
theorem sc_is_way : FnScope ["thing"] ["thing"] (defScope s_is_way) := ⟨rfl, rfl, rfl, by decide +kernel, rfl, by decide +kernel, by decide +kernel⟩
abbrev s_is_many : Stmt := topS 24
theorem sc_is_many : FnScope ["thing"] ["thing"] (defScope s_is_many) := ⟨rfl, rfl, rfl, by decide +kernel, rfl, by decide +kernel, by decide +kernel⟩
abbrev s_is_move : Stmt := topS 25
theorem sc_is_move : FnScope ["thing", "x", "y", "many"] ["thing"] (defScope s_is_move) := ⟨rfl, rfl, rfl, by decide +kernel, rfl, by decide +kernel, by decide +kernel⟩
abbrev s_is_window : Stmt := topS 26
theorem sc_is_window : FnScope ["thing", "x", "y", "moves", "move"] ["thing"] (defScope s_is_window) := ⟨rfl, rfl, rfl, by decide +kernel, rfl, by decide +kernel, by decide +kernel⟩
abbrev s_is_sheet : Stmt := topS 27
theorem sc_is_sheet : FnScope ["thing", "layers", "window", "layer"] ["thing"] (defScope s_is_sheet) := ⟨rfl, rfl, rfl, by decide +kernel, rfl, by decide +kernel, by decide +kernel⟩
abbrev s_need_sheet : Stmt := topS 28
theorem sc_need_sheet : FnScope ["thing"] ["thing"] (defScope s_need_sheet) := ⟨rfl, rfl, rfl, by decide +kernel, rfl, by decide +kernel, by decide +kernel⟩
abbrev s_need_as_many_layers : Stmt := topS 29
theorem sc_need_as_many_layers : FnScope ["one", "other"] ["one", "other"] (defScope s_need_as_many_layers) := ⟨rfl, rfl, rfl, by decide +kernel, rfl, by decide +kernel, by decide +kernel⟩
abbrev s_held : Stmt := topS 30
theorem sc_held : FnScope ["rows", "drawing", "hold"] ["rows"] (defScope s_held) := ⟨rfl, rfl, rfl, by decide +kernel, rfl, by decide +kernel, by decide +kernel⟩
abbrev s_length_of : Stmt := topS 31
theorem sc_length_of : FnScope ["layer", "rows", "back"] ["layer"] (defScope s_length_of) := ⟨rfl, rfl, rfl, by decide +kernel, rfl, by decide +kernel, by decide +kernel⟩
abbrev s_moved : Stmt := topS 32
theorem sc_moved : FnScope ["window", "x", "y", "moves", "goal_x", "goal_y", "many"] ["window"] (defScope s_moved) := ⟨rfl, rfl, rfl, by decide +kernel, rfl, by decide +kernel, by decide +kernel⟩
abbrev s_full_length : Stmt := topS 33
theorem sc_full_length : FnScope ["sheet", "layers", "window", "lengths", "layer"] ["sheet"] (defScope s_full_length) := ⟨rfl, rfl, rfl, by decide +kernel, rfl, by decide +kernel, by decide +kernel⟩
abbrev s_sheet_length : Stmt := topS 34
theorem sc_sheet_length : FnScope ["sheet"] ["sheet"] (defScope s_sheet_length) := ⟨rfl, rfl, rfl, by decide +kernel, rfl, by decide +kernel, by decide +kernel⟩
abbrev s_first_time : Stmt := topS 36
theorem sc_first_time : FnScope ["rows", "back", "moment", "ahead", "around"] ["rows", "back", "moment"] (defScope s_first_time) := ⟨rfl, rfl, rfl, by decide +kernel, rfl, by decide +kernel, by decide +kernel⟩
abbrev s_drawing_of : Stmt := topS 37
theorem sc_drawing_of : FnScope ["layer", "moment", "rows", "back", "left", "drawing", "hold"] ["layer", "moment"] (defScope s_drawing_of) := ⟨rfl, rfl, rfl, by decide +kernel, rfl, by decide +kernel, by decide +kernel⟩
abbrev s_common_divisor : Stmt := topS 38
theorem sc_common_divisor : FnScope ["one", "other"] ["one", "other"] (defScope s_common_divisor) := ⟨rfl, rfl, rfl, by decide +kernel, rfl, by decide +kernel, by decide +kernel⟩
abbrev s_lowest : Stmt := topS 39
theorem sc_lowest : FnScope ["top", "bottom", "divisor"] ["top", "bottom"] (defScope s_lowest) := ⟨rfl, rfl, rfl, by decide +kernel, rfl, by decide +kernel, by decide +kernel⟩
abbrev s_on_the_way : Stmt := topS 40
theorem sc_on_the_way : FnScope ["start", "goal", "step", "many"] ["start", "goal", "step", "many"] (defScope s_on_the_way) := ⟨rfl, rfl, rfl, by decide +kernel, rfl, by decide +kernel, by decide +kernel⟩
abbrev s_place_of : Stmt := topS 41
theorem sc_place_of : FnScope ["window", "moment", "x", "y", "moves", "left", "goal_x", "goal_y", "many", "step"] ["window", "moment"] (defScope s_place_of) := ⟨rfl, rfl, rfl, by decide +kernel, rfl, by decide +kernel, by decide +kernel⟩
abbrev s_picture_of : Stmt := topS 42
theorem sc_picture_of : FnScope ["sheet", "moment", "layers", "window", "drawings", "layer"] ["sheet", "moment"] (defScope s_picture_of) := ⟨rfl, rfl, rfl, by decide +kernel, rfl, by decide +kernel, by decide +kernel⟩
abbrev s_picture_at : Stmt := topS 43
theorem sc_picture_at : FnScope ["sheet", "moment"] ["sheet", "moment"] (defScope s_picture_at) := ⟨rfl, rfl, rfl, by decide +kernel, rfl, by decide +kernel, by decide +kernel⟩
abbrev s_drawings_of : Stmt := topS 45
theorem sc_drawings_of : FnScope ["rows", "drawing", "hold", "turn"] ["rows"] (defScope s_drawings_of) := ⟨rfl, rfl, rfl, by decide +kernel, rfl, by decide +kernel, by decide +kernel⟩
abbrev s_ahead_and_around : Stmt := topS 46
theorem sc_ahead_and_around : FnScope ["layer", "rows", "back"] ["layer"] (defScope s_ahead_and_around) := ⟨rfl, rfl, rfl, by decide +kernel, rfl, by decide +kernel, by decide +kernel⟩
abbrev s_first_drawings : Stmt := topS 47
theorem sc_first_drawings : FnScope ["layer", "many", "ahead", "around", "times"] ["layer", "many"] (defScope s_first_drawings) := ⟨rfl, rfl, rfl, by decide +kernel, rfl, by decide +kernel, by decide +kernel⟩
abbrev s_least_many : Stmt := topS 49
theorem sc_least_many : FnScope ["around", "many"] ["around"] (defScope s_least_many) := ⟨rfl, rfl, rfl, by decide +kernel, rfl, by decide +kernel, by decide +kernel⟩
abbrev s_least_ahead : Stmt := topS 50
theorem sc_least_ahead : FnScope ["shown", "ahead", "many"] ["shown", "ahead", "many"] (defScope s_least_ahead) := ⟨rfl, rfl, rfl, by decide +kernel, rfl, by decide +kernel, by decide +kernel⟩
abbrev s_round_of : Stmt := topS 51
theorem sc_round_of : FnScope ["layer", "ahead", "around", "many"] ["layer"] (defScope s_round_of) := ⟨rfl, rfl, rfl, by decide +kernel, rfl, by decide +kernel, by decide +kernel⟩
abbrev s_first_places : Stmt := topS 52
theorem sc_first_places : FnScope ["window", "many", "moment"] ["window", "many"] (defScope s_first_places) := ⟨rfl, rfl, rfl, by decide +kernel, rfl, by decide +kernel, by decide +kernel⟩
abbrev s_round_of_window : Stmt := topS 53
theorem sc_round_of_window : FnScope ["window", "length"] ["window"] (defScope s_round_of_window) := ⟨rfl, rfl, rfl, by decide +kernel, rfl, by decide +kernel, by decide +kernel⟩
abbrev s_common_multiple : Stmt := topS 54
theorem sc_common_multiple : FnScope ["one", "other"] ["one", "other"] (defScope s_common_multiple) := ⟨rfl, rfl, rfl, by decide +kernel, rfl, by decide +kernel, by decide +kernel⟩
abbrev s_sheet_round : Stmt := topS 55
theorem sc_sheet_round : FnScope ["sheet", "layers", "window", "most_ahead", "all_many", "layer", "ahead", "many"] ["sheet"] (defScope s_sheet_round) := ⟨rfl, rfl, rfl, by decide +kernel, rfl, by decide +kernel, by decide +kernel⟩
abbrev s_first_unlike : Stmt := topS 56
theorem sc_first_unlike : FnScope ["one", "other", "at", "here", "there"] ["one", "other"] (defScope s_first_unlike) := ⟨rfl, rfl, rfl, by decide +kernel, rfl, by decide +kernel, by decide +kernel⟩
abbrev s_layers_parting : Stmt := topS 57
theorem sc_layers_parting : FnScope ["one", "other", "ahead", "many", "other_ahead", "other_many", "enough"] ["one", "other"] (defScope s_layers_parting) := ⟨rfl, rfl, rfl, by decide +kernel, rfl, by decide +kernel, by decide +kernel⟩
abbrev s_windows_parting : Stmt := topS 58
theorem sc_windows_parting : FnScope ["one", "other", "enough"] ["one", "other"] (defScope s_windows_parting) := ⟨rfl, rfl, rfl, by decide +kernel, rfl, by decide +kernel, by decide +kernel⟩
abbrev s_parting : Stmt := topS 59
theorem sc_parting : FnScope ["one", "other", "layers", "window", "other_layers", "other_window", "moments", "first", "second", "moment"] ["one", "other"] (defScope s_parting) := ⟨rfl, rfl, rfl, by decide +kernel, rfl, by decide +kernel, by decide +kernel⟩
abbrev s__law_cell_at : Stmt := topS 61
theorem sc__law_cell_at : FnScope ["_law_script", "_law_k"] ["_law_script", "_law_k"] (defScope s__law_cell_at) := ⟨rfl, rfl, rfl, by decide +kernel, rfl, by decide +kernel, by decide +kernel⟩
abbrev s__law_state : Stmt := topS 62
theorem sc__law_state : FnScope ["_law_script", "_law_k", "_law_cell"] ["_law_script", "_law_k"] (defScope s__law_state) := ⟨rfl, rfl, rfl, by decide +kernel, rfl, by decide +kernel, by decide +kernel⟩
abbrev s__law_take : Stmt := topS 63
theorem sc__law_take : FnScope ["_law_state_here", "_law_many", "_law_found", "_law_stirred"] ["_law_state_here", "_law_many"] (defScope s__law_take) := ⟨rfl, rfl, rfl, by decide +kernel, rfl, by decide +kernel, by decide +kernel⟩
abbrev s__law_row : Stmt := topS 64
theorem sc__law_row : FnScope ["_law_state_here", "_law_way", "_law_drawing"] ["_law_state_here", "_law_way"] (defScope s__law_row) := ⟨rfl, rfl, rfl, by decide +kernel, rfl, by decide +kernel, by decide +kernel⟩
abbrev s__law_layer : Stmt := topS 65
theorem sc__law_layer : FnScope ["_law_state_here", "_law_way", "_law_many", "_law_rows", "_law_back", "_law_turn"] ["_law_state_here"] (defScope s__law_layer) := ⟨rfl, rfl, rfl, by decide +kernel, rfl, by decide +kernel, by decide +kernel⟩
abbrev s__law_turning : Stmt := topS 66
theorem sc__law_turning : FnScope ["_law_state_here", "_law_part", "_law_rows", "_law_start", "_law_turn"] ["_law_state_here"] (defScope s__law_turning) := ⟨rfl, rfl, rfl, by decide +kernel, rfl, by decide +kernel, by decide +kernel⟩
abbrev s__law_window : Stmt := topS 67
theorem sc__law_window : FnScope ["_law_state_here", "_law_moves", "_law_many", "_law_x", "_law_y", "_law_place", "_law_turn"] ["_law_state_here"] (defScope s__law_window) := ⟨rfl, rfl, rfl, by decide +kernel, rfl, by decide +kernel, by decide +kernel⟩
abbrev s__law_sheet : Stmt := topS 68
theorem sc__law_sheet : FnScope ["_law_state_here", "_law_turn"] ["_law_state_here"] (defScope s__law_sheet) := ⟨rfl, rfl, rfl, by decide +kernel, rfl, by decide +kernel, by decide +kernel⟩
abbrev s__law_mixed : Stmt := topS 69
theorem sc__law_mixed : FnScope ["_law_state_here", "_law_many", "_law_left", "_law_turn"] ["_law_state_here", "_law_many"] (defScope s__law_mixed) := ⟨rfl, rfl, rfl, by decide +kernel, rfl, by decide +kernel, by decide +kernel⟩
abbrev s__law_named : Stmt := topS 70
theorem sc__law_named : FnScope ["_law_sheet_here", "_law_names", "_law_layers", "_law_rows", "_law_back", "_law_drawing", "_law_hold"] ["_law_sheet_here", "_law_names"] (defScope s__law_named) := ⟨rfl, rfl, rfl, by decide +kernel, rfl, by decide +kernel, by decide +kernel⟩
abbrev s__law_halved : Stmt := topS 71
theorem sc__law_halved : FnScope ["_law_window_here", "_law_x", "_law_y", "_law_moves", "_law_goal", "_law_other", "_law_many"] ["_law_window_here"] (defScope s__law_halved) := ⟨rfl, rfl, rfl, by decide +kernel, rfl, by decide +kernel, by decide +kernel⟩
abbrev s__law_aside : Stmt := topS 72
theorem sc__law_aside : FnScope ["_law_window_here", "_law_right", "_law_up", "_law_turned", "_law_x", "_law_y", "_law_moves", "_law_rows", "_law_goal", "_law_other", "_law_many"] ["_law_window_here", "_law_right", "_law_up", "_law_turned"] (defScope s__law_aside) := ⟨rfl, rfl, rfl, by decide +kernel, rfl, by decide +kernel, by decide +kernel⟩
abbrev s__law_set : Stmt := topS 73
theorem sc__law_set : FnScope ["_law_place", "_law_right", "_law_up", "_law_turned", "_law_top", "_law_bottom", "_law_other", "_law_under", "_law_one", "_law_two"] ["_law_place", "_law_right", "_law_up", "_law_turned"] (defScope s__law_set) := ⟨rfl, rfl, rfl, by decide +kernel, rfl, by decide +kernel, by decide +kernel⟩
abbrev s_law : Stmt := topS 74
theorem sc_law : FnScope ["_law_script", "_law_k", "_law_state_here", "_law_layers", "_law_window_here", "_law_one", "_law_names", "_law_order", "_law_right", "_law_up", "_law_turned", "_law_other", "_law_moment", "_law_drawings", "_law_place", "_law_due", "_law_bent", "_law_layer_here", "_law_name", "_law_at"] ["_law_script"] (defScope s_law) := ⟨rfl, rfl, rfl, by decide +kernel, rfl, by decide +kernel, by decide +kernel⟩
structure Txt (K : PySem.W.Frag) (mg : Str → Option Value) : Prop where
  b_len : mg "len" = none
  b_isinstance : mg "isinstance" = none
  b_max : mg "max" = none
  b_min : mg "min" = none
  b_sum : mg "sum" = none
  b_all : mg "all" = none
  b_tuple : mg "tuple" = none
  b_list : mg "list" = none
  b_abs : mg "abs" = none
  b_range : mg "range" = none
  b_zip : mg "zip" = none
  b_enumerate : mg "enumerate" = none
  b_bool : mg "bool" = none
  b_int : mg "int" = none
  c_LAST_MOMENT : ∃ t, mg "LAST_MOMENT" = some (Value.int 1000000000 t)
  c_MOST_DRAWING : ∃ t, mg "MOST_DRAWING" = some (Value.int 9 t)
  c_MOST_HOLD : ∃ t, mg "MOST_HOLD" = some (Value.int 24 t)
  c_MOST_ROWS : ∃ t, mg "MOST_ROWS" = some (Value.int 8 t)
  c_MOST_WAY : ∃ t, mg "MOST_WAY" = some (Value.int 20 t)
  c_MOST_MANY : ∃ t, mg "MOST_MANY" = some (Value.int 24 t)
  c_MOST_MOVES : ∃ t, mg "MOST_MOVES" = some (Value.int 8 t)
  c_MOST_LAYERS : ∃ t, mg "MOST_LAYERS" = some (Value.int 4 t)

section
variable {P : Program} {w : World} {K : PySem.W.Frag} {mg : Str → Option Value} {base : Heap}
def sp_is_whole_from (K : PySem.W.Frag) : Sp := fun vs H Q _ => ∃ n l : Int, vs = [.int n, .int l] ∧ Q (.bl (decide (l ≤ n))) H
theorem ok_is_whole_from {f : Addr} {fd : FuncData} (F : Fun K "is_whole_from" "is_whole_from" s_is_whole_from f fd) (T : Txt K mg) : FnOk P w K mg base CX0 1 f fd ["thing", "least"] (sp_is_whole_from K) := by
  refine F.ok sc_is_whole_from (fun vs H Q E h => ?_) (fun cdv A outer s H vs Q E hr h => ?_)
  · obtain ⟨n, l, rfl, q⟩ := h
    rfl
  · obtain ⟨n, l, rfl, q⟩ := h
    refine ⟨_, (pss_cons (ps_if (PW.pt (pw_or (pt_val (pe_callB call_isi (by rfl) T.b_isinstance (by decide +kernel) (pa_cons (pv 0) (pa_cons (pe_bltn (v := .ty "bool") (by rfl) T.b_bool (by decide +kernel) rfl) pa_nil)))) (pw_or1 (pt_not (pt_val (pe_callB call_isi (by rfl) T.b_isinstance (by decide +kernel) (pa_cons (pv 0) (pa_cons (pe_bltn (v := .ty "int") (by rfl) T.b_int (by decide +kernel) rfl) pa_nil)))))))) (pss_one (ps_ret pe_bl)) pss_nil)
      (pss_one (ps_ret (pe_cmpR op_le (pv 1) (pv 0) (nomark _))))), ?_⟩
    refine ⟨_, rfl, _, _, _, _, false, rfl, .ty _, .base (.int n), kit_ty (by decide +kernel), _, rfl, iteF ?_⟩
    refine ⟨_, rfl, _, _, _, _, true, rfl, .ty _, .base (.int n), kit_ty (by decide +kernel), _, rfl, iteF ?_⟩
    exact ⟨_, rfl, _, rfl, l, n, rfl, rfl, q⟩
def sp_is_whole (K : PySem.W.Frag) : Sp := fun vs H Q _ => ∃ n l m : Int, vs = [.int n, .int l, .int m] ∧ Q (.bl (decide (l ≤ n ∧ n ≤ m))) H
theorem ok_is_whole {f : Addr} {fd : FuncData} (F : Fun K "is_whole" "is_whole" s_is_whole f fd) (T : Txt K mg) (D_is_whole_from : Cl P w K mg base 1 "is_whole_from" ["thing", "least"] (sp_is_whole_from K)) : FnOk P w K mg base CX0 2 f fd ["thing", "least", "most"] (sp_is_whole K) := by
  refine F.ok sc_is_whole (fun vs H Q E h => ?_) (fun cdv A outer s H vs Q E hr h => ?_)
  · obtain ⟨n, l, m, rfl, q⟩ := h
    rfl
  · obtain ⟨n, l, m, rfl, q⟩ := h
    refine ⟨_, (pss_one (ps_ret (pe_and (pe_own D_is_whole_from (hr.mono (by omega)) (by rfl) (pa_cons (pv 0) (pa_cons (pv 1) pa_nil))) (pe_one (pe_cmpR op_le (pv 0) (pv 2) (nomark _)))))), ?_⟩
    refine ⟨_, rfl, _, rfl, n, l, rfl, _, rfl, ite2 (fun e => ?_) (fun e => ?_)⟩
    · refine ⟨_, rfl, _, rfl, n, m, rfl, rfl, ?_⟩
      have e1 : l ≤ n := of_decide_eq_true e
      rw [show decide (l ≤ n ∧ n ≤ m) = decide (n ≤ m) by simp [e1]] at q
      exact q
    · have e1 : ¬ l ≤ n := fun z => e (decide_eq_true z)
      rw [show decide (l ≤ n ∧ n ≤ m) = false by simp [e1]] at q
      exact q
def sp_is_tuple (K : PySem.W.Frag) : Sp := fun vs H Q _ => ∃ (a : Addr) (xs : List V) (l m : Int), vs = [.ref a, .int l, .int m] ∧ SqT K H a xs ∧ Q (.bl (decide (l ≤ (xs.length : Int) ∧ (xs.length : Int) ≤ m))) H
theorem ok_is_tuple {f : Addr} {fd : FuncData} (F : Fun K "is_tuple" "is_tuple" s_is_tuple f fd) (T : Txt K mg) : FnOk P w K mg base CX0 1 f fd ["thing", "least", "most"] (sp_is_tuple K) := by
  refine F.ok sc_is_tuple (fun vs H Q E h => ?_) (fun cdv A outer s H vs Q E hr h => ?_)
  · obtain ⟨a, xs, l, m, rfl, _⟩ := h
    rfl
  · obtain ⟨a, xs, l, m, rfl, ha, q⟩ := h
    refine ⟨_, (pss_one (ps_ret (pe_and (pe_callB call_isi (by rfl) T.b_isinstance (by decide +kernel) (pa_cons (pv 0) (pa_cons (pe_bltn (v := .ty "tuple") (by rfl) T.b_tuple (by decide +kernel) rfl) pa_nil))) (pe_one (pe_chain op_le op_le (pv 1) (pe_callB call_len_seq (by rfl) T.b_len (by decide +kernel) (pa_cons (pv 0) pa_nil)) (pv 2)))))), ?_⟩
    refine ⟨_, rfl, _, _, _, _, true, rfl, .ty _, tyT ha, kit_ty (by decide +kernel), _, rfl, iteT ?_⟩
    refine ⟨_, rfl, _, rfl, a, xs, rfl, .inr ha, l, _, rfl, rfl, _, rfl, ite2 (fun e => ?_) (fun e => ?_)⟩
    · refine ⟨_, rfl, _, m, rfl, rfl, ?_⟩
      have e1 : l ≤ (xs.length : Int) := of_decide_eq_true e
      rw [show decide (l ≤ (xs.length : Int) ∧ (xs.length : Int) ≤ m) = decide ((xs.length : Int) ≤ m) by simp [e1]] at q
      exact q
    · have e1 : ¬ l ≤ (xs.length : Int) := fun z => e (decide_eq_true z)
      rw [show decide (l ≤ (xs.length : Int) ∧ (xs.length : Int) ≤ m) = false by simp [e1]] at q
      exact q
def sp_is_drawing (K : PySem.W.Frag) : Sp := fun vs H Q _ => ∃ n : Int, vs = [.int n] ∧ Q (.bl (decide (0 ≤ n ∧ n ≤ 9))) H
theorem ok_is_drawing {f : Addr} {fd : FuncData} (F : Fun K "is_drawing" "is_drawing" s_is_drawing f fd) (T : Txt K mg) (D_is_whole : Cl P w K mg base 2 "is_whole" ["thing", "least", "most"] (sp_is_whole K)) : FnOk P w K mg base CX0 3 f fd ["thing"] (sp_is_drawing K) := by
  refine F.ok sc_is_drawing (fun vs H Q E h => ?_) (fun cdv A outer s H vs Q E hr h => ?_)
  · obtain ⟨n, rfl, q⟩ := h
    rfl
  · obtain ⟨n, rfl, q⟩ := h
    refine ⟨_, (pss_one (ps_ret (pe_own D_is_whole (hr.mono (by omega)) (by rfl) (pa_cons (pv 0) (pa_cons pe_int (pa_cons (pe_gint (by rfl) T.c_MOST_DRAWING) pa_nil)))))), ?_⟩
    exact ⟨_, rfl, n, 0, 9, rfl, q⟩
def sp_is_hold (K : PySem.W.Frag) : Sp := fun vs H Q _ => ∃ n : Int, vs = [.int n] ∧ Q (.bl (decide (1 ≤ n ∧ n ≤ 24))) H
theorem ok_is_hold {f : Addr} {fd : FuncData} (F : Fun K "is_hold" "is_hold" s_is_hold f fd) (T : Txt K mg) (D_is_whole : Cl P w K mg base 2 "is_whole" ["thing", "least", "most"] (sp_is_whole K)) : FnOk P w K mg base CX0 3 f fd ["thing"] (sp_is_hold K) := by
  refine F.ok sc_is_hold (fun vs H Q E h => ?_) (fun cdv A outer s H vs Q E hr h => ?_)
  · obtain ⟨n, rfl, q⟩ := h
    rfl
  · obtain ⟨n, rfl, q⟩ := h
    refine ⟨_, (pss_one (ps_ret (pe_own D_is_whole (hr.mono (by omega)) (by rfl) (pa_cons (pv 0) (pa_cons pe_int (pa_cons (pe_gint (by rfl) T.c_MOST_HOLD) pa_nil)))))), ?_⟩
    exact ⟨_, rfl, n, 1, 24, rfl, q⟩
def sp_is_row (K : PySem.W.Frag) : Sp := fun vs H Q _ => ∃ (v : V) (r : RW), vs = [v] ∧ RowAt K H v r ∧ VRow r ∧ Q (.bl true) H
theorem ok_is_row {f : Addr} {fd : FuncData} (F : Fun K "is_row" "is_row" s_is_row f fd) (T : Txt K mg) (D_is_tuple : Cl P w K mg base 1 "is_tuple" ["thing", "least", "most"] (sp_is_tuple K)) (D_is_drawing : Cl P w K mg base 3 "is_drawing" ["thing"] (sp_is_drawing K)) (D_is_hold : Cl P w K mg base 3 "is_hold" ["thing"] (sp_is_hold K)) : FnOk P w K mg base CX0 4 f fd ["thing"] (sp_is_row K) := by
  refine F.ok sc_is_row (fun vs H Q E h => ?_) (fun cdv A outer s H vs Q E hr h => ?_)
  · obtain ⟨v, r, rfl, _⟩ := h
    rfl
  · obtain ⟨v, ⟨d, n⟩, rfl, ⟨p, rfl, hp⟩, ⟨v1, v2, v3, v4⟩, q⟩ := h
    refine ⟨_, (pss_cons (ps_if (pt_not (pt_val (pe_own D_is_tuple (hr.mono (by omega)) (by rfl) (pa_cons (pv 0) (pa_cons pe_int (pa_cons pe_int pa_nil)))))) (pss_one (ps_ret pe_bl)) pss_nil)
      (pss_cons (ps_asg (pv 0) (pg_tup (by rfl) (pgs_cons (pg_name (i := 1) sc_is_row.nd rfl (Or.inl rfl)) (pgs_cons (pg_name (i := 2) sc_is_row.nd rfl (Or.inl rfl)) pgs_nil))))
      (pss_one (ps_ret (pe_and (pe_own D_is_drawing (hr.mono (by omega)) (by rfl) (pa_cons (pv 1) pa_nil)) (pe_one (pe_own D_is_hold (hr.mono (by omega)) (by rfl) (pa_cons (pv 2) pa_nil)))))))), ?_⟩
    refine ⟨_, rfl, p, _, 2, 2, rfl, hp, _, rfl, iteF ?_⟩
    refine ⟨_, rfl, p, _, rfl, hp, rfl, _, _, rfl, _, _, rfl, rfl, ?_⟩
    refine ⟨_, rfl, d, rfl, true, ?_, iteT ?_⟩
    · rw [show decide ((0 : Int) ≤ d ∧ d ≤ 9) = true from decide_eq_true ⟨v1, v2⟩]
    · refine ⟨_, rfl, n, rfl, ?_⟩
      rw [show decide ((1 : Int) ≤ n ∧ n ≤ 24) = true from decide_eq_true ⟨v3, v4⟩]
      exact q
end

section
variable {P : Program} {w : World} {K : PySem.W.Frag} {mg : Str → Option Value} {base : Heap}
def sp_need_moment (K : PySem.W.Frag) : Sp := fun vs H Q _ => ∃ m : Int, vs = [.int m] ∧ 0 ≤ m ∧ m ≤ 1000000000 ∧ Q .non H
theorem ok_need_moment {f : Addr} {fd : FuncData} (F : Fun K "need_moment" "need_moment" s_need_moment f fd) (T : Txt K mg) (D_is_whole : Cl P w K mg base 2 "is_whole" ["thing", "least", "most"] (sp_is_whole K)) : FnOk P w K mg base CX0 3 f fd ["thing"] (sp_need_moment K) := by
  refine F.ok sc_need_moment (fun vs H Q E h => ?_) (fun cdv A outer s H vs Q E hr h => ?_)
  · obtain ⟨m, rfl, _⟩ := h
    rfl
  · obtain ⟨m, rfl, h0, h1, q⟩ := h
    refine ⟨_, (pss_one (ps_if (pt_not (pt_val (pe_own D_is_whole (hr.mono (by omega)) (by rfl) (pa_cons (pv 0) (pa_cons pe_int (pa_cons (pe_gint (by rfl) T.c_LAST_MOMENT) pa_nil)))))) (pss_one ps_never) pss_nil)), ?_⟩
    refine ⟨_, rfl, m, 0, 1000000000, rfl, _, rfl, ?_⟩
    rw [show decide ((0 : Int) ≤ m ∧ m ≤ 1000000000) = true from decide_eq_true ⟨h0, h1⟩]
    exact iteF q
end

section
variable {P : Program} {w : World} {K : PySem.W.Frag} {mg : Str → Option Value} {base : Heap}
def sp_is_layer (K : PySem.W.Frag) : Sp := fun vs H Q _ => ∃ (v : V) (rs : List RW) (bk : Option Int), vs = [v] ∧ LayAt K H v rs bk ∧ VRows rs ∧ VBack rs bk ∧ ∀ H', Same H H' → Q (.bl true) H'
theorem ok_is_layer {f : Addr} {fd : FuncData} (F : Fun K "is_layer" "is_layer" s_is_layer f fd) (T : Txt K mg) (D_is_tuple : Cl P w K mg base 1 "is_tuple" ["thing", "least", "most"] (sp_is_tuple K)) (D_is_row : Cl P w K mg base 4 "is_row" ["thing"] (sp_is_row K)) (D_is_whole : Cl P w K mg base 2 "is_whole" ["thing", "least", "most"] (sp_is_whole K)) : FnOk P w K mg base CX0 5 f fd ["thing"] (sp_is_layer K) := by
  refine F.ok sc_is_layer (fun vs H Q E h => ?_) (fun cdv A outer s H vs Q E hr h => ?_)
  · obtain ⟨v, rs, bk, rfl, _⟩ := h
    rfl
  · obtain ⟨v, rs, bk, rfl, ⟨p, rv, rfl, hp, pr, vs, rfl, hq, pd⟩, ⟨v8, vr⟩, vb, q⟩ := h
    have hl : vs.length = rs.length := Paired.length pd
    refine ⟨_, (pss_cons (ps_if (pt_not (pt_val (pe_own D_is_tuple (hr.mono (by omega)) (by rfl) (pa_cons (pv 0) (pa_cons pe_int (pa_cons pe_int pa_nil)))))) (pss_one (ps_ret pe_bl)) pss_nil)
      (pss_cons (ps_asg (pv 0) (pg_tup (by rfl) (pgs_cons (pg_name (i := 1) sc_is_layer.nd rfl (Or.inl rfl)) (pgs_cons (pg_name (i := 2) sc_is_layer.nd rfl (Or.inl rfl)) pgs_nil))))
      (pss_cons (ps_if (PW.pt (pw_or (pt_not (pt_val (pe_own D_is_tuple (hr.mono (by omega)) (by rfl) (pa_cons (pv 1) (pa_cons pe_int (pa_cons (pe_gint (by rfl) T.c_MOST_ROWS) pa_nil)))))) (pw_or1 (pt_not (pt_val (pe_callB (cr_all rfl) (by rfl) T.b_all (by decide +kernel) (pa_cons (pe_lc (own := [("row", 3)]) (g := (gName 3)) (tt := tYes) (by rfl) sc_is_layer.nd (pi_tup (pv 1)) (blkOk_by (own := [("row", 3)]) (N := ["thing", "rows", "back", "row"]) (sc := defScope s_is_layer) (by decide +kernel)) (fun _ _ _ _ _ => (pg_name (i := 3) sc_is_layer.nd rfl (Or.inl rfl))) (fun _ _ _ _ _ => pts_nil) (fun _ _ _ _ _ => (pe_own D_is_row (hr.mono (by omega)) (by rfl) (pa_cons (pv 3) pa_nil)))) pa_nil))))))) (pss_one (ps_ret pe_bl)) pss_nil)
      (pss_one (ps_ret (pe_or (pe_cmpR op_isN (pv 2) pe_non (nomark _)) (pe_one (pe_own D_is_whole (hr.mono (by omega)) (by rfl) (pa_cons (pv 2) (pa_cons pe_int (pa_cons (pe_op op_sub (pe_callB call_len_seq (by rfl) T.b_len (by decide +kernel) (pa_cons (pv 1) pa_nil)) pe_int) pa_nil))))))))))), ?_⟩
    refine ⟨_, rfl, p, _, 2, 2, rfl, hp, _, rfl, iteF ?_⟩
    refine ⟨_, rfl, p, _, rfl, hp, rfl, _, _, rfl, _, _, rfl, rfl, ?_⟩
    refine ⟨_, rfl, pr, vs, 0, 8, rfl, hq, _, rfl, ?_⟩
    rw [show decide ((0 : Int) ≤ (vs.length : Int) ∧ (vs.length : Int) ≤ 8) = true from decide_eq_true ⟨by omega, by omega⟩]
    refine iteF ?_
    refine ⟨_, rfl, pr, rfl, ⟨_, hq⟩, fun D hD => ?_⟩
    refine lcmap_tup ((vs.map fun _ => true).map V.bl) (by simp) (by omega) hq hD (fun i x y H2 R Z hx hy s2 hR => ?_) (fun H2 s2 hL => ?_)
    · obtain ⟨r, hr1, hrow⟩ := Paired.at pd hx
      have ey : y = .bl true := by
        rw [List.map_map, List.getElem?_map, hx] at hy
        exact (Option.some.inj hy).symm
      subst ey
      exact ⟨rfl, yes_ok ⟨_, rfl, x, r, rfl, hrow.keep (Same.tk s2), vr r (List.mem_of_getElem? hr1), hR _ (Same.refl _)⟩⟩
    · refine ⟨D, _, rfl, .inl (.inl hL), _, rfl, ?_⟩
      rw [show ((vs.map fun _ => true).all id) = true by simp]
      refine iteF ?_
      refine ⟨_, rfl, rfl, _, rfl, ?_⟩
      cases bk with
      | none => exact ite2 (fun _ => q _ s2) (fun e => absurd (decide_eq_true rfl) e)
      | some b =>
        refine ite2 (fun e => nomatch (of_decide_eq_true e)) (fun _ => ?_)
        have hb := vb b rfl
        refine ⟨_, rfl, _, rfl, pr, vs, rfl, .inr (Same.sqT s2 hq), _, _, rfl, rfl, b, 0, _, rfl, ?_⟩
        rw [show decide ((0 : Int) ≤ b ∧ b ≤ (vs.length : Int) - 1) = true from decide_eq_true ⟨by omega, by omega⟩]
        exact q _ s2
end

section
variable {P : Program} {w : World} {K : PySem.W.Frag} {mg : Str → Option Value} {base : Heap}
def sp_held (K : PySem.W.Frag) : Sp := fun vs H Q _ => ∃ (v : V) (rs : List RW), vs = [v] ∧ RowsAt K H v rs ∧ rs.length ≤ 1000 ∧ ∀ H', Same H H' → Q (.int (tot rs)) H'
theorem ok_held {f : Addr} {fd : FuncData} (F : Fun K "held" "held" s_held f fd) (T : Txt K mg) : FnOk P w K mg base CX0 1 f fd ["rows"] (sp_held K) := by
  refine F.ok sc_held (fun vs H Q E h => ?_) (fun cdv A outer s H vs Q E hr h => ?_)
  · obtain ⟨v, rs, rfl, _⟩ := h
    rfl
  · obtain ⟨v, rs, rfl, ⟨pr, vs, rfl, hq, pd⟩, hz, q⟩ := h
    have hl : vs.length = rs.length := Paired.length pd
    refine ⟨_, (pss_one (ps_ret (pe_callB (cr_sum rfl) (by rfl) T.b_sum (by decide +kernel) (pa_cons (pe_lc (own := [("drawing", 1), ("hold", 2)]) (g := (gTup _ 2 (gCons (gName 1) (gCons (gName 2) gNil)))) (tt := tYes) (by rfl) sc_held.nd (pi_tup (pv 0)) (blkOk_by (own := [("drawing", 1), ("hold", 2)]) (N := ["rows", "drawing", "hold"]) (sc := defScope s_held) (by decide +kernel)) (fun _ _ _ _ _ => (pg_tup (by rfl) (pgs_cons (pg_name (i := 1) sc_held.nd rfl (Or.inl rfl)) (pgs_cons (pg_name (i := 2) sc_held.nd rfl (Or.inl rfl)) pgs_nil)))) (fun _ _ _ _ _ => pts_nil) (fun _ _ _ _ _ => (pv 2))) pa_nil)))), ?_⟩
    refine ⟨_, rfl, pr, rfl, ⟨_, hq⟩, fun D hD => ?_⟩
    refine lcmap_tup ((rs.map (·.2)).map V.int) (by simp [hl]) (by omega) hq hD (fun i x y H2 R Z hx hy s2 hR => ?_) (fun H2 s2 hL => ?_)
    · obtain ⟨r, hr1, p, rfl, hrow⟩ := Paired.at pd hx
      have ey : y = .int r.2 := by
        rw [List.map_map, List.getElem?_map, hr1] at hy
        exact (Option.some.inj hy).symm
      subst ey
      exact ⟨p, _, rfl, Same.sqT s2 hrow, rfl, _, _, rfl, _, _, rfl, rfl, rfl, yes_ok ⟨_, rfl, hR _ (Same.refl _)⟩⟩
    · exact ⟨D, _, rfl, .inl (.inl hL), q _ s2⟩
end

section
variable {P : Program} {w : World} {K : PySem.W.Frag} {mg : Str → Option Value} {base : Heap}
def sp_first_time (K : PySem.W.Frag) : Sp := fun vs H Q _ => ∃ (v : V) (rs : List RW) (b m : Int), vs = [v, .int b, .int m] ∧ RowsAt K H v rs ∧ VRows rs ∧ VBack rs (some b) ∧ ∀ H', Same H H' → Q (.int (near rs (some b) m)) H'
theorem ok_first_time {f : Addr} {fd : FuncData} (F : Fun K "first_time" "first_time" s_first_time f fd) (T : Txt K mg) (D_held : Cl P w K mg base 1 "held" ["rows"] (sp_held K)) : FnOk P w K mg base CX0 2 f fd ["rows", "back", "moment"] (sp_first_time K) := by
  refine F.ok sc_first_time (fun vs H Q E h => ?_) (fun cdv A outer s H vs Q E hr h => ?_)
  · obtain ⟨v, rs, b, m, rfl, _⟩ := h
    rfl
  · obtain ⟨v, rs, b, m, rfl, ⟨pr, vs, rfl, hq, pd⟩, ⟨v8, vr⟩, vb, q⟩ := h
    have hb := vb b rfl
    obtain ⟨k, rfl⟩ : ∃ k : Nat, b = (k : Int) := ⟨b.toNat, by omega⟩
    refine ⟨_, (pss_cons (ps_set (i := 3) sc_first_time.nd rfl (Or.inl rfl) (pe_own D_held (hr.mono (by omega)) (by rfl) (pa_cons (pe_slice sl_tupA (pv 0) po_none (po_some (pv 1))) pa_nil)))
      (pss_cons (ps_set (i := 4) sc_first_time.nd rfl (Or.inl rfl) (pe_own D_held (hr.mono (by omega)) (by rfl) (pa_cons (pe_slice sl_tupA (pv 0) (po_some (pv 1)) po_none) pa_nil)))
      (pss_one (ps_ret (pe_ifExp (pt_cmpR op_lt (pv 2) (pv 3) (nomark _)) (pv 2) (pe_op op_add (pv 3) (pe_op op_modN (pe_op op_sub (pv 2) (pv 3)) (pv 4)))))))), ?_⟩
    refine ⟨_, rfl, _, rfl, _, rfl, sl_rows (rs.take k) hq (by rw [cut_to]; exact Paired.takeP k pd) (fun H1 v1 s1 h1 => ?_)⟩
    refine ⟨v1, rs.take k, rfl, h1, by rw [List.length_take]; omega, fun H2 s2 => ?_⟩
    have pd2 : Paired (RowAt K H2) vs rs := Paired.mono pd fun _ _ => RowAt.keep (Same.tk (s1.trans s2))
    have hq2 := Same.sqT (s1.trans s2) hq
    refine ⟨_, rfl, _, rfl, _, rfl, ?_⟩
    dsimp only [tNoPart]
    refine sl_rows (rs.drop k) hq2 (by rw [cut_from]; exact Paired.dropP k pd2) (fun H3 v3 s3 h3 => ?_)
    refine ⟨v3, rs.drop k, rfl, h3, by rw [List.length_drop]; omega, fun H4 s4 => ?_⟩
    have q' := q H4 (((s1.trans s2).trans s3).trans s4)
    unfold near at q'
    dsimp only at q'
    rw [Int.toNat_natCast] at q'
    have cpos : 0 < tot (rs.drop k) := by
      have := (tot_nonneg (rs := rs.drop k) fun q hq => vr q (List.mem_of_mem_drop hq)).1
      rw [List.length_drop] at this
      omega
    refine ⟨_, rfl, _, rfl, m, _, rfl, rfl, _, rfl, ite2 (fun e => ?_) (fun e => ?_)⟩
    · rw [if_pos (of_decide_eq_true e)] at q'
      exact ⟨_, rfl, q'⟩
    · rw [if_neg (fun z => e (decide_eq_true z))] at q'
      refine ⟨_, rfl, _, rfl, _, rfl, _, _, rfl, rfl, _, rfl, _, _, rfl, rfl, by omega, _, _, rfl, rfl, ?_⟩
      rw [Int.fmod_eq_emod_of_nonneg _ (by omega)]
      exact q'
def sp_drawing_of (K : PySem.W.Frag) : Sp := fun vs H Q _ => ∃ (v : V) (rs : List RW) (bk : Option Int) (m : Int), vs = [v, .int m] ∧ LayAt K H v rs bk ∧ VRows rs ∧ VBack rs bk ∧ ∀ H', Same H H' → Q (.int (shown rs bk m)) H'
theorem ok_drawing_of {f : Addr} {fd : FuncData} (F : Fun K "drawing_of" "drawing_of" s_drawing_of f fd) (T : Txt K mg) (D_first_time : Cl P w K mg base 2 "first_time" ["rows", "back", "moment"] (sp_first_time K)) : FnOk P w K mg base CX0 3 f fd ["layer", "moment"] (sp_drawing_of K) := by
  refine F.ok sc_drawing_of (fun vs H Q E h => ?_) (fun cdv A outer s H vs Q E hr h => ?_)
  · obtain ⟨v, rs, bk, m, rfl, _⟩ := h
    rfl
  · obtain ⟨v, rs, bk, m, rfl, ⟨p, rv, rfl, hp, pr, vs, rfl, hq, pd⟩, ⟨v8, vr⟩, vb, q⟩ := h
    have hl : vs.length = rs.length := Paired.length pd
    have key : ∀ R : VK, (∀ H', Same H H' → R (.int (near rs bk m)) H') → tIf (tTest (tOp (fun x y H Q => y = .non ∧ Q (.bl (decide (x = .non))) H) (tVar 3) (tC .non))) (tVar 1) (tCall (sp_first_time K) [] E0 (tCons (tVar 2) (tCons (tVar 3) (tCons (tVar 1) tNil)))) [some (.ref p), some (.int m), some (.ref pr), some (bkV bk), none, none, none] H R := by
      intro R hR
      refine ⟨_, rfl, rfl, _, rfl, ?_⟩
      cases bk with
      | none => exact ite2 (fun _ => ⟨_, rfl, hR _ (Same.refl _)⟩) (fun e => absurd (decide_eq_true rfl) e)
      | some b =>
        refine ite2 (fun e => nomatch (of_decide_eq_true e)) (fun _ => ?_)
        exact ⟨_, rfl, _, rfl, _, rfl, _, rs, b, m, rfl, ⟨pr, vs, rfl, hq, pd⟩, ⟨v8, vr⟩, vb, hR⟩
    refine ⟨_, (pss_cons (ps_asg (pv 0) (pg_tup (by rfl) (pgs_cons (pg_name (i := 2) sc_drawing_of.nd rfl (Or.inl rfl)) (pgs_cons (pg_name (i := 3) sc_drawing_of.nd rfl (Or.inl rfl)) pgs_nil))))
      (pss_cons (ps_set (i := 4) sc_drawing_of.nd rfl (Or.inl rfl) (pe_ifExp (pt_cmpR op_isN (pv 3) pe_non (nomark _)) (pv 1) (pe_own D_first_time (hr.mono (by omega)) (by rfl) (pa_cons (pv 2) (pa_cons (pv 3) (pa_cons (pv 1) pa_nil))))))
      (pss_cons (ps_for PassesOwn.never rfl (pi_tup (pv 2)) (pg_tup (by rfl) (pgs_cons (pg_name (i := 5) sc_drawing_of.nd rfl (Or.inl rfl)) (pgs_cons (pg_name (i := 6) sc_drawing_of.nd rfl (Or.inl rfl)) pgs_nil)))
        (pss_cons (ps_if (pt_cmpR op_lt (pv 4) (pv 6) (nomark _)) (pss_one (ps_ret (pv 5))) pss_nil)
      (pss_one (ps_aug (i := 4) sc_drawing_of.nd rfl (Or.inl rfl) (pv 6) ip_sub))))
      (pss_one (ps_ret pe_int))))), ?_⟩
    refine ⟨_, rfl, p, _, rfl, hp, rfl, _, _, rfl, _, _, rfl, rfl, ?_⟩
    refine key _ (fun H1 s1 => ?_)
    refine ⟨_, rfl, pr, rfl, ⟨_, Same.sqT s1 hq⟩, for_tup (K := K) (a := pr) (xs := vs) (fun i σ H2 => ∃ (n : Int) (x y : Option V), σ = [some (.ref p), some (.int m), some (.ref pr), some (bkV bk), some (.int n), x, y] ∧ Same H H2 ∧ walk (rs.drop i) n = shown rs bk m)
      ⟨_, none, none, rfl, s1, rfl⟩ (fun i σ H2 _ ⟨_, _, _, _, s2, _⟩ => Same.sqT s2 hq) ?_ ?_⟩
    · rintro i x σ H2 hx ⟨n, y1, y2, rfl, s2, e⟩
      obtain ⟨r, hr1, pw, rfl, hrow⟩ := Paired.at pd hx
      have hi : i < rs.length := (List.getElem?_eq_some_iff.mp hr1).1
      have ed : rs.drop i = r :: rs.drop (i + 1) := by
        rw [List.drop_eq_getElem_cons hi]
        congr 1
        rw [List.getElem?_eq_getElem hi] at hr1
        exact Option.some.inj hr1
      rw [ed] at e
      unfold walk at e
      refine ⟨pw, _, rfl, Same.sqT s2 hrow, rfl, _, _, rfl, _, _, rfl, rfl, ?_⟩
      refine ⟨_, rfl, _, rfl, n, r.2, rfl, rfl, _, rfl, ite2 (fun c => ?_) (fun c => ?_)⟩
      · rw [if_pos (of_decide_eq_true c)] at e
        refine ⟨_, rfl, ?_⟩
        show Q (.int r.1) H2
        rw [e]
        exact q _ s2
      · rw [if_neg (fun z => c (decide_eq_true z))] at e
        exact ⟨_, rfl, _, rfl, n, r.2, rfl, rfl, n - r.2, _, _, rfl, s2, e⟩
    · rintro σ H2 ⟨n, y1, y2, rfl, s2, e⟩
      rw [List.drop_of_length_le (by omega)] at e
      show Q (.int 0) H2
      rw [show (0 : Int) = shown rs bk m from e]
      exact q _ s2
end

section
variable {P : Program} {w : World} {K : PySem.W.Frag} {mg : Str → Option Value} {base : Heap}
def sp_is_way (K : PySem.W.Frag) : Sp := fun vs H Q _ => ∃ n : Int, vs = [.int n] ∧ Q (.bl (decide (-20 ≤ n ∧ n ≤ 20))) H
theorem ok_is_way {f : Addr} {fd : FuncData} (F : Fun K "is_way" "is_way" s_is_way f fd) (T : Txt K mg) (D_is_whole : Cl P w K mg base 2 "is_whole" ["thing", "least", "most"] (sp_is_whole K)) : FnOk P w K mg base CX0 3 f fd ["thing"] (sp_is_way K) := by
  refine F.ok sc_is_way (fun vs H Q E h => ?_) (fun cdv A outer s H vs Q E hr h => ?_)
  · obtain ⟨n, rfl, q⟩ := h
    rfl
  · obtain ⟨n, rfl, q⟩ := h
    refine ⟨_, (pss_one (ps_ret (pe_own D_is_whole (hr.mono (by omega)) (by rfl) (pa_cons (pv 0) (pa_cons (pe_un un_neg (pe_gint (by rfl) T.c_MOST_WAY)) (pa_cons (pe_gint (by rfl) T.c_MOST_WAY) pa_nil)))))), ?_⟩
    exact ⟨_, rfl, 20, rfl, n, -20, 20, rfl, q⟩
def sp_is_many (K : PySem.W.Frag) : Sp := fun vs H Q _ => ∃ n : Int, vs = [.int n] ∧ Q (.bl (decide (0 ≤ n ∧ n ≤ 24))) H
theorem ok_is_many {f : Addr} {fd : FuncData} (F : Fun K "is_many" "is_many" s_is_many f fd) (T : Txt K mg) (D_is_whole : Cl P w K mg base 2 "is_whole" ["thing", "least", "most"] (sp_is_whole K)) : FnOk P w K mg base CX0 3 f fd ["thing"] (sp_is_many K) := by
  refine F.ok sc_is_many (fun vs H Q E h => ?_) (fun cdv A outer s H vs Q E hr h => ?_)
  · obtain ⟨n, rfl, q⟩ := h
    rfl
  · obtain ⟨n, rfl, q⟩ := h
    refine ⟨_, (pss_one (ps_ret (pe_own D_is_whole (hr.mono (by omega)) (by rfl) (pa_cons (pv 0) (pa_cons pe_int (pa_cons (pe_gint (by rfl) T.c_MOST_MANY) pa_nil)))))), ?_⟩
    exact ⟨_, rfl, n, 0, 24, rfl, q⟩
def sp_is_move (K : PySem.W.Frag) : Sp := fun vs H Q _ => ∃ (v : V) (m : MV), vs = [v] ∧ MoveAt K H v m ∧ VMove m ∧ Q (.bl true) H
theorem ok_is_move {f : Addr} {fd : FuncData} (F : Fun K "is_move" "is_move" s_is_move f fd) (T : Txt K mg) (D_is_tuple : Cl P w K mg base 1 "is_tuple" ["thing", "least", "most"] (sp_is_tuple K)) (D_is_way : Cl P w K mg base 3 "is_way" ["thing"] (sp_is_way K)) (D_is_many : Cl P w K mg base 3 "is_many" ["thing"] (sp_is_many K)) : FnOk P w K mg base CX0 4 f fd ["thing"] (sp_is_move K) := by
  refine F.ok sc_is_move (fun vs H Q E h => ?_) (fun cdv A outer s H vs Q E hr h => ?_)
  · obtain ⟨v, m, rfl, _⟩ := h
    rfl
  · obtain ⟨v, ⟨x, y, n⟩, rfl, ⟨p, rfl, hp⟩, ⟨vx, vy, v3, v4⟩, q⟩ := h
    refine ⟨_, (pss_cons (ps_if (pt_not (pt_val (pe_own D_is_tuple (hr.mono (by omega)) (by rfl) (pa_cons (pv 0) (pa_cons pe_int (pa_cons pe_int pa_nil)))))) (pss_one (ps_ret pe_bl)) pss_nil)
      (pss_cons (ps_asg (pv 0) (pg_tup (by rfl) (pgs_cons (pg_name (i := 1) sc_is_move.nd rfl (Or.inl rfl)) (pgs_cons (pg_name (i := 2) sc_is_move.nd rfl (Or.inl rfl)) (pgs_cons (pg_name (i := 3) sc_is_move.nd rfl (Or.inl rfl)) pgs_nil)))))
      (pss_one (ps_ret (pe_and (pe_own D_is_way (hr.mono (by omega)) (by rfl) (pa_cons (pv 1) pa_nil)) (pe_and (pe_own D_is_way (hr.mono (by omega)) (by rfl) (pa_cons (pv 2) pa_nil)) (pe_one (pe_own D_is_many (hr.mono (by omega)) (by rfl) (pa_cons (pv 3) pa_nil))))))))), ?_⟩
    refine ⟨_, rfl, p, _, 3, 3, rfl, hp, _, rfl, iteF ?_⟩
    refine ⟨_, rfl, p, _, rfl, hp, rfl, _, _, rfl, _, _, rfl, _, _, rfl, rfl, ?_⟩
    refine ⟨_, rfl, x, rfl, true, ?_, iteT ?_⟩
    · rw [show decide ((-20 : Int) ≤ x ∧ x ≤ 20) = true from decide_eq_true vx]
    refine ⟨_, rfl, y, rfl, true, ?_, iteT ?_⟩
    · rw [show decide ((-20 : Int) ≤ y ∧ y ≤ 20) = true from decide_eq_true vy]
    refine ⟨_, rfl, n, rfl, ?_⟩
    rw [show decide ((0 : Int) ≤ n ∧ n ≤ 24) = true from decide_eq_true ⟨v3, v4⟩]
    exact q
def sp_is_window (K : PySem.W.Frag) : Sp := fun vs H Q _ => ∃ (v : V) (x y : Int) (ms : List MV), vs = [v] ∧ WinAt K H v x y ms ∧ VWin x y ms ∧ ∀ H', Same H H' → Q (.bl true) H'
theorem ok_is_window {f : Addr} {fd : FuncData} (F : Fun K "is_window" "is_window" s_is_window f fd) (T : Txt K mg) (D_is_tuple : Cl P w K mg base 1 "is_tuple" ["thing", "least", "most"] (sp_is_tuple K)) (D_is_way : Cl P w K mg base 3 "is_way" ["thing"] (sp_is_way K)) (D_is_move : Cl P w K mg base 4 "is_move" ["thing"] (sp_is_move K)) : FnOk P w K mg base CX0 5 f fd ["thing"] (sp_is_window K) := by
  refine F.ok sc_is_window (fun vs H Q E h => ?_) (fun cdv A outer s H vs Q E hr h => ?_)
  · obtain ⟨v, x, y, ms, rfl, _⟩ := h
    rfl
  · obtain ⟨v, x, y, ms, rfl, ⟨p, mv, rfl, hp, pm, vs, rfl, hq, pd⟩, ⟨vx, vy, v8, vm⟩, q⟩ := h
    have hl : vs.length = ms.length := Paired.length pd
    refine ⟨_, (pss_cons (ps_if (pt_not (pt_val (pe_own D_is_tuple (hr.mono (by omega)) (by rfl) (pa_cons (pv 0) (pa_cons pe_int (pa_cons pe_int pa_nil)))))) (pss_one (ps_ret pe_bl)) pss_nil)
      (pss_cons (ps_asg (pv 0) (pg_tup (by rfl) (pgs_cons (pg_name (i := 1) sc_is_window.nd rfl (Or.inl rfl)) (pgs_cons (pg_name (i := 2) sc_is_window.nd rfl (Or.inl rfl)) (pgs_cons (pg_name (i := 3) sc_is_window.nd rfl (Or.inl rfl)) pgs_nil)))))
      (pss_cons (ps_if (PW.pt (pw_or (pt_not (pt_val (pe_own D_is_way (hr.mono (by omega)) (by rfl) (pa_cons (pv 1) pa_nil)))) (pw_or (pt_not (pt_val (pe_own D_is_way (hr.mono (by omega)) (by rfl) (pa_cons (pv 2) pa_nil)))) (pw_or1 (pt_not (pt_val (pe_own D_is_tuple (hr.mono (by omega)) (by rfl) (pa_cons (pv 3) (pa_cons pe_int (pa_cons (pe_gint (by rfl) T.c_MOST_MOVES) pa_nil)))))))))) (pss_one (ps_ret pe_bl)) pss_nil)
      (pss_one (ps_ret (pe_callB (cr_all rfl) (by rfl) T.b_all (by decide +kernel) (pa_cons (pe_lc (own := [("move", 4)]) (g := (gName 4)) (tt := tYes) (by rfl) sc_is_window.nd (pi_tup (pv 3)) (blkOk_by (own := [("move", 4)]) (N := ["thing", "x", "y", "moves", "move"]) (sc := defScope s_is_window) (by decide +kernel)) (fun _ _ _ _ _ => (pg_name (i := 4) sc_is_window.nd rfl (Or.inl rfl))) (fun _ _ _ _ _ => pts_nil) (fun _ _ _ _ _ => (pe_own D_is_move (hr.mono (by omega)) (by rfl) (pa_cons (pv 4) pa_nil)))) pa_nil))))))), ?_⟩
    refine ⟨_, rfl, p, _, 3, 3, rfl, hp, _, rfl, iteF ?_⟩
    refine ⟨_, rfl, p, _, rfl, hp, rfl, _, _, rfl, _, _, rfl, _, _, rfl, rfl, ?_⟩
    refine ⟨_, rfl, x, rfl, _, rfl, ?_⟩
    rw [show decide ((-20 : Int) ≤ x ∧ x ≤ 20) = true from decide_eq_true vx]
    refine iteF ?_
    refine ⟨_, rfl, y, rfl, _, rfl, ?_⟩
    rw [show decide ((-20 : Int) ≤ y ∧ y ≤ 20) = true from decide_eq_true vy]
    refine iteF ?_
    refine ⟨_, rfl, pm, vs, 0, 8, rfl, hq, _, rfl, ?_⟩
    rw [show decide ((0 : Int) ≤ (vs.length : Int) ∧ (vs.length : Int) ≤ 8) = true from decide_eq_true ⟨by omega, by omega⟩]
    refine iteF ?_
    refine ⟨_, rfl, pm, rfl, ⟨_, hq⟩, fun D hD => ?_⟩
    refine lcmap_tup ((vs.map fun _ => true).map V.bl) (by simp) (by omega) hq hD (fun i x y H2 R Z hx hy s2 hR => ?_) (fun H2 s2 hL => ?_)
    · obtain ⟨m, hm1, hm⟩ := Paired.at pd hx
      have ey : y = .bl true := by
        rw [List.map_map, List.getElem?_map, hx] at hy
        exact (Option.some.inj hy).symm
      subst ey
      exact ⟨rfl, yes_ok ⟨_, rfl, x, m, rfl, hm.keep (Same.tk s2), vm m (List.mem_of_getElem? hm1), hR _ (Same.refl _)⟩⟩
    · refine ⟨D, _, rfl, .inl (.inl hL), ?_⟩
      rw [show ((vs.map fun _ => true).all id) = true by simp]
      exact q _ s2
end

section
variable {P : Program} {w : World} {K : PySem.W.Frag} {mg : Str → Option Value} {base : Heap}
def sp_moved (K : PySem.W.Frag) : Sp := fun vs H Q _ => ∃ (v : V) (x y : Int) (ms : List MV), vs = [v] ∧ WinAt K H v x y ms ∧ ms.length ≤ 8 ∧ ∀ H', Same H H' → Q (.int (mtot ms)) H'
theorem ok_moved {f : Addr} {fd : FuncData} (F : Fun K "moved" "moved" s_moved f fd) (T : Txt K mg) : FnOk P w K mg base CX0 1 f fd ["window"] (sp_moved K) := by
  refine F.ok sc_moved (fun vs H Q E h => ?_) (fun cdv A outer s H vs Q E hr h => ?_)
  · obtain ⟨v, x, y, ms, rfl, _⟩ := h
    rfl
  · obtain ⟨v, x, y, ms, rfl, ⟨p, mv, rfl, hp, pm, vs, rfl, hq, pd⟩, hz, q⟩ := h
    have hl : vs.length = ms.length := Paired.length pd
    refine ⟨_, (pss_cons (ps_asg (pv 0) (pg_tup (by rfl) (pgs_cons (pg_name (i := 1) sc_moved.nd rfl (Or.inl rfl)) (pgs_cons (pg_name (i := 2) sc_moved.nd rfl (Or.inl rfl)) (pgs_cons (pg_name (i := 3) sc_moved.nd rfl (Or.inl rfl)) pgs_nil)))))
      (pss_one (ps_ret (pe_callB (cr_sum rfl) (by rfl) T.b_sum (by decide +kernel) (pa_cons (pe_lc (own := [("goal_x", 4), ("goal_y", 5), ("many", 6)]) (g := (gTup _ 3 (gCons (gName 4) (gCons (gName 5) (gCons (gName 6) gNil))))) (tt := tYes) (by rfl) sc_moved.nd (pi_tup (pv 3)) (blkOk_by (own := [("goal_x", 4), ("goal_y", 5), ("many", 6)]) (N := ["window", "x", "y", "moves", "goal_x", "goal_y", "many"]) (sc := defScope s_moved) (by decide +kernel)) (fun _ _ _ _ _ => (pg_tup (by rfl) (pgs_cons (pg_name (i := 4) sc_moved.nd rfl (Or.inl rfl)) (pgs_cons (pg_name (i := 5) sc_moved.nd rfl (Or.inl rfl)) (pgs_cons (pg_name (i := 6) sc_moved.nd rfl (Or.inl rfl)) pgs_nil))))) (fun _ _ _ _ _ => pts_nil) (fun _ _ _ _ _ => (pv 6))) pa_nil))))), ?_⟩
    refine ⟨_, rfl, p, _, rfl, hp, rfl, _, _, rfl, _, _, rfl, _, _, rfl, rfl, ?_⟩
    refine ⟨_, rfl, pm, rfl, ⟨_, hq⟩, fun D hD => ?_⟩
    refine lcmap_tup ((ms.map (·.2.2)).map V.int) (by simp [hl]) (by omega) hq hD (fun i x y H2 R Z hx hy s2 hR => ?_) (fun H2 s2 hL => ?_)
    · obtain ⟨m, hm1, pw, rfl, hrow⟩ := Paired.at pd hx
      have ey : y = .int m.2.2 := by
        rw [List.map_map, List.getElem?_map, hm1] at hy
        exact (Option.some.inj hy).symm
      subst ey
      exact ⟨pw, _, rfl, Same.sqT s2 hrow, rfl, _, _, rfl, _, _, rfl, _, _, rfl, rfl, rfl, yes_ok ⟨_, rfl, hR _ (Same.refl _)⟩⟩
    · exact ⟨D, _, rfl, .inl (.inl hL), q _ s2⟩
end

section
variable {P : Program} {w : World} {K : PySem.W.Frag} {mg : Str → Option Value} {base : Heap}
def sp_is_sheet (K : PySem.W.Frag) : Sp := fun vs H Q _ => ∃ (v : V) (ls : List LY) (x y : Int) (ms : List MV), vs = [v] ∧ ShAt K H v ls x y ms ∧ VLays ls ∧ VWin x y ms ∧ ∀ H', Same H H' → Q (.bl true) H'
theorem ok_is_sheet {f : Addr} {fd : FuncData} (F : Fun K "is_sheet" "is_sheet" s_is_sheet f fd) (T : Txt K mg) (D_is_tuple : Cl P w K mg base 1 "is_tuple" ["thing", "least", "most"] (sp_is_tuple K)) (D_is_window : Cl P w K mg base 5 "is_window" ["thing"] (sp_is_window K)) (D_is_layer : Cl P w K mg base 5 "is_layer" ["thing"] (sp_is_layer K)) : FnOk P w K mg base CX0 6 f fd ["thing"] (sp_is_sheet K) := by
  refine F.ok sc_is_sheet (fun vs H Q E h => ?_) (fun cdv A outer s H vs Q E hr h => ?_)
  · obtain ⟨v, ls, x, y, ms, rfl, _⟩ := h
    rfl
  · obtain ⟨v, ls, x, y, ms, rfl, ⟨p, lv, wv, rfl, hp, ⟨pl, vs, rfl, hq, pd⟩, hw⟩, ⟨v1, v4, vl⟩, vw, q⟩ := h
    have hl : vs.length = ls.length := Paired.length pd
    refine ⟨_, (pss_cons (ps_if (pt_not (pt_val (pe_own D_is_tuple (hr.mono (by omega)) (by rfl) (pa_cons (pv 0) (pa_cons pe_int (pa_cons pe_int pa_nil)))))) (pss_one (ps_ret pe_bl)) pss_nil)
      (pss_cons (ps_asg (pv 0) (pg_tup (by rfl) (pgs_cons (pg_name (i := 1) sc_is_sheet.nd rfl (Or.inl rfl)) (pgs_cons (pg_name (i := 2) sc_is_sheet.nd rfl (Or.inl rfl)) pgs_nil))))
      (pss_cons (ps_if (pt_not (pt_val (pe_own D_is_tuple (hr.mono (by omega)) (by rfl) (pa_cons (pv 1) (pa_cons pe_int (pa_cons (pe_gint (by rfl) T.c_MOST_LAYERS) pa_nil)))))) (pss_one (ps_ret pe_bl)) pss_nil)
      (pss_one (ps_ret (pe_and (pe_callB (cr_all rfl) (by rfl) T.b_all (by decide +kernel) (pa_cons (pe_lc (own := [("layer", 3)]) (g := (gName 3)) (tt := tYes) (by rfl) sc_is_sheet.nd (pi_tup (pv 1)) (blkOk_by (own := [("layer", 3)]) (N := ["thing", "layers", "window", "layer"]) (sc := defScope s_is_sheet) (by decide +kernel)) (fun _ _ _ _ _ => (pg_name (i := 3) sc_is_sheet.nd rfl (Or.inl rfl))) (fun _ _ _ _ _ => pts_nil) (fun _ _ _ _ _ => (pe_own D_is_layer (hr.mono (by omega)) (by rfl) (pa_cons (pv 3) pa_nil)))) pa_nil)) (pe_one (pe_own D_is_window (hr.mono (by omega)) (by rfl) (pa_cons (pv 2) pa_nil))))))))), ?_⟩
    refine ⟨_, rfl, p, _, 2, 2, rfl, hp, _, rfl, iteF ?_⟩
    refine ⟨_, rfl, p, _, rfl, hp, rfl, _, _, rfl, _, _, rfl, rfl, ?_⟩
    refine ⟨_, rfl, pl, vs, 1, 4, rfl, hq, _, rfl, ?_⟩
    rw [show decide ((1 : Int) ≤ (vs.length : Int) ∧ (vs.length : Int) ≤ 4) = true from decide_eq_true ⟨by omega, by omega⟩]
    refine iteF ?_
    refine ⟨_, rfl, pl, rfl, ⟨_, hq⟩, fun D hD => ?_⟩
    refine lcmap_tup ((vs.map fun _ => true).map V.bl) (by simp) (by omega) hq hD (fun i x y H2 R Z hx hy s2 hR => ?_) (fun H2 s2 hL => ?_)
    · obtain ⟨l, hl1, hly⟩ := Paired.at pd hx
      have ey : y = .bl true := by
        rw [List.map_map, List.getElem?_map, hx] at hy
        exact (Option.some.inj hy).symm
      subst ey
      have vl1 := vl l (List.mem_of_getElem? hl1)
      exact ⟨rfl, yes_ok ⟨_, rfl, x, l.1, l.2, rfl, LayAt.keep (Same.tk s2) hly, vl1.1, vl1.2, hR⟩⟩
    · refine ⟨D, _, rfl, .inl (.inl hL), true, ?_, iteT ?_⟩
      · rw [show ((vs.map fun _ => true).all id) = true by simp]
      · exact ⟨_, rfl, wv, x, y, ms, rfl, hw.keep (Same.tk s2), vw, fun H3 s3 => q _ (s2.trans s3)⟩
def sp_need_sheet (K : PySem.W.Frag) : Sp := fun vs H Q _ => ∃ (v : V) (ls : List LY) (x y : Int) (ms : List MV), vs = [v] ∧ ShAt K H v ls x y ms ∧ VLays ls ∧ VWin x y ms ∧ ∀ H', Same H H' → Q .non H'
theorem ok_need_sheet {f : Addr} {fd : FuncData} (F : Fun K "need_sheet" "need_sheet" s_need_sheet f fd) (T : Txt K mg) (D_is_sheet : Cl P w K mg base 6 "is_sheet" ["thing"] (sp_is_sheet K)) : FnOk P w K mg base CX0 7 f fd ["thing"] (sp_need_sheet K) := by
  refine F.ok sc_need_sheet (fun vs H Q E h => ?_) (fun cdv A outer s H vs Q E hr h => ?_)
  · obtain ⟨v, ls, x, y, ms, rfl, _⟩ := h
    rfl
  · obtain ⟨v, ls, x, y, ms, rfl, hl, v8, vw, q⟩ := h
    refine ⟨_, (pss_one (ps_if (pt_not (pt_val (pe_own D_is_sheet (hr.mono (by omega)) (by rfl) (pa_cons (pv 0) pa_nil)))) (pss_one ps_never) pss_nil)), ?_⟩
    exact ⟨_, rfl, v, ls, x, y, ms, rfl, hl, v8, vw, fun H' s' => ⟨_, rfl, iteF (q _ s')⟩⟩
end

section
variable {P : Program} {w : World} {K : PySem.W.Frag} {mg : Str → Option Value} {base : Heap}
def sp_length_of (K : PySem.W.Frag) : Sp := fun vs H Q _ => ∃ (v : V) (l : LY), vs = [v] ∧ LyAt K H v l ∧ VLy l ∧ ∀ H', Same H H' → Q (bkV (lenL l)) H'
theorem ok_length_of {f : Addr} {fd : FuncData} (F : Fun K "length_of" "length_of" s_length_of f fd) (T : Txt K mg) (D_held : Cl P w K mg base 1 "held" ["rows"] (sp_held K)) : FnOk P w K mg base CX0 2 f fd ["layer"] (sp_length_of K) := by
  refine F.ok sc_length_of (fun vs H Q E h => ?_) (fun cdv A outer s H vs Q E hr h => ?_)
  · obtain ⟨v, l, rfl, _⟩ := h
    rfl
  · obtain ⟨v, ⟨rs, bk⟩, rfl, ⟨p, rv, rfl, hp, hq⟩, ⟨v8, vb⟩, q⟩ := h
    refine ⟨_, (pss_cons (ps_asg (pv 0) (pg_tup (by rfl) (pgs_cons (pg_name (i := 1) sc_length_of.nd rfl (Or.inl rfl)) (pgs_cons (pg_name (i := 2) sc_length_of.nd rfl (Or.inl rfl)) pgs_nil))))
      (pss_one (ps_ret (pe_ifExp (pt_cmpR op_isN (pv 2) pe_non (nomark _)) (pe_own D_held (hr.mono (by omega)) (by rfl) (pa_cons (pv 1) pa_nil)) pe_non)))), ?_⟩
    refine ⟨_, rfl, p, _, rfl, hp, rfl, _, _, rfl, _, _, rfl, rfl, ?_⟩
    refine ⟨_, rfl, rfl, _, rfl, ?_⟩
    cases bk with
    | none =>
      refine ite2 (fun _ => ?_) (fun e => absurd (decide_eq_true rfl) e)
      have := v8.1
      exact ⟨_, rfl, rv, rs, rfl, hq, by dsimp only at this; omega, q⟩
    | some b => exact ite2 (fun e => nomatch (of_decide_eq_true e)) (fun _ => q _ (Same.refl _))
def sp_full_length (K : PySem.W.Frag) : Sp := fun vs H Q _ => ∃ (v : V) (ls : List LY) (x y : Int) (ms : List MV), vs = [v] ∧ ShAt K H v ls x y ms ∧ VLays ls ∧ VWin x y ms ∧ ∀ H' r, Same H H' → ShLen ls (mtot ms) r → Q (bkV r) H'
theorem ok_full_length {f : Addr} {fd : FuncData} (F : Fun K "full_length" "full_length" s_full_length f fd) (T : Txt K mg) (D_length_of : Cl P w K mg base 2 "length_of" ["layer"] (sp_length_of K)) (D_moved : Cl P w K mg base 1 "moved" ["window"] (sp_moved K)) : FnOk P w K mg base CX0 3 f fd ["sheet"] (sp_full_length K) := by
  refine F.ok sc_full_length (fun vs H Q E h => ?_) (fun cdv A outer s H vs Q E hr h => ?_)
  · obtain ⟨v, ls, x, y, ms, rfl, _⟩ := h
    rfl
  · obtain ⟨v, ls, x, y, ms, rfl, hsh, vL, vw, q⟩ := h
    refine ⟨_, (pss_cons (ps_asg (pv 0) (pg_tup (by rfl) (pgs_cons (pg_name (i := 1) sc_full_length.nd rfl (Or.inl rfl)) (pgs_cons (pg_name (i := 2) sc_full_length.nd rfl (Or.inl rfl)) pgs_nil))))
      (pss_cons (ps_setLc (i := 3) (own := [("layer", 4)]) (g := (gName 4)) (tt := tYes) (by rfl) sc_full_length.nd rfl rfl (sw_true rfl rfl rfl (by decide +kernel)) (pi_tup (pv 1)) (blkOk_by (own := [("layer", 4)]) (N := ["sheet", "layers", "window", "lengths", "layer"]) (sc := defScope s_full_length) (by decide +kernel)) (fun _ _ _ _ _ => (pg_name (i := 4) sc_full_length.nd rfl (Or.inl rfl))) (fun _ _ _ _ _ => pts_nil) (fun _ _ _ _ _ => (pe_own D_length_of (hr.mono (by omega)) (by rfl) (pa_cons (pv 4) pa_nil))))
      (pss_cons (ps_if (pt_cmpR op_in_seq pe_non (pv 3) (by rfl)) (pss_one (ps_ret pe_non)) pss_nil)
      (pss_one (ps_ret (pe_callB (cr_max rfl) (by rfl) T.b_max (by decide +kernel) (pa_cons (pe_op op_cat (pv 3) (pe_lst (pa_cons (pe_own D_moved (hr.mono (by omega)) (by rfl) (pa_cons (pv 2) pa_nil)) pa_nil))) pa_nil))))))), ?_⟩
    obtain ⟨p, lv, wv, rfl, hp, ⟨pl, vs, rfl, hq, pd⟩, hw⟩ := hsh
    obtain ⟨v1, v4, vl⟩ := vL
    have hl : vs.length = ls.length := Paired.length pd
    refine ⟨_, rfl, p, _, rfl, hp, rfl, _, _, rfl, _, _, rfl, rfl, ?_⟩
    refine ⟨_, rfl, pl, rfl, ⟨_, hq⟩, fun D hD => ?_⟩
    refine lcmap_tup (ls.map fun l => bkV (lenL l)) (by simp [hl]) (by omega) hq hD (fun i x y H2 R Z hx hy s2 hR => ?_) (fun H2 s2 hL => ?_)
    · obtain ⟨l, hl1, hly⟩ := Paired.at pd hx
      have ey : y = bkV (lenL l) := by
        rw [List.getElem?_map, hl1] at hy
        exact (Option.some.inj hy).symm
      subst ey
      exact ⟨rfl, yes_ok ⟨_, rfl, x, l, rfl, hly.keep (Same.tk s2), vl l (List.mem_of_getElem? hl1), hR⟩⟩
    · have hfl : (ls.map fun l => bkV (lenL l)).all flatV = true := List.all_eq_true.mpr fun z hz => by
        obtain ⟨l, _, rfl⟩ := List.mem_map.mp hz
        exact bk_flat _
      refine ⟨_, rfl, D, _, rfl, .inl (.inl (.inl hL)), rfl, hfl, _, rfl, ite2 (fun e => ?_) (fun e => ?_)⟩
      · exact q _ none s2 (.inl ⟨(in_ends ls).mp e, rfl⟩)
      · obtain ⟨h1, h2⟩ := all_ints (fun z => e ((in_ends ls).mpr z))
        rw [h2] at hL
        refine ⟨_, rfl, _, rfl, wv, x, y, ms, rfl, hw.keep (Same.tk s2), vw.2.2.1, fun H3 s3 => ⟨(by show 1 ≤ sizeLine; decide), fun p4 np4 => ?_⟩⟩
        obtain ⟨s4, e4⟩ := new_at (.lst [.int (mtot ms)]) np4
        generalize upd H3 p4 (.lst [.int (mtot ms)]) = H4 at s4 e4 ⊢
        refine ⟨D, p4, _, _, rfl, rfl, s4 _ _ (s3 _ _ hL), e4, ?_, fun p5 np5 => ?_⟩
        · rw [List.length_map, List.length_map]
          exact Nat.le_of_lt (small1000 (by show ls.length + 1 ≤ 1000; omega))
        · refine ⟨p5, ls.map (fun l => tot l.1) ++ [mtot ms], rfl, .inl (.inl ?_), by simp, fun m hm hx => ?_⟩
          · rw [upd_same, List.map_append]
            rfl
          · exact q _ (some m) (((s2.trans s3).trans s4).trans (same_upd np5)) (.inr ⟨h1, m, rfl, hm, hx⟩)
def sp_sheet_length (K : PySem.W.Frag) : Sp := fun vs H Q _ => ∃ (v : V) (ls : List LY) (x y : Int) (ms : List MV), vs = [v] ∧ ShAt K H v ls x y ms ∧ VLays ls ∧ VWin x y ms ∧ ∀ H' r, Same H H' → ShLen ls (mtot ms) r → Q (bkV r) H'
theorem ok_sheet_length {f : Addr} {fd : FuncData} (F : Fun K "sheet_length" "sheet_length" s_sheet_length f fd) (T : Txt K mg) (D_need_sheet : Cl P w K mg base 7 "need_sheet" ["thing"] (sp_need_sheet K)) (D_full_length : Cl P w K mg base 3 "full_length" ["sheet"] (sp_full_length K)) : FnOk P w K mg base CX0 8 f fd ["sheet"] (sp_sheet_length K) := by
  refine F.ok sc_sheet_length (fun vs H Q E h => ?_) (fun cdv A outer s H vs Q E hr h => ?_)
  · obtain ⟨v, ls, x, y, ms, rfl, _⟩ := h
    rfl
  · obtain ⟨v, ls, x, y, ms, rfl, hsh, vL, vw, q⟩ := h
    refine ⟨_, (pss_cons (ps_expr (pe_own D_need_sheet (hr.mono (by omega)) (by rfl) (pa_cons (pv 0) pa_nil)))
      (pss_one (ps_ret (pe_own D_full_length (hr.mono (by omega)) (by rfl) (pa_cons (pv 0) pa_nil))))), ?_⟩
    refine ⟨_, rfl, v, ls, x, y, ms, rfl, hsh, vL, vw, fun H1 s1 => ?_⟩
    exact ⟨_, rfl, v, ls, x, y, ms, rfl, hsh.keep (Same.tk s1), vL, vw, fun H2 r s2 hr => q _ r (s1.trans s2) hr⟩
end

section
variable {P : Program} {w : World} {K : PySem.W.Frag} {mg : Str → Option Value} {base : Heap}
def sp_common_divisor (K : PySem.W.Frag) : Sp := fun vs H Q _ => ∃ a b : Nat, vs = [.int a, .int b] ∧ Q (.int ((Nat.gcd a b : Nat) : Int)) H
theorem ok_common_divisor {f : Addr} {fd : FuncData} (F : Fun K "common_divisor" "common_divisor" s_common_divisor f fd) (T : Txt K mg) : FnOk P w K mg base CX0 1 f fd ["one", "other"] (sp_common_divisor K) := by
  refine F.ok sc_common_divisor (fun vs H Q E h => ?_) (fun cdv A outer s H vs Q E hr h => ?_)
  · obtain ⟨a, b, rfl, _⟩ := h
    rfl
  · obtain ⟨a, b, rfl, q⟩ := h
    refine ⟨_, (pss_cons (ps_while PassesOwn.never (pt_truth (pv 1) (by intro _; rfl)) (pss_one (ps_par (i := 0) (j := 1) (by rfl) sc_common_divisor.nd rfl rfl (by decide) rfl rfl (pa_cons (pv 1) (pa_cons (pe_op op_modN (pv 0) (pv 1)) pa_nil)) (by rfl))))
      (pss_one (ps_ret (pv 0)))), ?_⟩
    refine while_by (fun σ H' => H = H' ∧ ∃ c d : Nat, σ = [some (.int c), some (.int d)] ∧ Nat.gcd c d = Nat.gcd a b) (fun σ _ => match σ with | [_, some (.int d)] => d.toNat | _ => 0) ⟨rfl, a, b, rfl, rfl⟩ ?_ ?_
    · rintro σ H1 ⟨rfl, c, d, rfl, e⟩
      refine ⟨_, rfl, _, rfl, ite2 (fun hd => ?_) (fun hd => ?_)⟩
      · have d0 : (d : Int) ≠ 0 := fun z => by
          rw [z] at hd
          exact absurd hd (by decide)
        refine ⟨_, rfl, _, rfl, _, rfl, _, _, rfl, rfl, d0, _, _, rfl, ⟨rfl, d, c % d, ?_, ?_⟩, ?_⟩
        · show [some (V.int (d : Int)), some (V.int ((c : Int).fmod (d : Int)))] = _
          rw [Int.fmod_eq_emod_of_nonneg _ (by omega)]
          rfl
        · rw [← e, Nat.gcd_comm c d, Nat.gcd_rec d c, Nat.gcd_comm (c % d) d]
        · show ((c : Int).fmod (d : Int)).toNat < (d : Int).toNat
          have := (fm (x := (c : Int)) (m := (d : Int)) (by omega)).2
          omega
      · have d0 : d = 0 := by
          rcases Nat.eq_zero_or_pos d with z | z
          · exact z
          · exact absurd (show ((d : Int) != 0) = true from bne_iff_ne.mpr (by omega)) hd
        subst d0
        rw [Nat.gcd_zero_right] at e
        refine ⟨_, rfl, ?_⟩
        rw [e]
        exact q
    · rintro σ H1 Q1 Q2 hm ⟨v, e1, k, e2, e3⟩
      exact ⟨v, e1, k, e2, hm _ _ e3⟩
def sp_lowest (K : PySem.W.Frag) : Sp := fun vs H Q _ => ∃ t b : Int, vs = [.int t, .int b] ∧ 1 ≤ b ∧ b ≤ 1000 ∧ ∀ H' v, Same H H' → RowAt K H' v (lo t b) → Q v H'
theorem ok_lowest {f : Addr} {fd : FuncData} (F : Fun K "lowest" "lowest" s_lowest f fd) (T : Txt K mg) (D_common_divisor : Cl P w K mg base 1 "common_divisor" ["one", "other"] (sp_common_divisor K)) : FnOk P w K mg base CX0 2 f fd ["top", "bottom"] (sp_lowest K) := by
  refine F.ok sc_lowest (fun vs H Q E h => ?_) (fun cdv A outer s H vs Q E hr h => ?_)
  · obtain ⟨t, b, rfl, _⟩ := h
    rfl
  · obtain ⟨t, b, rfl, h1, h2, q⟩ := h
    refine ⟨_, (pss_cons (ps_set (i := 2) sc_lowest.nd rfl (Or.inl rfl) (pe_own D_common_divisor (hr.mono (by omega)) (by rfl) (pa_cons (pe_callB call_abs (by rfl) T.b_abs (by decide +kernel) (pa_cons (pv 0) pa_nil)) (pa_cons (pv 1) pa_nil))))
      (pss_one (ps_ret (pe_tup (pa_cons (pe_op op_fdivN (pv 0) (pv 2)) (pa_cons (pe_op op_fdivN (pv 1) (pv 2)) pa_nil)))))), ?_⟩
    obtain ⟨g, t', b', eg, gp, et, eb, bp, el, gle, _⟩ := gcd_facts (t := t) (show 0 < b by omega)
    refine ⟨_, rfl, t, rfl, _, rfl, t.natAbs, b.natAbs, ?_, ?_⟩
    · show [V.int (if t < 0 then -t else t), V.int b] = _
      rw [show (if t < 0 then -t else t) = (t.natAbs : Int) by split <;> omega, show b = ((b.natAbs : Nat) : Int) by omega]
      rfl
    rw [eg]
    refine ⟨_, rfl, _, rfl, t, g, rfl, rfl, ⟨by omega, by omega⟩, _, rfl, _, rfl, b, g, rfl, rfl, ⟨by omega, by omega⟩, (by show 2 ≤ sizeLine; decide), fun p np => ?_⟩
    refine q _ _ (same_upd np) ⟨p, rfl, .inl (.inl ?_)⟩
    rw [upd_same]
    show some (HO.tup [V.int (t.fdiv g), V.int (b.fdiv g)]) = _
    rw [Int.fdiv_eq_ediv_of_nonneg t (show 0 ≤ g by omega), Int.fdiv_eq_ediv_of_nonneg b (show 0 ≤ g by omega)]
    unfold lo
    rw [eg]
def sp_on_the_way (K : PySem.W.Frag) : Sp := fun vs H Q _ => ∃ s g k n : Int, vs = [.int s, .int g, .int k, .int n] ∧ (-20 ≤ s ∧ s ≤ 20) ∧ (-20 ≤ g ∧ g ≤ 20) ∧ 1 ≤ n ∧ n ≤ 1000 ∧ ∀ H' v, Same H H' → RowAt K H' v (lo (s * n + (g - s) * k) n) → Q v H'
theorem ok_on_the_way {f : Addr} {fd : FuncData} (F : Fun K "on_the_way" "on_the_way" s_on_the_way f fd) (T : Txt K mg) (D_lowest : Cl P w K mg base 2 "lowest" ["top", "bottom"] (sp_lowest K)) : FnOk P w K mg base CX0 3 f fd ["start", "goal", "step", "many"] (sp_on_the_way K) := by
  refine F.ok sc_on_the_way (fun vs H Q E h => ?_) (fun cdv A outer s H vs Q E hr h => ?_)
  · obtain ⟨s, g, k, n, rfl, _⟩ := h
    rfl
  · obtain ⟨s0, g, k, n, rfl, hs, hg, h1, h2, q⟩ := h
    refine ⟨_, (pss_one (ps_ret (pe_own D_lowest (hr.mono (by omega)) (by rfl) (pa_cons (pe_op op_add (pe_op op_mul (pv 0) (pv 3)) (pe_op op_mul (pe_op op_sub (pv 1) (pv 0)) (pv 2))) (pa_cons (pv 3) pa_nil))))), ?_⟩
    exact ⟨_, rfl, _, rfl, s0, n, rfl, rfl, .inl ⟨by omega, by omega⟩, _, rfl, _, rfl, g, s0, rfl, rfl, _, rfl, g - s0, k, rfl, rfl, .inl ⟨by omega, by omega⟩, _, _, rfl, rfl, _, rfl, _, n, rfl, h1, h2, q⟩
def sp_place_of (K : PySem.W.Frag) : Sp := fun vs H Q _ => ∃ (v : V) (x y : Int) (ms : List MV) (m : Int), vs = [v, .int m] ∧ WinAt K H v x y ms ∧ VWin x y ms ∧ 0 ≤ m ∧ ∀ H' v, Same H H' → PlAt K H' v (plc x y ms m) → Q v H'
theorem ok_place_of {f : Addr} {fd : FuncData} (F : Fun K "place_of" "place_of" s_place_of f fd) (T : Txt K mg) (D_on_the_way : Cl P w K mg base 3 "on_the_way" ["start", "goal", "step", "many"] (sp_on_the_way K)) : FnOk P w K mg base CX0 4 f fd ["window", "moment"] (sp_place_of K) := by
  refine F.ok sc_place_of (fun vs H Q E h => ?_) (fun cdv A outer s H vs Q E hr h => ?_)
  · obtain ⟨v, x, y, ms, m, rfl, _⟩ := h
    rfl
  · obtain ⟨v, x, y, ms, m, rfl, ⟨p, mv, rfl, hp, pm, vs, rfl, hq, pd⟩, ⟨vx, vy, v8, vm⟩, m0, q⟩ := h
    have hl : vs.length = ms.length := Paired.length pd
    refine ⟨_, (pss_cons (ps_asg (pv 0) (pg_tup (by rfl) (pgs_cons (pg_name (i := 2) sc_place_of.nd rfl (Or.inl rfl)) (pgs_cons (pg_name (i := 3) sc_place_of.nd rfl (Or.inl rfl)) (pgs_cons (pg_name (i := 4) sc_place_of.nd rfl (Or.inl rfl)) pgs_nil)))))
      (pss_cons (ps_set (i := 5) sc_place_of.nd rfl (Or.inl rfl) (pv 1))
      (pss_cons (ps_for PassesOwn.never rfl (pi_tup (pv 4)) (pg_tup (by rfl) (pgs_cons (pg_name (i := 6) sc_place_of.nd rfl (Or.inl rfl)) (pgs_cons (pg_name (i := 7) sc_place_of.nd rfl (Or.inl rfl)) (pgs_cons (pg_name (i := 8) sc_place_of.nd rfl (Or.inl rfl)) pgs_nil))))
        (pss_cons (ps_if (pt_cmpR op_lt (pv 5) (pv 8) (nomark _)) (pss_cons (ps_set (i := 9) sc_place_of.nd rfl (Or.inl rfl) (pe_op op_add (pv 5) pe_int))
      (pss_one (ps_ret (pe_tup (pa_cons (pe_own D_on_the_way (hr.mono (by omega)) (by rfl) (pa_cons (pv 2) (pa_cons (pv 6) (pa_cons (pv 9) (pa_cons (pv 8) pa_nil))))) (pa_cons (pe_own D_on_the_way (hr.mono (by omega)) (by rfl) (pa_cons (pv 3) (pa_cons (pv 7) (pa_cons (pv 9) (pa_cons (pv 8) pa_nil))))) pa_nil)))))) pss_nil)
      (pss_cons (ps_aug (i := 5) sc_place_of.nd rfl (Or.inl rfl) (pv 8) ip_sub)
      (pss_one (ps_par (i := 2) (j := 3) (by rfl) sc_place_of.nd rfl rfl (by decide) rfl rfl (pa_cons (pv 6) (pa_cons (pv 7) pa_nil)) (by rfl))))))
      (pss_one (ps_ret (pe_tup (pa_cons (pe_tup (pa_cons (pv 2) (pa_cons pe_int pa_nil))) (pa_cons (pe_tup (pa_cons (pv 3) (pa_cons pe_int pa_nil))) pa_nil)))))))), ?_⟩
    refine ⟨_, rfl, p, _, rfl, hp, rfl, _, _, rfl, _, _, rfl, _, _, rfl, rfl, ?_⟩
    refine ⟨_, rfl, _, rfl, pm, rfl, ⟨_, hq⟩, for_tup (K := K) (a := pm) (xs := vs) (fun i σ H' => H = H' ∧ ∃ (cx cy t : Int) (y6 y7 y8 y9 : Option V), σ = [some (.ref p), some (.int m), some (.int cx), some (.int cy), some (.ref pm), some (.int t), y6, y7, y8, y9] ∧ (-20 ≤ cx ∧ cx ≤ 20) ∧ (-20 ≤ cy ∧ cy ≤ 20) ∧ 0 ≤ t ∧ plc cx cy (ms.drop i) t = plc x y ms m)
      ⟨rfl, x, y, m, _, _, _, _, rfl, vx, vy, m0, rfl⟩ (fun i σ H' _ z => by rw [← z.1]; exact hq) ?_ ?_⟩
    · rintro i v σ H1 hv ⟨rfl, cx, cy, t, y6, y7, y8, y9, rfl, hcx, hcy, t0, e⟩
      obtain ⟨mm, hm1, pw, rfl, hrow⟩ := Paired.at pd hv
      have hi : i < ms.length := (List.getElem?_eq_some_iff.mp hm1).1
      have ed : ms.drop i = mm :: ms.drop (i + 1) := by
        rw [List.drop_eq_getElem_cons hi]
        congr 1
        rw [List.getElem?_eq_getElem hi] at hm1
        exact Option.some.inj hm1
      rw [ed, plc_cons] at e
      obtain ⟨vmx, vmy, vm3, vm4⟩ := vm mm (List.mem_of_getElem? hm1)
      refine ⟨pw, _, rfl, hrow, rfl, _, _, rfl, _, _, rfl, _, _, rfl, rfl, ?_⟩
      refine ⟨_, rfl, _, rfl, t, mm.2.2, rfl, rfl, _, rfl, ite2 (fun c => ?_) (fun c => ?_)⟩
      · have c1 : t < mm.2.2 := of_decide_eq_true c
        rw [if_pos c1] at e
        refine ⟨_, rfl, t, 1, rfl, rfl, ?_⟩
        refine ⟨_, rfl, _, rfl, _, rfl, _, rfl, cx, mm.1, t + 1, mm.2.2, rfl, hcx, vmx, by omega, by omega, fun H2 v1 s2 r2 => ?_⟩
        refine ⟨_, rfl, _, rfl, _, rfl, _, rfl, cy, mm.2.1, t + 1, mm.2.2, rfl, hcy, vmy, by omega, by omega, fun H3 v2 s3 r3 => ?_⟩
        refine ⟨(by show 2 ≤ sizeLine; decide), fun p4 np4 => ?_⟩
        have s4 := same_upd (o := .tup [v1, v2]) np4
        refine q _ _ ((s2.trans s3).trans s4) ?_
        rw [← e]
        exact ⟨p4, v1, v2, rfl, .inl (.inl upd_same), r2.keep (Same.tk (s3.trans s4)), r3.keep (Same.tk s4)⟩
      · have c1 : ¬ t < mm.2.2 := fun z => c (decide_eq_true z)
        rw [if_neg c1] at e
        refine ⟨_, rfl, _, rfl, t, mm.2.2, rfl, rfl, ?_⟩
        refine ⟨_, rfl, _, rfl, _, _, rfl, ?_⟩
        exact ⟨rfl, mm.1, mm.2.1, t - mm.2.2, _, _, _, _, rfl, vmx, vmy, by omega, e⟩
    · rintro σ H1 ⟨rfl, cx, cy, t, y6, y7, y8, y9, rfl, hcx, hcy, t0, e⟩
      rw [List.drop_of_length_le (by omega), plc_nil] at e
      refine ⟨_, rfl, (by show 2 ≤ sizeLine; decide), fun p1 np1 => ?_⟩
      have s1 := same_upd (o := .tup [.int cx, .int 1]) np1
      refine ⟨_, rfl, (by show 2 ≤ sizeLine; decide), fun p2 np2 => ?_⟩
      have s2 := same_upd (o := .tup [.int cy, .int 1]) np2
      refine ⟨(by show 2 ≤ sizeLine; decide), fun p3 np3 => ?_⟩
      have s3 := same_upd (o := .tup [.ref p1, .ref p2]) np3
      refine q _ _ ((s1.trans s2).trans s3) ?_
      rw [← e]
      exact ⟨p3, _, _, rfl, .inl (.inl upd_same), ⟨p1, rfl, .inl (.inl (s3 _ _ (s2 _ _ upd_same)))⟩, ⟨p2, rfl, .inl (.inl (s3 _ _ upd_same))⟩⟩
end

section
variable {P : Program} {w : World} {K : PySem.W.Frag} {mg : Str → Option Value} {base : Heap}
def sp_picture_of (K : PySem.W.Frag) : Sp := fun vs H Q _ => ∃ (v : V) (ls : List LY) (x y : Int) (ms : List MV) (m : Int), vs = [v, .int m] ∧ ShAt K H v ls x y ms ∧ VLays ls ∧ VWin x y ms ∧ 0 ≤ m ∧ ∀ H' v, Same H H' → PicAt K H' v (pic ls x y ms m) → Q v H'
theorem ok_picture_of {f : Addr} {fd : FuncData} (F : Fun K "picture_of" "picture_of" s_picture_of f fd) (T : Txt K mg) (D_drawing_of : Cl P w K mg base 3 "drawing_of" ["layer", "moment"] (sp_drawing_of K)) (D_place_of : Cl P w K mg base 4 "place_of" ["window", "moment"] (sp_place_of K)) : FnOk P w K mg base CX0 5 f fd ["sheet", "moment"] (sp_picture_of K) := by
  refine F.ok sc_picture_of (fun vs H Q E h => ?_) (fun cdv A outer s H vs Q E hr h => ?_)
  · obtain ⟨v, ls, x, y, ms, m, rfl, _⟩ := h
    rfl
  · obtain ⟨v, ls, x, y, ms, m, rfl, ⟨p, lv, wv, rfl, hp, ⟨pl, vs, rfl, hq, pd⟩, hw⟩, ⟨v1, v4, vl⟩, vw, m0, q⟩ := h
    have hl : vs.length = ls.length := Paired.length pd
    refine ⟨_, (pss_cons (ps_asg (pv 0) (pg_tup (by rfl) (pgs_cons (pg_name (i := 2) sc_picture_of.nd rfl (Or.inl rfl)) (pgs_cons (pg_name (i := 3) sc_picture_of.nd rfl (Or.inl rfl)) pgs_nil))))
      (pss_cons (ps_set (i := 4) sc_picture_of.nd rfl (Or.inl rfl) (pe_callTy call_tuple_of (by rfl) T.b_tuple (by decide +kernel) (pa_cons (pe_lc (own := [("layer", 5)]) (g := (gName 5)) (tt := tYes) (by rfl) sc_picture_of.nd (pi_tup (pv 2)) (blkOk_by (own := [("layer", 5)]) (N := ["sheet", "moment", "layers", "window", "drawings", "layer"]) (sc := defScope s_picture_of) (by decide +kernel)) (fun _ _ _ _ _ => (pg_name (i := 5) sc_picture_of.nd rfl (Or.inl rfl))) (fun _ _ _ _ _ => pts_nil) (fun _ _ _ _ _ => (pe_own D_drawing_of (hr.mono (by omega)) (by rfl) (pa_cons (pv 5) (pa_cons (pv 1) pa_nil))))) pa_nil)))
      (pss_one (ps_ret (pe_tup (pa_cons (pv 4) (pa_cons (pe_own D_place_of (hr.mono (by omega)) (by rfl) (pa_cons (pv 3) (pa_cons (pv 1) pa_nil))) pa_nil))))))), ?_⟩
    refine ⟨_, rfl, p, _, rfl, hp, rfl, _, _, rfl, _, _, rfl, rfl, ?_⟩
    refine ⟨_, rfl, pl, rfl, ⟨_, hq⟩, fun D hD => ?_⟩
    refine lcmap_tup ((ls.map fun l => shown l.1 l.2 m).map V.int) (by simp [hl]) (by omega) hq hD (fun i x y H2 R Z hx hy s2 hR => ?_) (fun H2 s2 hL => ?_)
    · obtain ⟨l, hl1, hly⟩ := Paired.at pd hx
      have ey : y = .int (shown l.1 l.2 m) := by
        rw [List.map_map, List.getElem?_map, hl1] at hy
        exact (Option.some.inj hy).symm
      subst ey
      have vl1 := vl l (List.mem_of_getElem? hl1)
      exact ⟨rfl, yes_ok ⟨_, rfl, _, rfl, x, l.1, l.2, m, rfl, LayAt.keep (Same.tk s2) hly, vl1.1, vl1.2, hR⟩⟩
    · refine ⟨D, _, rfl, .inl ⟨.inl (.inl hL), fun b nb => ?_⟩⟩
      obtain ⟨s3, e3⟩ := new_at (.tup ((ls.map fun l => shown l.1 l.2 m).map V.int)) nb
      refine ⟨_, rfl, _, rfl, _, rfl, wv, x, y, ms, m, rfl, hw.keep (Same.tk (s2.trans s3)), vw, m0, fun H4 v4 s4 p4 => ⟨(by show 2 ≤ sizeLine; decide), fun p5 np5 => ?_⟩⟩
      have s5 := same_upd (o := .tup [.ref b, v4]) np5
      exact q _ _ (((s2.trans s3).trans s4).trans s5) ⟨p5, b, v4, rfl, .inl (.inl upd_same), .inl (.inl (s5 _ _ (s4 _ _ e3))), p4.keep (Same.tk s5)⟩
def sp_picture_at (K : PySem.W.Frag) : Sp := fun vs H Q _ => ∃ (v : V) (ls : List LY) (x y : Int) (ms : List MV) (m : Int), vs = [v, .int m] ∧ ShAt K H v ls x y ms ∧ VLays ls ∧ VWin x y ms ∧ 0 ≤ m ∧ m ≤ 1000000000 ∧ ∀ H' v, Same H H' → PicAt K H' v (pic ls x y ms m) → Q v H'
theorem ok_picture_at {f : Addr} {fd : FuncData} (F : Fun K "picture_at" "picture_at" s_picture_at f fd) (T : Txt K mg) (D_need_sheet : Cl P w K mg base 7 "need_sheet" ["thing"] (sp_need_sheet K)) (D_need_moment : Cl P w K mg base 3 "need_moment" ["thing"] (sp_need_moment K)) (D_picture_of : Cl P w K mg base 5 "picture_of" ["sheet", "moment"] (sp_picture_of K)) : FnOk P w K mg base CX0 8 f fd ["sheet", "moment"] (sp_picture_at K) := by
  refine F.ok sc_picture_at (fun vs H Q E h => ?_) (fun cdv A outer s H vs Q E hr h => ?_)
  · obtain ⟨v, ls, x, y, ms, m, rfl, _⟩ := h
    rfl
  · obtain ⟨v, ls, x, y, ms, m, rfl, hsh, vL, vw, m0, m1, q⟩ := h
    refine ⟨_, (pss_cons (ps_expr (pe_own D_need_sheet (hr.mono (by omega)) (by rfl) (pa_cons (pv 0) pa_nil)))
      (pss_cons (ps_expr (pe_own D_need_moment (hr.mono (by omega)) (by rfl) (pa_cons (pv 1) pa_nil)))
      (pss_one (ps_ret (pe_own D_picture_of (hr.mono (by omega)) (by rfl) (pa_cons (pv 0) (pa_cons (pv 1) pa_nil))))))), ?_⟩
    refine ⟨_, rfl, v, ls, x, y, ms, rfl, hsh, vL, vw, fun H1 s1 => ?_⟩
    refine ⟨_, rfl, m, rfl, m0, m1, ?_⟩
    exact ⟨_, rfl, _, rfl, v, ls, x, y, ms, m, rfl, hsh.keep (Same.tk s1), vL, vw, m0, fun H2 v2 s2 r2 => q _ _ (s1.trans s2) r2⟩
end

section
variable {P : Program} {w : World} {K : PySem.W.Frag} {mg : Str → Option Value} {base : Heap}
def sp_drawings_of (K : PySem.W.Frag) : Sp := fun vs H Q _ => ∃ (v : V) (rs : List RW), vs = [v] ∧ RowsAt K H v rs ∧ VRows rs ∧ ∀ H' p, Same H H' → H p = none → H' p = some (.lst ((dwg rs).map V.int)) → Q (.ref p) H'
theorem ok_drawings_of {f : Addr} {fd : FuncData} (F : Fun K "drawings_of" "drawings_of" s_drawings_of f fd) (T : Txt K mg) : FnOk P w K mg base CX0 1 f fd ["rows"] (sp_drawings_of K) := by
  refine F.ok sc_drawings_of (fun vs H Q E h => ?_) (fun cdv A outer s H vs Q E hr h => ?_)
  · obtain ⟨v, rs, rfl, _⟩ := h
    rfl
  · obtain ⟨v, rs, rfl, ⟨pr, vs, rfl, hq, pd⟩, ⟨v8, vr⟩, q⟩ := h
    have hl : vs.length = rs.length := Paired.length pd
    refine ⟨_, (pss_one (ps_ret (pe_lc2 (own := [("drawing", 1), ("hold", 2), ("turn", 3)]) (vs1 := [3]) (g := (gTup _ 2 (gCons (gName 1) (gCons (gName 2) gNil)))) (g1 := (gName 3)) (tt := tYes) (tt1 := tYes) (by rfl) sc_drawings_of.nd (pi_tup (pv 0)) (blkOk_by (own := [("drawing", 1), ("hold", 2), ("turn", 3)]) (N := ["rows", "drawing", "hold", "turn"]) (sc := defScope s_drawings_of) (by decide +kernel)) (by decide) (fun _ _ _ _ _ => (pg_tup (by rfl) (pgs_cons (pg_name (i := 1) sc_drawings_of.nd rfl (Or.inl rfl)) (pgs_cons (pg_name (i := 2) sc_drawings_of.nd rfl (Or.inl rfl)) pgs_nil)))) (fun _ _ _ _ _ => pts_nil) (fun _ _ _ _ _ => (pi_range1 (by rfl) T.b_range (pa_cons (pv 2) pa_nil))) (fun _ _ _ _ _ => (pg_name (i := 3) sc_drawings_of.nd rfl (Or.inl rfl))) (fun _ _ _ _ _ => pts_nil) (fun _ _ _ _ _ => (pv 1))))), ?_⟩
    refine ⟨_, rfl, pr, rfl, ⟨_, hq⟩, fun D hD => ?_⟩
    refine wk_tup (K := K) (a := pr) (xs := vs) (fun i H' => Same H H' ∧ H' D = some (.lst ((dwg (rs.take i)).map V.int))) ⟨same_upd hD, upd_same⟩ (fun i H' _ z => Same.sqT z.1 hq) (fun i x H1 hx p1 => ?_) (fun H1 p1 => ?_)
    · obtain ⟨s1, e1⟩ := p1
      obtain ⟨r, hr1, p, rfl, hrow⟩ := Paired.at pd hx
      have vr1 := vr r (List.mem_of_getElem? hr1)
      obtain ⟨_, _, v3, v4⟩ := vr1
      have hi : i < rs.length := (List.getElem?_eq_some_iff.mp hr1).1
      have dl : (dwg (rs.take i)).length ≤ 192 := by
        have h := dwg_len (rs := rs.take i) fun r hr => vr r (List.mem_of_mem_take hr)
        have t := (tot_nonneg (rs := rs.take i) fun r hr => vr r (List.mem_of_mem_take hr)).2
        rw [List.length_take] at t
        omega
      refine ⟨p, _, rfl, Same.sqT s1 hrow, rfl, _, _, rfl, _, _, rfl, rfl, rfl, yes_ok2 ?_⟩
      refine ⟨_, rfl, r.2, rfl, by omega, by omega, ?_⟩
      refine wk_range (lo := 0) (n := r.2.toNat) (fun j H' => Same H H' ∧ H' D = some (.lst ((dwg (rs.take i) ++ List.replicate j r.1).map V.int))) ⟨s1, by rw [List.replicate_zero, List.append_nil]; exact e1⟩ (fun j H2 hj p2 => ?_) (fun H2 p2 => ?_)
      · obtain ⟨s2, e2⟩ := p2
        refine ⟨rfl, yes_ok ⟨_, rfl, _, e2, ?_, fun b o e => ?_, ?_⟩⟩
        · rw [List.length_map, List.length_append, List.length_replicate]
          exact small1000 (by omega)
        · rw [upd_ne (ne_of_none e hD)]
          exact s2 _ _ e
        · rw [upd_same, List.replicate_succ', ← List.append_assoc, List.map_append (l₂ := [r.1])]
          rfl
      · obtain ⟨s2, e2⟩ := p2
        refine ⟨s2, ?_⟩
        rw [e2, List.take_add_one, hr1, dwg_append]
        show some (HO.lst (((dwg (rs.take i)) ++ List.replicate r.2.toNat r.1).map V.int)) = some (.lst ((dwg (rs.take i) ++ (List.replicate r.2.toNat r.1 ++ [])).map V.int))
        rw [List.append_nil]
    · obtain ⟨s1, e1⟩ := p1
      rw [List.take_of_length_le (by omega)] at e1
      exact q _ D s1 hD e1
def sp_ahead_and_around (K : PySem.W.Frag) : Sp := fun vs H Q _ => ∃ (v : V) (rs : List RW) (bk : Option Int), vs = [v] ∧ LayAt K H v rs bk ∧ VRows rs ∧ VBack rs bk ∧
  ∀ H' p a b, Same H H' → SqT K H' p [.ref a, .ref b] → H a = none → H b = none → H' a = some (.lst ((ahL rs bk).map V.int)) → H' b = some (.lst ((arL rs bk).map V.int)) → Q (.ref p) H'
theorem ok_ahead_and_around {f : Addr} {fd : FuncData} (F : Fun K "ahead_and_around" "ahead_and_around" s_ahead_and_around f fd) (T : Txt K mg) (D_drawings_of : Cl P w K mg base 1 "drawings_of" ["rows"] (sp_drawings_of K)) : FnOk P w K mg base CX0 2 f fd ["layer"] (sp_ahead_and_around K) := by
  refine F.ok sc_ahead_and_around (fun vs H Q E h => ?_) (fun cdv A outer s H vs Q E hr h => ?_)
  · obtain ⟨v, rs, bk, rfl, _⟩ := h
    rfl
  · obtain ⟨v, rs, bk, rfl, ⟨p, rv, rfl, hp, pr, vs, rfl, hq, pd⟩, vR, vb, q⟩ := h
    have hl : vs.length = rs.length := Paired.length pd
    refine ⟨_, (pss_cons (ps_asg (pv 0) (pg_tup (by rfl) (pgs_cons (pg_name (i := 1) sc_ahead_and_around.nd rfl (Or.inl rfl)) (pgs_cons (pg_name (i := 2) sc_ahead_and_around.nd rfl (Or.inl rfl)) pgs_nil))))
      (pss_cons (ps_if (pt_cmpR op_isN (pv 2) pe_non (nomark _)) (pss_one (ps_ret (pe_tup (pa_cons (pe_own D_drawings_of (hr.mono (by omega)) (by rfl) (pa_cons (pv 1) pa_nil)) (pa_cons (pe_lst (pa_cons pe_int pa_nil)) pa_nil))))) pss_nil)
      (pss_one (ps_ret (pe_tup (pa_cons (pe_own D_drawings_of (hr.mono (by omega)) (by rfl) (pa_cons (pe_slice sl_tupA (pv 1) po_none (po_some (pv 2))) pa_nil)) (pa_cons (pe_own D_drawings_of (hr.mono (by omega)) (by rfl) (pa_cons (pe_slice sl_tupA (pv 1) (po_some (pv 2)) po_none) pa_nil)) pa_nil))))))), ?_⟩
    refine ⟨_, rfl, p, _, rfl, hp, rfl, _, _, rfl, _, _, rfl, rfl, ?_⟩
    refine ⟨_, rfl, rfl, _, rfl, ?_⟩
    cases bk with
    | none =>
      refine ite2 (fun _ => ?_) (fun e => absurd (decide_eq_true rfl) e)
      refine ⟨_, rfl, _, rs, rfl, ⟨pr, vs, rfl, hq, pd⟩, vR, fun H1 A s1 nA eA => ?_⟩
      refine ⟨(by show 1 ≤ sizeLine; decide), fun B nB => ?_⟩
      obtain ⟨s2, e2⟩ := new_at (.lst [.int 0]) nB
      refine ⟨(by show 2 ≤ sizeLine; decide), fun T nT => ?_⟩
      have s3 := same_upd (o := .tup [.ref A, .ref B]) nT
      exact q _ T A B ((s1.trans s2).trans s3) (.inl (.inl upd_same)) nA (s1.free nB) (s3 _ _ (s2 _ _ eA)) (s3 _ _ e2)
    | some b =>
      refine ite2 (fun e => nomatch (of_decide_eq_true e)) (fun _ => ?_)
      have hb := vb b rfl
      obtain ⟨k, rfl⟩ : ∃ k : Nat, b = (k : Int) := ⟨b.toNat, by omega⟩
      refine ⟨_, rfl, _, rfl, _, rfl, sl_rows (rs.take k) hq (by rw [cut_to]; exact Paired.takeP k pd) (fun H1 v1 s1 h1 => ?_)⟩
      refine ⟨v1, rs.take k, rfl, h1, vR.takeV k, fun H2 A s2 nA eA => ?_⟩
      have pd2 : Paired (RowAt K H2) vs rs := Paired.mono pd fun _ _ => RowAt.keep (Same.tk (s1.trans s2))
      have hq2 := Same.sqT (s1.trans s2) hq
      refine ⟨_, rfl, _, rfl, _, rfl, ?_⟩
      dsimp only [tNoPart]
      refine sl_rows (rs.drop k) hq2 (by rw [cut_from]; exact Paired.dropP k pd2) (fun H3 v3 s3 h3 => ?_)
      refine ⟨v3, rs.drop k, rfl, h3, vR.dropV k, fun H4 B s4 nB eB => ?_⟩
      refine ⟨(by show 2 ≤ sizeLine; decide), fun T nT => ?_⟩
      have s5 := same_upd (o := .tup [.ref A, .ref B]) nT
      exact q _ T A B ((((s1.trans s2).trans s3).trans s4).trans s5) (.inl (.inl upd_same)) (s1.free nA) (((s1.trans s2).trans s3).free nB) (s5 _ _ (s4 _ _ (s3 _ _ eA))) (s5 _ _ eB)
def sp_first_drawings (K : PySem.W.Frag) : Sp := fun vs H Q _ => ∃ (v : V) (rs : List RW) (bk : Option Int) (n : Int), vs = [v, .int n] ∧ LayAt K H v rs bk ∧ VRows rs ∧ VBack rs bk ∧ 0 ≤ n ∧ n ≤ 1000 ∧
  ∀ H' p, Same H H' → H p = none → H' p = some (.lst (lays rs bk n.toNat)) → Q (.ref p) H'
theorem ok_first_drawings {f : Addr} {fd : FuncData} (F : Fun K "first_drawings" "first_drawings" s_first_drawings f fd) (T : Txt K mg) (D_ahead_and_around : Cl P w K mg base 2 "ahead_and_around" ["layer"] (sp_ahead_and_around K)) : FnOk P w K mg base CX0 3 f fd ["layer", "many"] (sp_first_drawings K) := by
  refine F.ok sc_first_drawings (fun vs H Q E h => ?_) (fun cdv A outer s H vs Q E hr h => ?_)
  · obtain ⟨v, rs, bk, n, rfl, _⟩ := h
    rfl
  · obtain ⟨v, rs, bk, n, rfl, hL, vR, vb, n0, n1, q⟩ := h
    obtain ⟨m, rfl⟩ : ∃ m : Nat, n = (m : Int) := ⟨n.toNat, by omega⟩
    have la := ahL_len (bk := bk) vR
    have lr := arL_len vR vb
    refine ⟨_, (pss_cons (ps_asg (pe_own D_ahead_and_around (hr.mono (by omega)) (by rfl) (pa_cons (pv 0) pa_nil)) (pg_tup (by rfl) (pgs_cons (pg_name (i := 2) sc_first_drawings.nd rfl (Or.inl rfl)) (pgs_cons (pg_name (i := 3) sc_first_drawings.nd rfl (Or.inl rfl)) pgs_nil))))
      (pss_cons (ps_set (i := 4) sc_first_drawings.nd rfl (Or.inl rfl) (pe_op op_add (pe_op op_fdivN (pe_callB (call_max2 rfl) (by rfl) T.b_max (by decide +kernel) (pa_cons pe_int (pa_cons (pe_op op_sub (pv 1) (pe_callB call_len_seq (by rfl) T.b_len (by decide +kernel) (pa_cons (pv 2) pa_nil))) pa_nil))) (pe_callB call_len_seq (by rfl) T.b_len (by decide +kernel) (pa_cons (pv 3) pa_nil))) pe_int))
      (pss_one (ps_ret (pe_slice sl_list (pe_op op_cat (pv 2) (pe_op op_rep (pv 3) (pv 4))) po_none (po_some (pv 1))))))), ?_⟩
    refine ⟨_, rfl, v, rs, bk, rfl, hL, vR, vb, fun H1 T A B s1 hT nA nB eA eB => ?_⟩
    refine ⟨T, _, rfl, hT, rfl, _, _, rfl, _, _, rfl, rfl, ?_⟩
    refine ⟨_, rfl, _, rfl, A, _, rfl, .inl (.inl (.inl eA)), _, _, rfl, rfl, _, _, rfl, _, rfl, B, _, rfl, .inl (.inl (.inl eB)), _, _, rfl, rfl, ⟨?_, ?_⟩, _, _, rfl, rfl, ?_⟩
    · rw [List.length_map]
      omega
    · rw [List.length_map]
      omega
    rw [List.length_map, List.length_map]
    obtain ⟨t, ht, ht1, ht2⟩ : ∃ t : Nat, (if (m : Int) - ((ahL rs bk).length : Int) > 0 then (m : Int) - ((ahL rs bk).length : Int) else 0).fdiv ((arL rs bk).length : Int) + 1 = (t : Int) ∧ t ≤ 1001 ∧ m ≤ (ahL rs bk).length + t * (arL rs bk).length := by
      generalize hx : (if (m : Int) - ((ahL rs bk).length : Int) > 0 then (m : Int) - ((ahL rs bk).length : Int) else 0) = x
      obtain ⟨y, rfl⟩ : ∃ y : Nat, x = (y : Int) := ⟨x.toNat, by split at hx <;> omega⟩
      have hy : m ≤ (ahL rs bk).length + y ∧ y ≤ 1000 := by split at hx <;> omega
      refine ⟨y / (arL rs bk).length + 1, ?_, ?_, ?_⟩
      · rw [Int.fdiv_eq_ediv_of_nonneg _ (by omega)]
        rfl
      · have := Nat.div_le_self y (arL rs bk).length
        omega
      · rw [Nat.add_mul, Nat.one_mul]
        have := Nat.lt_div_mul_add (show 0 < (arL rs bk).length by omega) (a := y)
        omega
    dsimp only [gName]
    rw [ht]
    refine ⟨_, rfl, _, rfl, _, rfl, B, _, _, rfl, rfl, eB, by omega, by omega, ?_, fun p2 np2 => ?_⟩
    · rw [List.length_map, Int.toNat_natCast]
      exact Nat.le_trans (Nat.mul_le_mul lr.2 ht1) (by decide)
    obtain ⟨s2, e2⟩ := new_at (.lst (List.replicate ((t : Int)).toNat ((arL rs bk).map V.int)).flatten) np2
    generalize upd H1 p2 (.lst (List.replicate ((t : Int)).toNat ((arL rs bk).map V.int)).flatten) = H2 at s2 e2 ⊢
    have ef : (List.replicate ((t : Int)).toNat ((arL rs bk).map V.int)).flatten = ((List.replicate t (arL rs bk)).flatten).map V.int := by
      rw [Int.toNat_natCast, List.map_flatten, List.map_replicate]
    rw [ef] at e2
    have fl : ((List.replicate t (arL rs bk)).flatten).length ≤ 1001 * 192 := by
      rw [List.length_flatten, List.map_replicate, List.sum_replicate_nat]
      exact Nat.mul_le_mul ht1 lr.2
    refine ⟨A, p2, _, _, rfl, rfl, s2 _ _ eA, e2, ?_, fun p3 np3 => ?_⟩
    · rw [List.length_map, List.length_map]
      exact Nat.le_trans (Nat.add_le_add la fl) (by decide)
    obtain ⟨s3, e3⟩ := new_at (.lst ((ahL rs bk).map V.int ++ ((List.replicate t (arL rs bk)).flatten).map V.int)) np3
    refine ⟨_, rfl, _, rfl, p3, _, rfl, .inl (.inl e3), fun p4 np4 => ?_⟩
    refine q _ p4 (((s1.trans s2).trans s3).trans (same_upd np4)) (((s1.trans s2).trans s3).free np4) ?_
    rw [upd_same, cut_to, ← List.map_append, ← List.map_take, first_lay vR vb ht2, laysI_map]
    rfl
end

section
variable {P : Program} {w : World} {K : PySem.W.Frag} {mg : Str → Option Value} {base : Heap}
def sp_least_many (K : PySem.W.Frag) : Sp := fun vs H Q _ => ∃ (B : Addr) (bs : List Int), vs = [.ref B] ∧ H B = some (.lst (bs.map V.int)) ∧ 1 ≤ bs.length ∧ bs.length ≤ 1000 ∧
  ∀ (m : Nat) (H' : Hp), Same H H' → 1 ≤ m → m ≤ bs.length → bs.drop m ++ bs.take m = bs → (∀ k, 1 ≤ k → k < m → ¬ bs.drop k ++ bs.take k = bs) → Q (.int m) H'
theorem ok_least_many {f : Addr} {fd : FuncData} (F : Fun K "least_many" "least_many" s_least_many f fd) (T : Txt K mg) : FnOk P w K mg base CX0 1 f fd ["around"] (sp_least_many K) := by
  refine F.ok sc_least_many (fun vs H Q E h => ?_) (fun cdv A outer s H vs Q E hr h => ?_)
  · obtain ⟨B, bs, rfl, _⟩ := h
    rfl
  · obtain ⟨B, bs, rfl, hB, l1, l2, q⟩ := h
    refine ⟨_, (pss_cons (ps_set (i := 1) sc_least_many.nd rfl (Or.inl rfl) pe_int)
      (pss_cons (ps_while PassesOwn.never (pt_cmpR (op_neD hr.units) (pe_op op_cat (pe_slice sl_list (pv 0) (po_some (pv 1)) po_none) (pe_slice sl_list (pv 0) po_none (po_some (pv 1)))) (pv 0) (nomark _)) (pss_one (ps_aug (i := 1) sc_least_many.nd rfl (Or.inl rfl) pe_int ip_add)))
      (pss_one (ps_ret (pv 1))))), ?_⟩
    refine while_R (fun σ H' => Same H H' ∧ ∃ m : Nat, σ = [some (.ref B), some (.int m)] ∧ 1 ≤ m ∧ m ≤ bs.length ∧ ∀ k, 1 ≤ k → k < m → ¬ bs.drop k ++ bs.take k = bs)
      (fun σ _ => match σ with | [_, some (.int m)] => bs.length - m.toNat | _ => 0) ⟨Same.refl _, 1, rfl, by omega, l1, fun k h1 h2 => by omega⟩ ?_
    rintro σ H1 ⟨s1, m, rfl, m1, m2, hm⟩ R hT hF
    refine ⟨_, rfl, _, rfl, _, rfl, B, _, rfl, .inl (.inl (s1 _ _ hB)), fun p2 np2 => ?_⟩
    obtain ⟨s2, e2⟩ := new_at (.lst (cutV (bs.map V.int) (some (m : Int)) none)) np2
    generalize upd H1 p2 (.lst (cutV (bs.map V.int) (some (m : Int)) none)) = H2 at s2 e2 ⊢
    refine ⟨_, rfl, _, rfl, _, rfl, B, _, rfl, .inl (.inl (s2 _ _ (s1 _ _ hB))), fun p3 np3 => ?_⟩
    obtain ⟨s3, e3⟩ := new_at (.lst (cutV (bs.map V.int) none (some (m : Int)))) np3
    generalize upd H2 p3 (.lst (cutV (bs.map V.int) none (some (m : Int)))) = H3 at s3 e3 ⊢
    rw [cut_from, ← List.map_drop] at e2
    rw [cut_to, ← List.map_take] at e3
    refine ⟨p2, p3, _, _, rfl, rfl, s3 _ _ e2, e3, ?_, fun p4 np4 => ?_⟩
    · rw [List.length_map, List.length_map, List.length_drop, List.length_take]
      exact Nat.le_of_lt (small1000 (by omega))
    obtain ⟨s4, e4⟩ := new_at (.lst ((bs.drop m).map V.int ++ (bs.take m).map V.int)) np4
    generalize upd H3 p4 (.lst ((bs.drop m).map V.int ++ (bs.take m).map V.int)) = H4 at s4 e4 ⊢
    rw [← List.map_append] at e4
    have s14 := (s2.trans s3).trans s4
    refine ⟨_, rfl, ne_ints (.inl (.inl e4)) (.inl (.inl (s14 _ _ (s1 _ _ hB)))) ⟨_, rfl, ?_⟩⟩
    by_cases c : bs.drop m ++ bs.take m = bs
    · rw [decide_eq_true c]
      exact hF _ ⟨_, rfl, q m _ (s1.trans s14) m1 m2 c hm⟩
    · rw [decide_eq_false c]
      have lt : m < bs.length := by
        rcases Nat.lt_or_ge m bs.length with z | z
        · exact z
        · exfalso
          refine c ?_
          rw [List.drop_of_length_le z, List.take_of_length_le z, List.nil_append]
      refine hT _ ⟨_, rfl, _, _, rfl, rfl, ⟨s1.trans s14, m + 1, rfl, by omega, by omega, fun k h1 h2 => ?_⟩, ?_⟩
      · rcases Nat.lt_or_ge k m with z | z
        · exact hm k h1 z
        · rw [show k = m by omega]
          exact c
      · show bs.length - ((m : Int) + 1).toNat < bs.length - ((m : Int)).toNat
        omega
def sp_least_ahead (K : PySem.W.Frag) : Sp := fun vs H Q _ => ∃ (L : Addr) (xs : List V) (D : Nat → PyData) (a m : Nat), vs = [.ref L, .int a, .int m] ∧ SqL K H L xs ∧ a + m ≤ xs.length ∧ xs.length ≤ 1000 ∧ (∀ i v, xs[i]? = some v → Dp K H v (D i) ∧ Sd 2 (D i)) ∧
  ∀ b : Nat, b ≤ a → (∀ t, b ≤ t → t < a → D (t + m) = D t) → (∀ c, c + 1 = b → D (c + m) ≠ D c) → Q (.int b) H
theorem ok_least_ahead {f : Addr} {fd : FuncData} (F : Fun K "least_ahead" "least_ahead" s_least_ahead f fd) (T : Txt K mg) : FnOk P w K mg base CX0 1 f fd ["shown", "ahead", "many"] (sp_least_ahead K) := by
  refine F.ok sc_least_ahead (fun vs H Q E h => ?_) (fun cdv A outer s H vs Q E hr h => ?_)
  · obtain ⟨L, xs, D, a, m, rfl, _⟩ := h
    rfl
  · obtain ⟨L, xs, D, a, m, rfl, hL, hl, hz, hD, q⟩ := h
    refine ⟨_, (pss_cons (ps_while PassesOwn.never (PW.pt (pw_and (pt_truth (pv 1) (by intro _; rfl)) (pw_and1 (pt_cmpR (op_eqD hr.units) (pe_ix ix_list (pv 0) (pe_op op_sub (pv 1) pe_int) (fun _ _ => rfl)) (pe_ix ix_list (pv 0) (pe_op op_add (pe_op op_sub (pv 1) pe_int) (pv 2)) (fun _ _ => rfl)) (nomark _))))) (pss_one (ps_aug (i := 1) sc_least_ahead.nd rfl (Or.inl rfl) pe_int ip_sub)))
      (pss_one (ps_ret (pv 1)))), ?_⟩
    refine while_R (fun σ H' => H = H' ∧ ∃ b : Nat, σ = [some (.ref L), some (.int b), some (.int m)] ∧ b ≤ a ∧ ∀ t, b ≤ t → t < a → D (t + m) = D t)
      (fun σ _ => match σ with | [_, some (.int b), _] => b.toNat | _ => 0) ⟨rfl, a, rfl, Nat.le_refl _, fun t h1 h2 => by omega⟩ ?_
    rintro σ H1 ⟨rfl, b, rfl, hb, hp⟩ R hT hF
    refine ⟨_, rfl, _, rfl, ?_⟩
    rcases Nat.eq_zero_or_pos b with z | z
    · subst z
      exact hF _ ⟨_, rfl, q 0 (Nat.zero_le _) hp fun c hc => nomatch hc⟩
    · obtain ⟨c, rfl⟩ : ∃ c, b = c + 1 := ⟨b - 1, by omega⟩
      rw [show (((c + 1 : Nat) : Int) != 0) = true by simp; omega]
      refine iteT ?_
      obtain ⟨v1, hv1⟩ : ∃ v, xs[c]? = some v := ⟨_, List.getElem?_eq_getElem (by omega)⟩
      obtain ⟨v2, hv2⟩ : ∃ v, xs[c + m]? = some v := ⟨_, List.getElem?_eq_getElem (by omega)⟩
      refine ⟨_, rfl, _, rfl, _, _, rfl, rfl, L, xs, _, v1, rfl, rfl, hL, at_of (j := c) (by omega) hv1, ?_⟩
      refine ⟨_, rfl, _, rfl, _, _, rfl, rfl, _, rfl, _, _, rfl, rfl, L, xs, _, v2, rfl, rfl, hL, at_of (j := c + m) (by omega) hv2, ?_⟩
      refine eq_data (hD _ _ hv1).1 (hD _ _ hv2).1 (hD _ _ hv1).2 (hD _ _ hv2).2 (by decide) fun e he => ⟨_, rfl, ?_⟩
      cases e with
      | true =>
        have he' := he.mp rfl
        refine hT _ ⟨_, rfl, _, _, rfl, rfl, ⟨rfl, c, ?_, by omega, fun t h1 h2 => ?_⟩, ?_⟩
        · show [some (V.ref L), some (.int (((c + 1 : Nat) : Int) - 1)), some (.int m)] = _
          rw [show ((c + 1 : Nat) : Int) - 1 = (c : Int) by omega]
        · rcases Nat.lt_or_ge c t with z | z
          · exact hp t (by omega) h2
          · rw [show t = c by omega]
            exact he'.symm
        · show (((c + 1 : Nat) : Int) - 1).toNat < ((c + 1 : Nat) : Int).toNat
          omega
      | false =>
        refine hF _ ⟨_, rfl, q (c + 1) hb hp fun d hd => ?_⟩
        rw [show d = c by omega]
        exact fun z => Bool.noConfusion (he.mpr z.symm)
def sp_round_of (K : PySem.W.Frag) : Sp := fun vs H Q _ => ∃ (v : V) (rs : List RW) (bk : Option Int), vs = [v] ∧ LayAt K H v rs bk ∧ VRows rs ∧ VBack rs bk ∧
  ∀ (H' : Hp) (p : Addr) (a m : Nat), Same H H' → SqT K H' p [.int a, .int m] → Lst (shN rs bk) a m → a ≤ 192 → m ≤ 192 → Q (.ref p) H'
theorem ok_round_of {f : Addr} {fd : FuncData} (F : Fun K "round_of" "round_of" s_round_of f fd) (T : Txt K mg) (D_ahead_and_around : Cl P w K mg base 2 "ahead_and_around" ["layer"] (sp_ahead_and_around K)) (D_least_many : Cl P w K mg base 1 "least_many" ["around"] (sp_least_many K)) (D_least_ahead : Cl P w K mg base 1 "least_ahead" ["shown", "ahead", "many"] (sp_least_ahead K)) : FnOk P w K mg base CX0 3 f fd ["layer"] (sp_round_of K) := by
  refine F.ok sc_round_of (fun vs H Q E h => ?_) (fun cdv A outer s H vs Q E hr h => ?_)
  · obtain ⟨v, rs, bk, rfl, _⟩ := h
    rfl
  · obtain ⟨v, rs, bk, rfl, hL, vR, vb, q⟩ := h
    have la := ahL_len (bk := bk) vR
    obtain ⟨lr1, lr2⟩ := arL_len vR vb
    have hper := shN_per vR vb
    have hseg := arL_seg vR vb
    refine ⟨_, (pss_cons (ps_asg (pe_own D_ahead_and_around (hr.mono (by omega)) (by rfl) (pa_cons (pv 0) pa_nil)) (pg_tup (by rfl) (pgs_cons (pg_name (i := 1) sc_round_of.nd rfl (Or.inl rfl)) (pgs_cons (pg_name (i := 2) sc_round_of.nd rfl (Or.inl rfl)) pgs_nil))))
      (pss_cons (ps_set (i := 3) sc_round_of.nd rfl (Or.inl rfl) (pe_own D_least_many (hr.mono (by omega)) (by rfl) (pa_cons (pv 2) pa_nil)))
      (pss_one (ps_ret (pe_tup (pa_cons (pe_own D_least_ahead (hr.mono (by omega)) (by rfl) (pa_cons (pe_op op_cat (pv 1) (pv 2)) (pa_cons (pe_callB call_len_seq (by rfl) T.b_len (by decide +kernel) (pa_cons (pv 1) pa_nil)) (pa_cons (pv 3) pa_nil)))) (pa_cons (pv 3) pa_nil))))))), ?_⟩
    refine ⟨_, rfl, v, rs, bk, rfl, hL, vR, vb, fun H1 T A B s1 hT nA nB eA eB => ?_⟩
    refine ⟨T, _, rfl, hT, rfl, _, _, rfl, _, _, rfl, rfl, ?_⟩
    refine ⟨_, rfl, B, arL rs bk, rfl, eB, lr1, by omega, fun m H2 s2 m1 m2 hm hk => ?_⟩
    rw [hseg] at hm hk
    have pm := (rot_iff lr1 hper m2).mp hm
    refine ⟨_, rfl, _, rfl, A, B, _, _, rfl, rfl, s2 _ _ eA, s2 _ _ eB, ?_, fun p3 np3 => ?_⟩
    · rw [List.length_map, List.length_map]
      exact Nat.le_of_lt (small1000 (by omega))
    obtain ⟨s3, e3⟩ := new_at (.lst ((ahL rs bk).map V.int ++ (arL rs bk).map V.int)) np3
    generalize upd H2 p3 (.lst ((ahL rs bk).map V.int ++ (arL rs bk).map V.int)) = H3 at s3 e3 ⊢
    refine ⟨_, rfl, A, _, rfl, .inl (.inl (.inl (s3 _ _ (s2 _ _ eA)))), _, rfl, p3, _, fun i => .int (shN rs bk i), (ahL rs bk).length, m, ?_, .inl (.inl e3), ?_, ?_, fun i v hv => ?_, fun b hb hbp hbf => ?_⟩
    · rw [List.length_map]
      rfl
    · rw [List.length_append, List.length_map, List.length_map]
      omega
    · rw [List.length_append, List.length_map, List.length_map]
      omega
    · rw [← List.map_append, List.getElem?_map] at hv
      by_cases hi : i < (ahL rs bk).length + (arL rs bk).length
      · rw [aa_at vR vb hi] at hv
        have : V.int (shN rs bk i) = v := Option.some.inj hv
        rw [← this]
        exact ⟨.int _, Sd.int _⟩
      · rw [List.getElem?_eq_none (by rw [List.length_append]; omega)] at hv
        cases hv
    · refine ⟨_, rfl, (by show 2 ≤ sizeLine; decide), fun p4 np4 => ?_⟩
      refine q _ p4 b m (((s1.trans s2).trans s3).trans (same_upd np4)) (.inl (.inl upd_same)) ?_ (by omega) (by omega)
      exact lst_of lr1 hper m1 pm (fun k h1 h2 _ hp => hk k h1 h2 ((rot_iff lr1 hper (by omega)).mpr hp)) hb (fun t h1 h2 => PyData.int.inj (hbp t h1 h2)) (fun c hc z => hbf c hc (congrArg PyData.int z))
end

section
variable {P : Program} {w : World} {K : PySem.W.Frag} {mg : Str → Option Value} {base : Heap}
end

section
variable {P : Program} {w : World} {K : PySem.W.Frag} {mg : Str → Option Value} {base : Heap}
def sp_first_places (K : PySem.W.Frag) : Sp := fun vs H Q _ => ∃ (v : V) (x y : Int) (ms : List MV) (n : Nat), vs = [v, .int n] ∧ WinAt K H v x y ms ∧ VWin x y ms ∧ n ≤ 900 ∧
  ∀ H' p vs, Same H H' → H p = none → H' p = some (.lst vs) → Paired (PlAt K H') vs ((List.range n).map fun i : Nat => plN x y ms i) → Q (.ref p) H'
theorem ok_first_places {f : Addr} {fd : FuncData} (F : Fun K "first_places" "first_places" s_first_places f fd) (T : Txt K mg) (D_place_of : Cl P w K mg base 4 "place_of" ["window", "moment"] (sp_place_of K)) : FnOk P w K mg base CX0 5 f fd ["window", "many"] (sp_first_places K) := by
  refine F.ok sc_first_places (fun vs H Q E h => ?_) (fun cdv A outer s H vs Q E hr h => ?_)
  · obtain ⟨v, x, y, ms, n, rfl, _⟩ := h
    rfl
  · obtain ⟨v, x, y, ms, n, rfl, hw, vw, hn, q⟩ := h
    refine ⟨_, (pss_one (ps_ret (pe_lc (own := [("moment", 2)]) (g := (gName 2)) (tt := tYes) (by rfl) sc_first_places.nd (pi_range1 (by rfl) T.b_range (pa_cons (pv 1) pa_nil)) (blkOk_by (own := [("moment", 2)]) (N := ["window", "many", "moment"]) (sc := defScope s_first_places) (by decide +kernel)) (fun _ _ _ _ _ => (pg_name (i := 2) sc_first_places.nd rfl (Or.inl rfl))) (fun _ _ _ _ _ => pts_nil) (fun _ _ _ _ _ => (pe_own D_place_of (hr.mono (by omega)) (by rfl) (pa_cons (pv 0) (pa_cons (pv 2) pa_nil))))))), ?_⟩
    refine ⟨_, rfl, _, rfl, by omega, by omega, fun D hD => ?_⟩
    refine lc_range (lo := 0) (n := ((n : Int)).toNat) (fun i H' => Same H H' ∧ ∃ vs : List V, H' D = some (.lst vs) ∧ Paired (PlAt K H') vs ((List.range i).map fun i : Nat => plN x y ms i)) ⟨same_upd hD, [], upd_same, .nil⟩ (fun i H2 hi p2 => ?_) (fun H2 p2 => ?_)
    · obtain ⟨s2, vs, e2, pd⟩ := p2
      have hlv := Paired.length pd
      rw [List.length_map, List.length_range] at hlv
      refine ⟨rfl, yes_ok ⟨_, rfl, _, rfl, v, x, y, ms, _, rfl, hw.keep (Same.tk s2), vw, by omega, fun H3 v3 s3 r3 => ?_⟩⟩
      have e3 := s3 _ _ e2
      refine ⟨vs, e3, small1000 (by omega), fun b o e => ?_, vs ++ [v3], upd_same, ?_⟩
      · rw [upd_ne (ne_of_none e hD)]
        exact s3 _ _ (s2 _ _ e)
      · rw [List.range_succ, List.map_append]
        refine Paired.snocP (Paired.mono pd fun _ _ => PlAt.keep fun a xs h => tk_updL e3 _ _ (Same.sqT s3 h)) ?_
        have := r3.keep (K := K) (fun a xs h => tk_updL (ys := vs ++ [v3]) e3 _ _ h)
        rw [Int.zero_add] at this
        exact this
    · obtain ⟨s2, vs, e2, pd⟩ := p2
      rw [Int.toNat_natCast] at pd
      exact q _ D vs s2 hD e2 pd
def sp_round_of_window (K : PySem.W.Frag) : Sp := fun vs H Q _ => ∃ (v : V) (x y : Int) (ms : List MV), vs = [v] ∧ WinAt K H v x y ms ∧ VWin x y ms ∧
  ∀ (H' : Hp) (p : Addr) (b : Nat), Same H H' → SqT K H' p [.int b, .int 1] → WinR x y ms b → b ≤ 192 → Q (.ref p) H'
theorem ok_round_of_window {f : Addr} {fd : FuncData} (F : Fun K "round_of_window" "round_of_window" s_round_of_window f fd) (T : Txt K mg) (D_moved : Cl P w K mg base 1 "moved" ["window"] (sp_moved K)) (D_least_ahead : Cl P w K mg base 1 "least_ahead" ["shown", "ahead", "many"] (sp_least_ahead K)) (D_first_places : Cl P w K mg base 5 "first_places" ["window", "many"] (sp_first_places K)) : FnOk P w K mg base CX0 6 f fd ["window"] (sp_round_of_window K) := by
  refine F.ok sc_round_of_window (fun vs H Q E h => ?_) (fun cdv A outer s H vs Q E hr h => ?_)
  · obtain ⟨v, x, y, ms, rfl, _⟩ := h
    rfl
  · obtain ⟨v, x, y, ms, rfl, hw, vw, q⟩ := h
    obtain ⟨_, _, v8, vm⟩ := id vw
    have mt := mtot_nonneg vm
    obtain ⟨L, hL⟩ : ∃ L : Nat, (L : Int) = mtot ms := ⟨(mtot ms).toNat, by omega⟩
    refine ⟨_, (pss_cons (ps_set (i := 1) sc_round_of_window.nd rfl (Or.inl rfl) (pe_own D_moved (hr.mono (by omega)) (by rfl) (pa_cons (pv 0) pa_nil)))
      (pss_one (ps_ret (pe_tup (pa_cons (pe_own D_least_ahead (hr.mono (by omega)) (by rfl) (pa_cons (pe_own D_first_places (hr.mono (by omega)) (by rfl) (pa_cons (pv 0) (pa_cons (pe_op op_add (pv 1) pe_int) pa_nil))) (pa_cons (pv 1) (pa_cons pe_int pa_nil)))) (pa_cons pe_int pa_nil)))))), ?_⟩
    refine ⟨_, rfl, v, x, y, ms, rfl, hw, v8, fun H1 s1 => ?_⟩
    rw [← hL]
    refine ⟨_, rfl, _, rfl, _, _, rfl, rfl, v, x, y, ms, L + 1, rfl, hw.keep (Same.tk s1), vw, by omega, fun H2 p vs s2 np e2 pd => ?_⟩
    have hlv := Paired.length pd
    rw [List.length_map, List.length_range] at hlv
    refine ⟨_, rfl, p, vs, fun i => plD (plN x y ms i), L, 1, rfl, .inl (.inl e2), by omega, by omega, fun i v hv => ?_, fun b hb hbp hbf => ?_⟩
    · obtain ⟨c, hc, hpl⟩ := Paired.at pd hv
      have hi : i < vs.length := (List.getElem?_eq_some_iff.mp hv).1
      rw [List.getElem?_map, List.getElem?_range (by omega)] at hc
      have : plN x y ms i = c := Option.some.inj hc
      rw [← this] at hpl
      exact ⟨hpl.dp, sd_pl _⟩
    · refine ⟨(by show 2 ≤ sizeLine; decide), fun p4 np4 => ?_⟩
      refine q _ p4 b ((s1.trans s2).trans (same_upd np4)) (.inl (.inl upd_same)) ?_ (by omega)
      exact winR_of vm hL hb (fun t h1 h2 => plD_inj (hbp t h1 h2)) (fun c hc z => hbf c hc (congrArg plD z))
def sp_common_multiple (K : PySem.W.Frag) : Sp := fun vs H Q _ => ∃ a b : Nat, vs = [.int a, .int b] ∧ 1 ≤ a ∧ 1 ≤ b ∧ b ≤ 1000000 ∧ Q (.int ((Nat.lcm a b : Nat) : Int)) H
theorem ok_common_multiple {f : Addr} {fd : FuncData} (F : Fun K "common_multiple" "common_multiple" s_common_multiple f fd) (T : Txt K mg) (D_common_divisor : Cl P w K mg base 1 "common_divisor" ["one", "other"] (sp_common_divisor K)) : FnOk P w K mg base CX0 2 f fd ["one", "other"] (sp_common_multiple K) := by
  refine F.ok sc_common_multiple (fun vs H Q E h => ?_) (fun cdv A outer s H vs Q E hr h => ?_)
  · obtain ⟨a, b, rfl, _⟩ := h
    rfl
  · obtain ⟨a, b, rfl, a1, b1, b2, q⟩ := h
    have gp : 0 < Nat.gcd a b := Nat.gcd_pos_of_pos_left _ (by omega)
    have gl : Nat.gcd a b ≤ b := Nat.gcd_le_right _ (by omega)
    refine ⟨_, (pss_one (ps_ret (pe_op op_mul (pe_op op_fdivN (pv 0) (pe_own D_common_divisor (hr.mono (by omega)) (by rfl) (pa_cons (pv 0) (pa_cons (pv 1) pa_nil)))) (pv 1)))), ?_⟩
    refine ⟨_, rfl, _, rfl, _, rfl, a, b, rfl, _, _, rfl, rfl, ⟨?_, ?_⟩, _, rfl, _, _, rfl, rfl, .inr ⟨?_, ?_⟩, ?_⟩
    · omega
    · rw [Int.natAbs_natCast]
      omega
    · show -(2 ^ 64 : Int) < (b : Int)
      omega
    · show (b : Int) < (2 ^ 64 : Int)
      omega
    · have e : (Nat.lcm a b : Nat) = a / Nat.gcd a b * b := by
        unfold Nat.lcm
        rw [Nat.mul_comm a b, Nat.mul_div_assoc _ (Nat.gcd_dvd_left a b), Nat.mul_comm]
      rw [e] at q
      show Q (.int ((a : Int).fdiv ((Nat.gcd a b : Nat) : Int) * (b : Int))) H
      rw [Int.fdiv_eq_ediv_of_nonneg _ (by omega)]
      exact q
def sp_sheet_round (K : PySem.W.Frag) : Sp := fun vs H Q _ => ∃ (v : V) (ls : List LY) (x y : Int) (ms : List MV), vs = [v] ∧ ShAt K H v ls x y ms ∧ VLays ls ∧ VWin x y ms ∧
  ∀ (H' : Hp) (p : Addr) (a m : Nat), Same H H' → SqT K H' p [.int a, .int m] → ShR ls x y ms a m → a ≤ 192 → Q (.ref p) H'
theorem ok_sheet_round {f : Addr} {fd : FuncData} (F : Fun K "sheet_round" "sheet_round" s_sheet_round f fd) (T : Txt K mg) (D_need_sheet : Cl P w K mg base 7 "need_sheet" ["thing"] (sp_need_sheet K)) (D_round_of_window : Cl P w K mg base 6 "round_of_window" ["window"] (sp_round_of_window K)) (D_round_of : Cl P w K mg base 3 "round_of" ["layer"] (sp_round_of K)) (D_common_multiple : Cl P w K mg base 2 "common_multiple" ["one", "other"] (sp_common_multiple K)) : FnOk P w K mg base CX0 8 f fd ["sheet"] (sp_sheet_round K) := by
  refine F.ok sc_sheet_round (fun vs H Q E h => ?_) (fun cdv A outer s H vs Q E hr h => ?_)
  · obtain ⟨v, ls, x, y, ms, rfl, _⟩ := h
    rfl
  · obtain ⟨v, ls, x, y, ms, rfl, hsh, vL, vw, q⟩ := h
    refine ⟨_, (pss_cons (ps_expr (pe_own D_need_sheet (hr.mono (by omega)) (by rfl) (pa_cons (pv 0) pa_nil)))
      (pss_cons (ps_asg (pv 0) (pg_tup (by rfl) (pgs_cons (pg_name (i := 1) sc_sheet_round.nd rfl (Or.inl rfl)) (pgs_cons (pg_name (i := 2) sc_sheet_round.nd rfl (Or.inl rfl)) pgs_nil))))
      (pss_cons (ps_asg (pe_own D_round_of_window (hr.mono (by omega)) (by rfl) (pa_cons (pv 2) pa_nil)) (pg_tup (by rfl) (pgs_cons (pg_name (i := 3) sc_sheet_round.nd rfl (Or.inl rfl)) (pgs_cons (pg_name (i := 4) sc_sheet_round.nd rfl (Or.inl rfl)) pgs_nil))))
      (pss_cons (ps_for PassesOwn.never rfl (pi_tup (pv 1)) (pg_name (i := 5) sc_sheet_round.nd rfl (Or.inl rfl))
        (pss_cons (ps_asg (pe_own D_round_of (hr.mono (by omega)) (by rfl) (pa_cons (pv 5) pa_nil)) (pg_tup (by rfl) (pgs_cons (pg_name (i := 6) sc_sheet_round.nd rfl (Or.inl rfl)) (pgs_cons (pg_name (i := 7) sc_sheet_round.nd rfl (Or.inl rfl)) pgs_nil))))
      (pss_cons (ps_set (i := 3) sc_sheet_round.nd rfl (Or.inl rfl) (pe_callB (call_max2 rfl) (by rfl) T.b_max (by decide +kernel) (pa_cons (pv 3) (pa_cons (pv 6) pa_nil))))
      (pss_one (ps_set (i := 4) sc_sheet_round.nd rfl (Or.inl rfl) (pe_own D_common_multiple (hr.mono (by omega)) (by rfl) (pa_cons (pv 4) (pa_cons (pv 7) pa_nil))))))))
      (pss_one (ps_ret (pe_tup (pa_cons (pv 3) (pa_cons (pv 4) pa_nil))))))))), ?_⟩
    refine ⟨_, rfl, v, ls, x, y, ms, rfl, hsh, vL, vw, fun H1 s1 => ?_⟩
    obtain ⟨p, lv, wv, rfl, hp, ⟨pl, vs, rfl, hq, pd⟩, hw⟩ := hsh.keep (Same.tk s1)
    obtain ⟨v1, v4, vl⟩ := vL
    have hl : vs.length = ls.length := Paired.length pd
    refine ⟨_, rfl, p, _, rfl, hp, rfl, _, _, rfl, _, _, rfl, rfl, ?_⟩
    refine ⟨_, rfl, wv, x, y, ms, rfl, hw, vw, fun H2 T b s2 hT hWR hb => ?_⟩
    refine ⟨T, _, rfl, hT, rfl, _, _, rfl, _, _, rfl, rfl, ?_⟩
    refine ⟨_, rfl, pl, rfl, ⟨_, Same.sqT s2 hq⟩, for_tup (K := K) (a := pl) (xs := vs) (fun i σ H' => Same H2 H' ∧ ∃ (a m : Nat) (rd : List (Nat × Nat)) (y5 y6 y7 : Option V), σ = [some (.ref p), some (.ref pl), some wv, some (.int a), some (.int m), y5, y6, y7] ∧
        Paired RdOf rd (ls.take i) ∧ (∀ r ∈ rd, r.1 ≤ a) ∧ b ≤ a ∧ (a = b ∨ ∃ r ∈ rd, r.1 = a) ∧ 1 ≤ m ∧ (∀ r ∈ rd, r.2 ∣ m) ∧ (∀ n, (∀ r ∈ rd, r.2 ∣ n) → m ∣ n) ∧ a ≤ 192)
      ⟨Same.refl _, b, 1, [], _, _, _, rfl, .nil, fun r hr => (by cases hr), Nat.le_refl _, .inl rfl, Nat.le_refl _, fun r hr => (by cases hr), fun n _ => Nat.one_dvd n, hb⟩ (fun i σ H' _ z => Same.sqT z.1 (Same.sqT s2 hq)) ?_ ?_⟩
    · rintro i u σ H3 hu ⟨s3, a, m, rd, y5, y6, y7, rfl, prd, ha, hba, hm, m1, hd, hl', ha2⟩
      obtain ⟨l, hl1, hly⟩ := Paired.at pd hu
      have vl1 := vl l (List.mem_of_getElem? hl1)
      refine ⟨_, rfl, u, l.1, l.2, rfl, LayAt.keep (Same.tk (s2.trans s3)) hly, vl1.1, vl1.2, fun H4 T4 a' m' s4 hT4 hlst ha' hm' => ?_⟩
      refine ⟨T4, _, rfl, hT4, rfl, _, _, rfl, _, _, rfl, rfl, ?_⟩
      have m'1 := hlst.m1
      refine ⟨_, rfl, _, rfl, _, _, rfl, ?_⟩
      refine ⟨_, rfl, _, rfl, m, m', rfl, m1, m'1, by omega, ?_⟩
      refine ⟨s3.trans s4, max a a', Nat.lcm m m', rd ++ [(a', m')], some u, some (.int a'), some (.int m'), ?_, ?_, ?_, by omega, ?_, Nat.lcm_pos (by omega) (by omega), ?_, ?_, by omega⟩
      · show [some (V.ref p), some (.ref pl), some wv, some (.int (if (a' : Int) > (a : Int) then (a' : Int) else (a : Int))), some (.int ((Nat.lcm m m' : Nat) : Int)), some u, some (.int a'), some (.int m')] = _
        rw [show (if (a' : Int) > (a : Int) then (a' : Int) else (a : Int)) = ((max a a' : Nat) : Int) by split <;> omega]
      · rw [List.take_add_one, hl1]
        exact Paired.snocP prd ⟨hlst, ha', hm'⟩
      · intro r hr
        rcases List.mem_append.mp hr with z | z
        · have := ha r z
          omega
        · rw [List.mem_singleton.mp z]
          show a' ≤ max a a'
          omega
      · rcases Nat.lt_or_ge a a' with z | z
        · exact .inr ⟨(a', m'), List.mem_append_right _ (List.mem_singleton.mpr rfl), by show a' = max a a'; omega⟩
        · rcases hm with e | ⟨r, hr, e⟩
          · exact .inl (by omega)
          · exact .inr ⟨r, List.mem_append_left _ hr, by omega⟩
      · intro r hr
        rcases List.mem_append.mp hr with z | z
        · exact Nat.dvd_trans (hd r z) (Nat.dvd_lcm_left m m')
        · rw [List.mem_singleton.mp z]
          exact Nat.dvd_lcm_right m m'
      · intro n hn
        exact Nat.lcm_dvd (hl' n fun r hr => hn r (List.mem_append_left _ hr)) (hn (a', m') (List.mem_append_right _ (List.mem_singleton.mpr rfl)))
    · rintro σ H3 ⟨s3, a, m, rd, y5, y6, y7, rfl, prd, ha, hba, hm, m1, hd, hl', ha2⟩
      rw [List.take_of_length_le (by omega)] at prd
      refine ⟨_, rfl, _, rfl, (by show 2 ≤ sizeLine; decide), fun p4 np4 => ?_⟩
      exact q _ p4 a m (((s1.trans s2).trans s3).trans (same_upd np4)) (.inl (.inl upd_same)) (shR_mk prd hWR ha hba hm m1 hd hl') ha2
end

section
variable {P : Program} {w : World} {K : PySem.W.Frag} {mg : Str → Option Value} {base : Heap}
def sp_first_unlike (K : PySem.W.Frag) : Sp := fun vs H Q _ => ∃ (a b : Addr) (us ws : List V) (ds es : List PyData), vs = [.ref a, .ref b] ∧ SqL K H a us ∧ SqL K H b ws ∧ DpAll K H us ds ∧ DpAll K H ws es ∧ ds.length = es.length ∧ (∀ d ∈ ds, Sd 3 d) ∧ (∀ d ∈ es, Sd 3 d) ∧
  ∀ H' r, Same H H' → Fu ds es r → Q (natV r) H'
theorem ok_first_unlike {f : Addr} {fd : FuncData} (F : Fun K "first_unlike" "first_unlike" s_first_unlike f fd) (T : Txt K mg) : FnOk P w K mg base CX0 1 f fd ["one", "other"] (sp_first_unlike K) := by
  refine F.ok sc_first_unlike (fun vs H Q E h => ?_) (fun cdv A outer s H vs Q E hr h => ?_)
  · obtain ⟨a, b, us, ws, ds, es, rfl, _⟩ := h
    rfl
  · obtain ⟨a, b, us, ws, ds, es, rfl, ha, hb, du, dw, le, sd, se, q⟩ := h
    have l1 := DpAll.len du
    have l2 := DpAll.len dw
    refine ⟨_, (pss_cons (ps_forEZ PassesOwn.never rfl (by rfl) T.b_enumerate (by rfl) T.b_zip (pa_cons (pv 0) (pa_cons (pv 1) pa_nil)) (pg_tup (by rfl) (pgs_cons (pg_name (i := 2) sc_first_unlike.nd rfl (Or.inl rfl)) (pgs_cons (pg_tup (by rfl) (pgs_cons (pg_name (i := 3) sc_first_unlike.nd rfl (Or.inl rfl)) (pgs_cons (pg_name (i := 4) sc_first_unlike.nd rfl (Or.inl rfl)) pgs_nil))) pgs_nil)))
        (pss_one (ps_if (pt_cmpR (op_neD hr.units) (pv 3) (pv 4) (nomark _)) (pss_one (ps_ret (pv 2))) pss_nil)))
      (pss_one (ps_ret pe_non))), ?_⟩
    refine ⟨_, rfl, _, rfl, a, b, us, ws, rfl, by omega, (fun i σ H' => Same H H' ∧ (∀ j, j < i → ds[j]? = es[j]?) ∧ ∃ y2 y3 y4, σ = [some (.ref a), some (.ref b), y2, y3, y4]), ⟨Same.refl _, fun j hj => absurd hj (Nat.not_lt_zero _), none, none, none, rfl⟩, fun i σ' H' z => ⟨z.1.seq ha, z.1.seq hb⟩, fun σ' H' z => ?_, ?_⟩
    · obtain ⟨s', all, y2, y3, y4, rfl⟩ := z
      refine q H' none s' (List.ext_getElem? fun j => ?_)
      rcases Nat.lt_or_ge j us.length with lt | ge
      · exact all j lt
      · rw [List.getElem?_eq_none (by omega), List.getElem?_eq_none (by omega)]
    · rintro i u v σ' H' U T hu hv ⟨s', all, y2, y3, y4, rfl⟩ nU nT UT
      obtain ⟨d, hd, dd⟩ := DpAll.at du hu
      obtain ⟨e, he, de⟩ := DpAll.at dw hv
      have s1 := same_upd (o := .tup [u, v]) nU
      have nT1 : upd H' U (.tup [u, v]) T = none := by rw [upd_ne (Ne.symm UT)]; exact nT
      have s2 := same_upd (o := .tup [.int (i : Nat), .ref U]) nT1
      have eU : upd (upd H' U (.tup [u, v])) T (.tup [.int (i : Nat), .ref U]) U = some (.tup [u, v]) := s2 _ _ upd_same
      have sA := s'.trans (s1.trans s2)
      refine ⟨T, _, rfl, .inl (.inl upd_same), rfl, _, _, rfl, _, _, rfl, U, _, rfl, .inl (.inl eU), rfl, _, _, rfl, _, _, rfl, rfl, rfl, ?_⟩
      refine ⟨_, rfl, _, rfl, ne_data (Dp.sm sA dd) (Dp.sm sA de) (sd d (List.mem_of_getElem? hd)) (se e (List.mem_of_getElem? he)) (by decide) fun bb hbb => ⟨_, rfl, ?_⟩⟩
      cases bb with
      | true =>
        refine iteF ⟨⟨sA, fun j hj => ?_, _, _, _, rfl⟩, eU, fun b' xs' r => s2 _ _ (s1 _ _ r)⟩
        rcases Nat.lt_or_ge j i with z | z
        · exact all j z
        · rw [show j = i by omega, hd, he, hbb.mp rfl]
      | false =>
        refine iteT ⟨_, rfl, q _ (some i) sA ⟨⟨d, e, hd, he, fun z => ?_⟩, all⟩⟩
        have := hbb.mpr z
        cases this
def sp_layers_parting (K : PySem.W.Frag) : Sp := fun vs H Q _ => ∃ (v1 v2 : V) (l1 l2 : LY), vs = [v1, v2] ∧ LyAt K H v1 l1 ∧ LyAt K H v2 l2 ∧ VLy l1 ∧ VLy l2 ∧ ∀ H' r, Same H H' → Prt (shN l1.1 l1.2) (shN l2.1 l2.2) r → Q (natV r) H'
theorem ok_layers_parting {f : Addr} {fd : FuncData} (F : Fun K "layers_parting" "layers_parting" s_layers_parting f fd) (T : Txt K mg) (D_round_of : Cl P w K mg base 3 "round_of" ["layer"] (sp_round_of K)) (D_first_unlike : Cl P w K mg base 1 "first_unlike" ["one", "other"] (sp_first_unlike K)) (D_first_drawings : Cl P w K mg base 3 "first_drawings" ["layer", "many"] (sp_first_drawings K)) : FnOk P w K mg base CX0 4 f fd ["one", "other"] (sp_layers_parting K) := by
  refine F.ok sc_layers_parting (fun vs H Q E h => ?_) (fun cdv A outer s H vs Q E hr h => ?_)
  · obtain ⟨v1, v2, l1, l2, rfl, _⟩ := h
    rfl
  · obtain ⟨v1, v2, l1, l2, rfl, h1, h2, vl1, vl2, q⟩ := h
    refine ⟨_, (pss_cons (ps_asg (pe_own D_round_of (hr.mono (by omega)) (by rfl) (pa_cons (pv 0) pa_nil)) (pg_tup (by rfl) (pgs_cons (pg_name (i := 2) sc_layers_parting.nd rfl (Or.inl rfl)) (pgs_cons (pg_name (i := 3) sc_layers_parting.nd rfl (Or.inl rfl)) pgs_nil))))
      (pss_cons (ps_asg (pe_own D_round_of (hr.mono (by omega)) (by rfl) (pa_cons (pv 1) pa_nil)) (pg_tup (by rfl) (pgs_cons (pg_name (i := 4) sc_layers_parting.nd rfl (Or.inl rfl)) (pgs_cons (pg_name (i := 5) sc_layers_parting.nd rfl (Or.inl rfl)) pgs_nil))))
      (pss_cons (ps_set (i := 6) sc_layers_parting.nd rfl (Or.inl rfl) (pe_op op_add (pe_op op_add (pe_callB (call_max2 rfl) (by rfl) T.b_max (by decide +kernel) (pa_cons (pv 2) (pa_cons (pv 4) pa_nil))) (pv 3)) (pv 5)))
      (pss_one (ps_ret (pe_own D_first_unlike (hr.mono (by omega)) (by rfl) (pa_cons (pe_own D_first_drawings (hr.mono (by omega)) (by rfl) (pa_cons (pv 0) (pa_cons (pv 6) pa_nil))) (pa_cons (pe_own D_first_drawings (hr.mono (by omega)) (by rfl) (pa_cons (pv 1) (pa_cons (pv 6) pa_nil))) pa_nil)))))))), ?_⟩
    refine ⟨_, rfl, v1, l1.1, l1.2, rfl, h1, vl1.1, vl1.2, fun H1 p1 a m s1 hp1 hr1 a1 m1 => ?_⟩
    refine ⟨p1, _, rfl, hp1, rfl, _, _, rfl, _, _, rfl, rfl, ?_⟩
    refine ⟨_, rfl, v2, l2.1, l2.2, rfl, h2.keep (Same.tk s1), vl2.1, vl2.2, fun H2 p2 b n s2 hp2 hr2 b1 n1 => ?_⟩
    refine ⟨p2, _, rfl, hp2, rfl, _, _, rfl, _, _, rfl, rfl, ?_⟩
    obtain ⟨E, hE, E1⟩ : ∃ E : Nat, (if (b : Int) > (a : Int) then (b : Int) else (a : Int)) + (m : Int) + (n : Int) = (E : Int) ∧ max a b + m + n = E := by
      refine ⟨max a b + m + n, ?_, rfl⟩
      split <;> omega
    have hm1 := hr1.m1
    have hn1 := hr2.m1
    refine ⟨_, rfl, _, rfl, _, _, rfl, _, rfl, _, _, rfl, rfl, _, rfl, _, _, rfl, rfl, ?_⟩
    have s12 := s1.trans s2
    refine ⟨_, rfl, _, rfl, v1, l1.1, l1.2, (E : Int), ?_, h1.keep (Same.tk s12), vl1.1, vl1.2, by omega, by omega, fun H3 L s3 nL eL => ?_⟩
    · rw [← hE]
      rfl
    refine ⟨_, rfl, _, rfl, v2, l2.1, l2.2, (E : Int), ?_, h2.keep (Same.tk (s12.trans s3)), vl2.1, vl2.2, by omega, by omega, fun H4 M s4 nM eM => ?_⟩
    · rw [← hE]
      rfl
    rw [laysI_map] at eL eM
    refine ⟨L, M, _, _, _, _, rfl, .inl (.inl (s4 _ _ eL)), .inl (.inl eM), ints_dp _, ints_dp _, ?_, fun d hd => ?_, fun d hd => ?_, fun H5 r s5 fu => ?_⟩
    · unfold laysI
      rw [List.length_map, List.length_map, List.length_map, List.length_map]
    · obtain ⟨k, _, rfl⟩ := List.mem_map.mp hd
      exact Sd.int k
    · obtain ⟨k, _, rfl⟩ := List.mem_map.mp hd
      exact Sd.int k
    · refine q H5 r (((s12.trans s3).trans s4).trans s5) (prt_fu (F := PyData.int) (E := E) (fun x y z => PyData.int.inj z) ?_ (prt_ever hm1 hn1 hr1.per hr2.per (Nat.le_of_eq E1)))
      unfold laysI at fu
      rw [List.map_map, List.map_map] at fu
      exact fu
end

section
variable {P : Program} {w : World} {K : PySem.W.Frag} {mg : Str → Option Value} {base : Heap}
def sp_windows_parting (K : PySem.W.Frag) : Sp := fun vs H Q _ => ∃ (v1 v2 : V) (x1 y1 x2 y2 : Int) (ms1 ms2 : List MV), vs = [v1, v2] ∧ WinAt K H v1 x1 y1 ms1 ∧ WinAt K H v2 x2 y2 ms2 ∧ VWin x1 y1 ms1 ∧ VWin x2 y2 ms2 ∧ ∀ H' r, Same H H' → Prt (plN x1 y1 ms1) (plN x2 y2 ms2) r → Q (natV r) H'
theorem ok_windows_parting {f : Addr} {fd : FuncData} (F : Fun K "windows_parting" "windows_parting" s_windows_parting f fd) (T : Txt K mg) (D_moved : Cl P w K mg base 1 "moved" ["window"] (sp_moved K)) (D_first_unlike : Cl P w K mg base 1 "first_unlike" ["one", "other"] (sp_first_unlike K)) (D_first_places : Cl P w K mg base 5 "first_places" ["window", "many"] (sp_first_places K)) : FnOk P w K mg base CX0 6 f fd ["one", "other"] (sp_windows_parting K) := by
  refine F.ok sc_windows_parting (fun vs H Q E h => ?_) (fun cdv A outer s H vs Q E hr h => ?_)
  · obtain ⟨v1, v2, x1, y1, x2, y2, ms1, ms2, rfl, _⟩ := h
    rfl
  · obtain ⟨v1, v2, x1, y1, x2, y2, ms1, ms2, rfl, h1, h2, vw1, vw2, q⟩ := h
    have t1 := mtot_nonneg vw1.2.2.2
    have t2 := mtot_nonneg vw2.2.2.2
    have w81 := vw1.2.2.1
    have w82 := vw2.2.2.1
    refine ⟨_, (pss_cons (ps_set (i := 2) sc_windows_parting.nd rfl (Or.inl rfl) (pe_op op_add (pe_callB (call_max2 rfl) (by rfl) T.b_max (by decide +kernel) (pa_cons (pe_own D_moved (hr.mono (by omega)) (by rfl) (pa_cons (pv 0) pa_nil)) (pa_cons (pe_own D_moved (hr.mono (by omega)) (by rfl) (pa_cons (pv 1) pa_nil)) pa_nil))) pe_int))
      (pss_one (ps_ret (pe_own D_first_unlike (hr.mono (by omega)) (by rfl) (pa_cons (pe_own D_first_places (hr.mono (by omega)) (by rfl) (pa_cons (pv 0) (pa_cons (pv 2) pa_nil))) (pa_cons (pe_own D_first_places (hr.mono (by omega)) (by rfl) (pa_cons (pv 1) (pa_cons (pv 2) pa_nil))) pa_nil)))))), ?_⟩
    obtain ⟨E, hE, E1, E2, E3⟩ : ∃ E : Nat, (if mtot ms2 > mtot ms1 then mtot ms2 else mtot ms1) + 1 = (E : Int) ∧ mtot ms1 < (E : Int) ∧ mtot ms2 < (E : Int) ∧ E ≤ 193 := by
      refine ⟨((if mtot ms2 > mtot ms1 then mtot ms2 else mtot ms1) + 1).toNat, ?_, ?_, ?_, ?_⟩ <;> split <;> omega
    refine ⟨_, rfl, v1, x1, y1, ms1, rfl, h1, w81, fun H1 s1 => ⟨_, rfl, v2, x2, y2, ms2, rfl, h2.keep (Same.tk s1), w82, fun H2 s2 => ⟨_, _, rfl, _, _, rfl, rfl, ?_⟩⟩⟩
    have s12 := s1.trans s2
    refine ⟨_, rfl, _, rfl, v1, x1, y1, ms1, E, ?_, h1.keep (Same.tk s12), vw1, by omega, fun H3 L us s3 nL eL pL => ?_⟩
    · rw [← hE]
      rfl
    refine ⟨_, rfl, _, rfl, v2, x2, y2, ms2, E, ?_, h2.keep (Same.tk (s12.trans s3)), vw2, by omega, fun H4 M ws s4 nM eM pM => ?_⟩
    · rw [← hE]
      rfl
    refine ⟨L, M, us, ws, _, _, rfl, .inl (.inl (s4 _ _ eL)), .inl (.inl eM), dpAll_of (f := plD) (fun _ _ h => PlAt.dp h) (Paired.mono pL fun _ _ => PlAt.keep (Same.tk s4)), dpAll_of (f := plD) (fun _ _ h => PlAt.dp h) pM, ?_, fun d hd => ?_, fun d hd => ?_, fun H5 r s5 fu => ?_⟩
    · rw [List.length_map, List.length_map, List.length_map, List.length_map]
    · obtain ⟨k, _, rfl⟩ := List.mem_map.mp hd
      exact (sd_pl k).more (by decide)
    · obtain ⟨k, _, rfl⟩ := List.mem_map.mp hd
      exact (sd_pl k).more (by decide)
    · refine q H5 r (((s12.trans s3).trans s4).trans s5) (prt_fu (F := plD) (E := E) (fun a b z => plD_inj z) ?_ (fun all t => ?_))
      · rw [List.map_map, List.map_map] at fu
        exact fu
      · rcases Nat.lt_or_ge t E with z | z
        · exact all t z
        · have e1 : plN x1 y1 ms1 t = plN x1 y1 ms1 (E - 1) := plc_far ms1 x1 y1 _ _ vw1.2.2.2 (by omega) (by omega)
          have e2 : plN x2 y2 ms2 t = plN x2 y2 ms2 (E - 1) := plc_far ms2 x2 y2 _ _ vw2.2.2.2 (by omega) (by omega)
          rw [e1, e2]
          exact all (E - 1) (by omega)
def sp_need_as_many_layers (K : PySem.W.Frag) : Sp := fun vs H Q _ => ∃ (v1 v2 : V) (ls1 ls2 : List LY) (x1 y1 x2 y2 : Int) (ms1 ms2 : List MV), vs = [v1, v2] ∧ ShAt K H v1 ls1 x1 y1 ms1 ∧ ShAt K H v2 ls2 x2 y2 ms2 ∧ ls1.length = ls2.length ∧ Q .non H
theorem ok_need_as_many_layers {f : Addr} {fd : FuncData} (F : Fun K "need_as_many_layers" "need_as_many_layers" s_need_as_many_layers f fd) (T : Txt K mg) : FnOk P w K mg base CX0 1 f fd ["one", "other"] (sp_need_as_many_layers K) := by
  refine F.ok sc_need_as_many_layers (fun vs H Q E h => ?_) (fun cdv A outer s H vs Q E hr h => ?_)
  · obtain ⟨v1, v2, ls1, ls2, x1, y1, x2, y2, ms1, ms2, rfl, _⟩ := h
    rfl
  · obtain ⟨v1, v2, ls1, ls2, x1, y1, x2, y2, ms1, ms2, rfl, h1, h2, el, q⟩ := h
    obtain ⟨p1, lv1, wv1, rfl, hp1, ⟨pl1, us1, rfl, hq1, pd1⟩, hw1⟩ := h1
    obtain ⟨p2, lv2, wv2, rfl, hp2, ⟨pl2, us2, rfl, hq2, pd2⟩, hw2⟩ := h2
    have l1 := Paired.length pd1
    have l2 := Paired.length pd2
    refine ⟨_, (pss_one (ps_if (pt_cmpR op_ne (pe_callB call_len_seq (by rfl) T.b_len (by decide +kernel) (pa_cons (pe_ix ix_tup (pv 0) pe_int (fun _ _ => rfl)) pa_nil)) (pe_callB call_len_seq (by rfl) T.b_len (by decide +kernel) (pa_cons (pe_ix ix_tup (pv 1) pe_int (fun _ _ => rfl)) pa_nil)) (nomark _)) (pss_one ps_never) pss_nil)), ?_⟩
    refine ⟨_, rfl, p1, _, 0, _, rfl, rfl, hp1, rfl, pl1, us1, rfl, .inr hq1, _, rfl, p2, _, 0, _, rfl, rfl, hp2, rfl, pl2, us2, rfl, .inr hq2, rfl, _, rfl, ite2 (fun e => ?_) (fun _ => q)⟩
    have : us1.length = us2.length := by omega
    rw [this] at e
    simp at e
def sp_parting (K : PySem.W.Frag) : Sp := fun vs H Q _ => ∃ (v1 v2 : V) (ls1 ls2 : List LY) (x1 y1 x2 y2 : Int) (ms1 ms2 : List MV), vs = [v1, v2] ∧ ShAt K H v1 ls1 x1 y1 ms1 ∧ VLays ls1 ∧ VWin x1 y1 ms1 ∧ ShAt K H v2 ls2 x2 y2 ms2 ∧ VLays ls2 ∧ VWin x2 y2 ms2 ∧ ls1.length = ls2.length ∧
  ∀ H' r, Same H H' → Prt (pcN ls1 x1 y1 ms1) (pcN ls2 x2 y2 ms2) r → Q (natV r) H'
theorem ok_parting {f : Addr} {fd : FuncData} (F : Fun K "parting" "parting" s_parting f fd) (T : Txt K mg) (D_need_sheet : Cl P w K mg base 7 "need_sheet" ["thing"] (sp_need_sheet K)) (D_need_as_many_layers : Cl P w K mg base 1 "need_as_many_layers" ["one", "other"] (sp_need_as_many_layers K)) (D_layers_parting : Cl P w K mg base 4 "layers_parting" ["one", "other"] (sp_layers_parting K)) (D_windows_parting : Cl P w K mg base 6 "windows_parting" ["one", "other"] (sp_windows_parting K)) : FnOk P w K mg base CX0 8 f fd ["one", "other"] (sp_parting K) := by
  refine F.ok sc_parting (fun vs H Q E h => ?_) (fun cdv A outer s H vs Q E hr h => ?_)
  · obtain ⟨v1, v2, ls1, ls2, x1, y1, x2, y2, ms1, ms2, rfl, _⟩ := h
    rfl
  · obtain ⟨v1, v2, ls1, ls2, x1, y1, x2, y2, ms1, ms2, rfl, h1, vL1, vw1, h2, vL2, vw2, el, q⟩ := h
    refine ⟨_, (pss_cons (ps_expr (pe_own D_need_sheet (hr.mono (by omega)) (by rfl) (pa_cons (pv 0) pa_nil)))
      (pss_cons (ps_expr (pe_own D_need_sheet (hr.mono (by omega)) (by rfl) (pa_cons (pv 1) pa_nil)))
      (pss_cons (ps_expr (pe_own D_need_as_many_layers (hr.mono (by omega)) (by rfl) (pa_cons (pv 0) (pa_cons (pv 1) pa_nil))))
      (pss_cons (ps_asg (pv 0) (pg_tup (by rfl) (pgs_cons (pg_name (i := 2) sc_parting.nd rfl (Or.inl rfl)) (pgs_cons (pg_name (i := 3) sc_parting.nd rfl (Or.inl rfl)) pgs_nil))))
      (pss_cons (ps_asg (pv 1) (pg_tup (by rfl) (pgs_cons (pg_name (i := 4) sc_parting.nd rfl (Or.inl rfl)) (pgs_cons (pg_name (i := 5) sc_parting.nd rfl (Or.inl rfl)) pgs_nil))))
      (pss_cons (ps_setLc (i := 6) (own := [("first", 7), ("second", 8)]) (g := (gTup _ 2 (gCons (gName 7) (gCons (gName 8) gNil)))) (tt := tYes) (by rfl) sc_parting.nd rfl rfl (sw_true rfl rfl rfl (by decide +kernel)) (RZ.pi_zipA (by rfl) T.b_zip (pa_cons (pv 2) (pa_cons (pv 4) pa_nil))) (blkOk_by (own := [("first", 7), ("second", 8)]) (N := ["one", "other", "layers", "window", "other_layers", "other_window", "moments", "first", "second", "moment"]) (sc := defScope s_parting) (by decide +kernel)) (fun _ _ _ _ _ => (pg_tup (by rfl) (pgs_cons (pg_name (i := 7) sc_parting.nd rfl (Or.inl rfl)) (pgs_cons (pg_name (i := 8) sc_parting.nd rfl (Or.inl rfl)) pgs_nil)))) (fun _ _ _ _ _ => pts_nil) (fun _ _ _ _ _ => (pe_own D_layers_parting (hr.mono (by omega)) (by rfl) (pa_cons (pv 7) (pa_cons (pv 8) pa_nil)))))
      (pss_cons (ps_expr (pe_bm PySem.F.plainAttrs_list PySem.F.slot_list_append PySem.F.type_list_append mt_append (pv 6) (pa_cons (pe_own D_windows_parting (hr.mono (by omega)) (by rfl) (pa_cons (pv 3) (pa_cons (pv 5) pa_nil))) pa_nil)))
      (pss_one (ps_ret (pe_callBK (cr_minD rfl hr.units) (by rfl) T.b_min (by decide +kernel) (pa_cons (pe_lc (own := [("moment", 9)]) (g := (gName 9)) (by rfl) sc_parting.nd (pi_list (pv 6)) (blkOk_by (own := [("moment", 9)]) (N := ["one", "other", "layers", "window", "other_layers", "other_window", "moments", "first", "second", "moment"]) (sc := defScope s_parting) (by decide +kernel)) (fun _ _ _ _ _ => (pg_name (i := 9) sc_parting.nd rfl (Or.inl rfl))) (fun _ _ _ _ _ => (pts_one (pt_cmpR op_notN (pv 9) pe_non (nomark _)))) (fun _ _ _ _ _ => (pv 9))) pa_nil) (pk_cons pe_non pk_nil))))))))))), ?_⟩
    refine ⟨_, rfl, v1, ls1, x1, y1, ms1, rfl, h1, vL1, vw1, fun H1 s1 => ?_⟩
    refine ⟨_, rfl, v2, ls2, x2, y2, ms2, rfl, h2.keep (Same.tk s1), vL2, vw2, fun H2 s2 => ?_⟩
    have s12 := s1.trans s2
    refine ⟨_, rfl, _, rfl, v1, v2, ls1, ls2, x1, y1, x2, y2, ms1, ms2, rfl, h1.keep (Same.tk s12), h2.keep (Same.tk s12), el, ?_⟩
    obtain ⟨p1, lv1, wv1, rfl, hp1, ⟨pl1, us1, rfl, hq1, pd1⟩, hw1⟩ := h1.keep (Same.tk s12)
    obtain ⟨p2, lv2, wv2, rfl, hp2, ⟨pl2, us2, rfl, hq2, pd2⟩, hw2⟩ := h2.keep (Same.tk s12)
    have l1 := Paired.length pd1
    have l2 := Paired.length pd2
    have n4 := vL1.2.1
    refine ⟨_, rfl, p1, _, rfl, hp1, rfl, _, _, rfl, _, _, rfl, rfl, ?_⟩
    refine ⟨_, rfl, p2, _, rfl, hp2, rfl, _, _, rfl, _, _, rfl, rfl, ?_⟩
    refine ⟨_, rfl, _, rfl, pl1, pl2, us1, us2, rfl, .inr ⟨hq1, hq2, fun D hD => ?_⟩⟩
    refine lc_pairs (J := RZ.ItzT K pl1 pl2) (xs := us1) (ys := us2) (fun i H' => Same H2 H' ∧ ∃ rs : List (Option Nat), H' D = some (.lst (rs.map natV)) ∧ rs.length = i ∧ ∀ (j : Nat) (l1 l2 : LY) (r : Option Nat), ls1[j]? = some l1 → ls2[j]? = some l2 → rs[j]? = some r → Prt (shN l1.1 l1.2) (shN l2.1 l2.2) r)
      ⟨same_upd hD, [], upd_same, rfl, fun j l1 l2 r _ _ e => by cases e⟩ (fun i H' z hi => ⟨us1, us2, us1[i], us2[i]'(by omega), Same.sqT z.1 hq1, Same.sqT z.1 hq2, List.getElem?_eq_getElem hi, List.getElem?_eq_getElem (by omega)⟩)
      (fun H' z => ⟨us1, us2, Same.sqT z.1 hq1, Same.sqT z.1 hq2, .inl (Nat.le_refl _)⟩) (fun i H' v H'' z ⟨T, x, y, e1, e2, e3, f1, f2⟩ => ⟨T, x, y, e1, e2, e3, f1 _ (Same.sqT z.1 hq1), f2 _ (Same.sqT z.1 hq2)⟩) (fun i a b T H3 ha hb z nT => ?_) (fun H3 z => ?_)
    · obtain ⟨s3, rs, eD, lr, hpr⟩ := z
      obtain ⟨la, hla, hla'⟩ := Paired.at pd1 ha
      obtain ⟨lb, hlb, hlb'⟩ := Paired.at pd2 hb
      have hi : i < ls1.length := (List.getElem?_eq_some_iff.mp hla).1
      have sT := same_upd (o := .tup [a, b]) nT
      have s3T := s3.trans sT
      refine ⟨T, _, rfl, .inl (.inl upd_same), rfl, _, _, rfl, _, _, rfl, rfl, rfl, yes_ok ⟨_, rfl, _, rfl, a, b, la, lb, rfl, hla'.keep (Same.tk s3T), hlb'.keep (Same.tk s3T), vL1.2.2 la (List.mem_of_getElem? hla), vL2.2.2 lb (List.mem_of_getElem? hlb), fun H4 r s4 pr => ?_⟩⟩
      have eD4 := s4 _ _ (sT _ _ eD)
      refine ⟨rs.map natV, eD4, small1000 (by rw [List.length_map]; omega), fun b' o e => ?_, rs ++ [r], ?_, by rw [List.length_append, lr]; rfl, fun j k1 k2 r' e1 e2 e3 => ?_⟩
      · rw [upd_ne (ne_of_none e hD)]
        exact s4 _ _ (s3T _ _ e)
      · rw [upd_same, List.map_append]
        rfl
      · rcases Nat.lt_or_ge j rs.length with z | z
        · rw [List.getElem?_append_left z] at e3
          exact hpr j k1 k2 r' e1 e2 e3
        · rw [List.getElem?_append_right z] at e3
          have ej : j = i := by
            rcases Nat.lt_or_ge (j - rs.length) 1 with y | y
            · omega
            · rw [List.getElem?_eq_none (by simpa using y)] at e3
              cases e3
          subst ej
          rw [lr, Nat.sub_self] at e3
          rw [hla] at e1
          rw [hlb] at e2
          cases e1
          cases e2
          cases e3
          exact pr
    obtain ⟨s3, rs, eD, lr, hpr⟩ := z
    refine ⟨_, rfl, .inl ⟨rfl, _, .inl (.inl eD)⟩, ?_⟩
    refine ⟨_, rfl, _, rfl, wv1, wv2, x1, y1, x2, y2, ms1, ms2, rfl, hw1.keep (Same.tk s3), hw2.keep (Same.tk s3), vw1, vw2, fun H4 rw' s4 pw => ?_⟩
    have eD4 := s4 _ _ eD
    refine ⟨D, _, _, rfl, rfl, eD4, small1000 (by rw [List.length_map]; omega), ?_⟩
    have s5 : Same H2 (upd H4 D (.lst (rs.map natV ++ [natV rw']))) := fun b' o e => by
      rw [upd_ne (ne_of_none e hD)]
      exact s4 _ _ (s3 _ _ e)
    have e5 : upd H4 D (.lst (rs.map natV ++ [natV rw'])) D = some (.lst ((rs ++ [rw']).map natV)) := by
      rw [upd_same, List.map_append]
      rfl
    generalize upd H4 D (.lst (rs.map natV ++ [natV rw'])) = H5 at s5 e5 ⊢
    obtain ⟨m0, m1⟩ := prt_pic (x1 := x1) (y1 := y1) (x2 := x2) (y2 := y2) (ms1 := ms1) (ms2 := ms2) el (rs := rs) (rw' := rw') (by omega) hpr pw
    obtain ⟨qs, hqs, lqs⟩ : ∃ qs, rs ++ [rw'] = qs ∧ qs.length ≤ 5 := ⟨_, rfl, by rw [List.length_append]; show rs.length + 1 ≤ 5; omega⟩
    rw [hqs] at e5 m0 m1
    refine ⟨_, rfl, D, rfl, ⟨_, .inl (.inl e5)⟩, fun G hG => ?_⟩
    refine lc_list (K := K) (a := D) (xs := qs.map natV) (fun i H' => Same H5 H' ∧ H' G = some (.lst ((((qs.take i).filterMap id).map fun n : Nat => (n : Int)).map V.int))) ⟨same_upd hG, upd_same⟩ (fun i H' _ z => .inl (.inl (z.1 _ _ e5))) (fun i u H6 hu z => ?_) (fun H6 z => ?_)
    · obtain ⟨s6, e6⟩ := z
      rw [List.getElem?_map] at hu
      obtain ⟨r, hr1, rfl⟩ := Option.map_eq_some_iff.mp hu
      refine ⟨rfl, ?_⟩
      have lf : ((qs.take i).filterMap id).length ≤ 5 := Nat.le_trans (List.length_filterMap_le ..) (by rw [List.length_take]; omega)
      cases r with
      | none =>
        refine ⟨_, rfl, rfl, _, rfl, ite2 (fun e => nomatch (show false = true from e)) (fun _ => ⟨s6, ?_⟩)⟩
        rw [e6, List.take_add_one, hr1, List.filterMap_append]
        simp
      | some n =>
        refine ⟨_, rfl, rfl, _, rfl, ite2 (fun _ => ⟨_, rfl, _, e6, ?_, fun b' o e => ?_, ?_⟩) (fun e => absurd rfl e)⟩
        · rw [List.length_map, List.length_map]
          exact small1000 (by omega)
        · rw [upd_ne (ne_of_none e hG)]
          exact s6 _ _ e
        · rw [upd_same, List.take_add_one, hr1, List.filterMap_append, List.map_append, List.map_append]
          rfl
    obtain ⟨s6, e6⟩ := z
    rw [List.length_map, List.take_length] at e6
    have fin := (s12.trans s5).trans s6
    refine ⟨G, _, rfl, rfl, .inl (.inl e6), fun e0 => q _ none fin (m0 fun r hr => ?_), fun mm hmm gmm => ?_⟩
    · cases r with
      | none => rfl
      | some n =>
        have : n ∈ qs.filterMap id := List.mem_filterMap.mpr ⟨some n, hr, rfl⟩
        have h0 : qs.filterMap id = [] := List.map_eq_nil_iff.mp e0
        rw [h0] at this
        cases this
    · obtain ⟨n, hn, rfl⟩ := List.mem_map.mp hmm
      obtain ⟨o, ho, eo⟩ := List.mem_filterMap.mp hn
      have eo' : o = some n := eo
      subst eo'
      refine q _ (some n) fin (m1 n ho fun k hk => ?_)
      have := gmm (k : Int) (List.mem_map.mpr ⟨k, List.mem_filterMap.mpr ⟨some k, hk, rfl⟩, rfl⟩)
      omega
end

section
variable {P : Program} {w : World} {K : PySem.W.Frag} {mg : Str → Option Value} {base : Heap}
def sp__law_cell_at (K : PySem.W.Frag) : Sp := fun vs H Q _ => ∃ (a : Addr) (ns : List Int) (k : Int), vs = [.ref a, .int k] ∧ SqL K H a (ns.map V.int) ∧ 0 ≤ k ∧ ∀ c, Q (.int c) H
theorem ok__law_cell_at {f : Addr} {fd : FuncData} (F : Fun K "_law_cell_at" "_law_cell_at" s__law_cell_at f fd) (T : Txt K mg) : FnOk P w K mg base CX0 1 f fd ["_law_script", "_law_k"] (sp__law_cell_at K) := by
  refine F.ok sc__law_cell_at (fun vs H Q E h => ?_) (fun cdv A outer s H vs Q E hr h => ?_)
  · obtain ⟨a, ns, k, rfl, _⟩ := h
    rfl
  · obtain ⟨a, ns, k, rfl, hS, hk, q⟩ := h
    refine ⟨_, (pss_cons (ps_if (pt_cmpR op_lt (pv 1) (pe_callB call_len_seq (by rfl) T.b_len (by decide +kernel) (pa_cons (pv 0) pa_nil)) (nomark _)) (pss_one (ps_ret (pe_ix ix_list (pv 0) (pv 1) (fun _ _ => rfl)))) pss_nil)
      (pss_one (ps_ret pe_int))), ?_⟩
    refine ⟨_, rfl, _, rfl, a, _, rfl, .inl hS, k, _, rfl, rfl, _, rfl, ite2 (fun e => ?_) (fun _ => q 0)⟩
    have e1 : k < ((ns.map V.int).length : Int) := of_decide_eq_true e
    rw [List.length_map] at e1
    have hj : k.toNat < ns.length := by omega
    have g : (ns.map V.int)[k.toNat]? = some (.int ns[k.toNat]) := by
      rw [List.getElem?_map, List.getElem?_eq_getElem hj]
      rfl
    exact ⟨_, rfl, _, rfl, a, _, k, _, rfl, rfl, hS, at_of (j := k.toNat) (by omega) g, q _⟩
def sp__law_state (K : PySem.W.Frag) : Sp := fun vs H Q _ => ∃ (a : Addr) (ns : List Int) (k : Int), vs = [.ref a, .int k] ∧ SqL K H a (ns.map V.int) ∧ 0 ≤ k ∧ ∀ H' p, Same H H' → H p = none → IsSt H' p → Q (.ref p) H'
theorem ok__law_state {f : Addr} {fd : FuncData} (F : Fun K "_law_state" "_law_state" s__law_state f fd) (T : Txt K mg) (D__law_cell_at : Cl P w K mg base 1 "_law_cell_at" ["_law_script", "_law_k"] (sp__law_cell_at K)) : FnOk P w K mg base CX0 2 f fd ["_law_script", "_law_k"] (sp__law_state K) := by
  refine F.ok sc__law_state (fun vs H Q E h => ?_) (fun cdv A outer s H vs Q E hr h => ?_)
  · obtain ⟨a, ns, k, rfl, _⟩ := h
    rfl
  · obtain ⟨a, ns, k, rfl, hS, hk, q⟩ := h
    refine ⟨_, (pss_cons (ps_set (i := 2) sc__law_state.nd rfl (Or.inl rfl) (pe_own D__law_cell_at (hr.mono (by omega)) (by rfl) (pa_cons (pv 0) (pa_cons (pv 1) pa_nil))))
      (pss_one (ps_ret (pe_lst (pa_cons (pe_callB (call_max2 rfl) (by rfl) T.b_max (by decide +kernel) (pa_cons pe_int (pa_cons (pe_op op_sub (pv 2) (pe_op op_pow pe_int pe_int)) pa_nil))) (pa_cons (pe_op op_modN (pv 2) pe_int) pa_nil)))))), ?_⟩
    refine ⟨_, rfl, _, rfl, a, ns, k, rfl, hS, hk, fun c => ?_⟩
    refine ⟨_, rfl, 10, 18, rfl, rfl, ⟨by decide, by decide, by decide⟩, _, _, rfl, rfl, _, _, rfl, _, rfl, _, _, rfl, rfl, (by show (2147483647 : Int) ≠ 0; decide), (by show 2 ≤ sizeLine; decide), fun p np => ?_⟩
    refine q _ p (same_upd np) np ⟨_, _, upd_same, ?_, (fm (by decide)).1, (fm (by decide)).2⟩
    split <;> omega
def sp__law_take (K : PySem.W.Frag) : Sp := fun vs H Q _ => ∃ (st : Addr) (n : Int), vs = [.ref st, .int n] ∧ IsSt H st ∧ 0 < n ∧ n < 1073741824 ∧ ∀ r H', 0 ≤ r → r < n → Gr st H H' → Q (.int r) H'
theorem ok__law_take {f : Addr} {fd : FuncData} (F : Fun K "_law_take" "_law_take" s__law_take f fd) (T : Txt K mg) : FnOk P w K mg base CX0 1 f fd ["_law_state_here", "_law_many"] (sp__law_take K) := by
  refine F.ok sc__law_take (fun vs H Q E h => ?_) (fun cdv A outer s H vs Q E hr h => ?_)
  · obtain ⟨st, n, rfl, _⟩ := h
    rfl
  · obtain ⟨st, n, rfl, ⟨a, b, hs, ha, hb0, hb1⟩, n0, n1, q⟩ := h
    refine ⟨_, (pss_cons (ps_if (pt_cmpR op_gt (pe_ix ix_list (pv 0) pe_int (fun _ _ => rfl)) pe_int (nomark _)) (pss_cons (ps_set (i := 2) sc__law_take.nd rfl (Or.inl rfl) (pe_op op_modN (pe_ix ix_list (pv 0) pe_int (fun _ _ => rfl)) (pv 1)))
      (pss_cons (ps_asg (pe_op op_fdivN (pe_ix ix_list (pv 0) pe_int (fun _ _ => rfl)) (pv 1)) (pg_sub (pv 0) pe_int set_list))
      (pss_one (ps_ret (pv 2))))) pss_nil)
      (pss_cons (ps_asg (pe_op op_modN (pe_op op_add (pe_op op_mul (pe_ix ix_list (pv 0) pe_int (fun _ _ => rfl)) pe_int) pe_int) pe_int) (pg_sub (pv 0) pe_int set_list))
      (pss_cons (ps_set (i := 3) sc__law_take.nd rfl (Or.inl rfl) (pe_op op_modN (pe_op op_add (pe_op op_add (pe_op op_mul (pe_ix ix_list (pv 0) pe_int (fun _ _ => rfl)) (pe_ix ix_list (pv 0) pe_int (fun _ _ => rfl))) (pe_op op_mul pe_int (pe_ix ix_list (pv 0) pe_int (fun _ _ => rfl)))) pe_int) pe_int))
      (pss_cons (ps_set (i := 3) sc__law_take.nd rfl (Or.inl rfl) (pe_op op_modN (pe_op op_add (pe_op op_mul (pv 3) (pv 3)) (pe_op op_mul pe_int (pv 3))) pe_int))
      (pss_one (ps_ret (pe_op op_modN (pe_op op_fdivN (pv 3) pe_int) (pv 1)))))))), ?_⟩
    refine ⟨_, rfl, st, _, 0, _, rfl, rfl, .inl (.inl hs), rfl, a, 0, rfl, rfl, _, rfl, ite2 (fun e => ?_) (fun e => ?_)⟩
    · have e1 : 0 < a := of_decide_eq_true e
      refine ⟨_, rfl, st, _, 0, _, rfl, rfl, .inl (.inl hs), rfl, _, rfl, a, n, rfl, rfl, by omega, ?_⟩
      refine ⟨_, rfl, st, _, 0, _, rfl, rfl, .inl (.inl hs), rfl, _, rfl, a, n, rfl, rfl, ⟨by omega, by omega⟩, _, rfl, st, _, 0, 0, rfl, rfl, hs, rfl, ?_⟩
      refine ⟨_, rfl, q _ _ (fm n0).1 (fm n0).2 (gr_set ?_ hb0 hb1)⟩
      rw [Int.fdiv_eq_ediv_of_nonneg _ (by omega)]
      exact Int.ediv_nonneg ha (by omega)
    · refine ⟨_, rfl, st, _, 1, _, rfl, rfl, .inl (.inl hs), rfl, b, 48271, rfl, rfl, .inl ⟨by omega, by omega⟩, _, _, rfl, rfl, _, _, rfl, rfl, (by show (2147483647 : Int) ≠ 0; decide), _, rfl, st, _, 1, 1, rfl, rfl, hs, rfl, ?_⟩
      dsimp only
      have f1 := fm (x := b * 48271 + 29) (m := 2147483647) (by decide)
      generalize (b * 48271 + 29).fmod 2147483647 = b1 at f1 ⊢
      obtain ⟨f1a, f1b⟩ := f1
      have hs1 : (upd H st (.lst [.int a, .int b1])) st = some (.lst [.int a, .int b1]) := upd_same
      refine ⟨_, rfl, st, _, 1, _, rfl, rfl, .inl (.inl hs1), rfl, _, rfl, st, _, 1, _, rfl, rfl, .inl (.inl hs1), rfl, b1, b1, rfl, rfl, .inl ⟨by omega, by omega⟩, _, rfl, st, _, 1, _, rfl, rfl, .inl (.inl hs1), rfl, 39373, b1, rfl, rfl, .inl ⟨by decide, by decide⟩, _, _, rfl, rfl, _, _, rfl, rfl, _, _, rfl, rfl, (by show (2147483629 : Int) ≠ 0; decide), ?_⟩
      dsimp only
      have f2 := fm (x := b1 * b1 + 39373 * b1 + 7) (m := 2147483629) (by decide)
      generalize (b1 * b1 + 39373 * b1 + 7).fmod 2147483629 = b2 at f2 ⊢
      obtain ⟨f2a, f2b⟩ := f2
      refine ⟨_, rfl, _, rfl, b2, b2, rfl, rfl, .inl ⟨by omega, by omega⟩, _, rfl, 16807, b2, rfl, rfl, .inl ⟨by decide, by decide⟩, _, _, rfl, rfl, _, _, rfl, rfl, (by show (2147483587 : Int) ≠ 0; decide), ?_⟩
      dsimp only
      generalize (b2 * b2 + 16807 * b2).fmod 2147483587 = b3
      refine ⟨_, rfl, b3, 8, rfl, rfl, ⟨by decide, by decide⟩, _, rfl, _, n, rfl, rfl, by omega, ?_⟩
      exact q _ _ (fm n0).1 (fm n0).2 (gr_set ha f1a f1b)
end

section
variable {P : Program} {w : World} {K : PySem.W.Frag} {mg : Str → Option Value} {base : Heap}
def sp__law_row (K : PySem.W.Frag) : Sp := fun vs H Q _ => ∃ (st : Addr) (n : Int), vs = [.ref st, .int n] ∧ IsSt H st ∧ 0 ≤ n ∧ n < 4 ∧ ∀ (r : RW) (p : Addr) (H' : Hp), VRow r → Gr st H H' → H' p = some (.tup [.int r.1, .int r.2]) → Q (.ref p) H'
theorem ok__law_row {f : Addr} {fd : FuncData} (F : Fun K "_law_row" "_law_row" s__law_row f fd) (T : Txt K mg) (D__law_take : Cl P w K mg base 1 "_law_take" ["_law_state_here", "_law_many"] (sp__law_take K)) : FnOk P w K mg base CX0 2 f fd ["_law_state_here", "_law_way"] (sp__law_row K) := by
  refine F.ok sc__law_row (fun vs H Q E h => ?_) (fun cdv A outer s H vs Q E hr h => ?_)
  · obtain ⟨st, n, rfl, _⟩ := h
    rfl
  · obtain ⟨st, n, rfl, hs, n0, n1, q⟩ := h
    refine ⟨_, (pss_cons (ps_set (i := 2) sc__law_row.nd rfl (Or.inl rfl) (pe_ix ix_list (pe_lst (pa_cons (pe_own D__law_take (hr.mono (by omega)) (by rfl) (pa_cons (pv 0) (pa_cons pe_int pa_nil))) (pa_cons (pe_own D__law_take (hr.mono (by omega)) (by rfl) (pa_cons (pv 0) (pa_cons pe_int pa_nil))) (pa_cons (pe_op op_add pe_int (pe_own D__law_take (hr.mono (by omega)) (by rfl) (pa_cons (pv 0) (pa_cons pe_int pa_nil)))) pa_nil)))) (pe_op op_modN (pv 1) pe_int) (fun _ _ => rfl)))
      (pss_one (ps_ret (pe_tup (pa_cons (pv 2) (pa_cons (pe_op op_add pe_int (pe_own D__law_take (hr.mono (by omega)) (by rfl) (pa_cons (pv 0) (pa_cons (pe_ix ix_list (pe_lst (pa_cons pe_int (pa_cons pe_int (pa_cons pe_int (pa_cons pe_int pa_nil))))) (pv 1) (fun _ _ => rfl)) pa_nil)))) pa_nil)))))), ?_⟩
    refine ⟨_, rfl, st, 10, rfl, hs, by decide, by decide, fun r1 H1 a1 b1 g1 => ?_⟩
    refine ⟨_, rfl, st, 2, rfl, g1.2 hs, by decide, by decide, fun r2 H2 a2 b2 g2 => ?_⟩
    have g12 := g1.trans g2
    refine ⟨_, rfl, st, 2, rfl, g12.2 hs, by decide, by decide, fun r3 H3 a3 b3 g3 => ?_⟩
    have g13 := g12.trans g3
    refine ⟨_, _, rfl, rfl, (by show 3 ≤ sizeLine; decide), fun p np => ?_⟩
    obtain ⟨s4, e4⟩ := new_at (.lst [.int r1, .int r2, .int (1 + r3)]) np
    generalize upd H3 p (.lst [.int r1, .int r2, .int (1 + r3)]) = H4 at s4 e4 ⊢
    have g14 := g13.trans (gr_same (st := st) s4)
    obtain ⟨d, d0, d1, ed⟩ : ∃ d : Int, 0 ≤ d ∧ d ≤ 9 ∧ atI [V.int r1, .int r2, .int (1 + r3)] (n.fmod 3) = some (.int d) := by
      rcases (by omega : n = 0 ∨ n = 1 ∨ n = 2 ∨ n = 3) with e | e | e | e <;> subst e
      · exact ⟨r1, by omega, by omega, rfl⟩
      · exact ⟨r2, by omega, by omega, rfl⟩
      · exact ⟨1 + r3, by omega, by omega, rfl⟩
      · exact ⟨r1, by omega, by omega, rfl⟩
    refine ⟨_, rfl, n, 3, rfl, rfl, (by show (3 : Int) ≠ 0; decide), p, _, _, _, rfl, rfl, .inl (.inl e4), ed, ?_⟩
    refine ⟨_, rfl, _, rfl, (by show 4 ≤ sizeLine; decide), fun p2 np2 => ?_⟩
    obtain ⟨s5, e5⟩ := new_at (.lst [.int 3, .int 24, .int 6, .int 1]) np2
    generalize upd H4 p2 (.lst [.int 3, .int 24, .int 6, .int 1]) = H5 at s5 e5 ⊢
    have g15 := g14.trans (gr_same (st := st) s5)
    obtain ⟨m, m0, m1, em⟩ : ∃ m : Int, 0 < m ∧ m ≤ 24 ∧ atI [V.int 3, .int 24, .int 6, .int 1] n = some (.int m) := by
      rcases (by omega : n = 0 ∨ n = 1 ∨ n = 2 ∨ n = 3) with e | e | e | e <;> subst e
      · exact ⟨3, by omega, by omega, rfl⟩
      · exact ⟨24, by omega, by omega, rfl⟩
      · exact ⟨6, by omega, by omega, rfl⟩
      · exact ⟨1, by omega, by omega, rfl⟩
    refine ⟨_, rfl, p2, _, n, _, rfl, rfl, .inl (.inl e5), em, st, m, rfl, g15.2 hs, m0, by omega, fun r6 H6 a6 b6 g6 => ?_⟩
    refine ⟨_, _, rfl, rfl, (by show 2 ≤ sizeLine; decide), fun p7 np7 => ?_⟩
    exact q (d, 1 + r6) p7 _ ⟨d0, d1, by show 1 ≤ 1 + r6; omega, by show 1 + r6 ≤ 24; omega⟩ ((g15.trans g6).trans (gr_same (same_upd np7))) upd_same
def sp__law_layer (K : PySem.W.Frag) : Sp := fun vs H Q _ => ∃ (st : Addr), vs = [.ref st] ∧ IsSt H st ∧ ∀ (v : V) (rs : List RW) (bk : Option Int) (H' : Hp), Gr st H H' → LayAt K H' v rs bk → VRows rs → VBack rs bk → Q v H'
theorem ok__law_layer {f : Addr} {fd : FuncData} (F : Fun K "_law_layer" "_law_layer" s__law_layer f fd) (T : Txt K mg) (D__law_take : Cl P w K mg base 1 "_law_take" ["_law_state_here", "_law_many"] (sp__law_take K)) (D__law_row : Cl P w K mg base 2 "_law_row" ["_law_state_here", "_law_way"] (sp__law_row K)) : FnOk P w K mg base CX0 3 f fd ["_law_state_here"] (sp__law_layer K) := by
  refine F.ok sc__law_layer (fun vs H Q E h => ?_) (fun cdv A outer s H vs Q E hr h => ?_)
  · obtain ⟨st, rfl, _⟩ := h
    rfl
  · obtain ⟨st, rfl, hs, q⟩ := h
    refine ⟨_, (pss_cons (ps_asg (pe_tup (pa_cons (pe_own D__law_take (hr.mono (by omega)) (by rfl) (pa_cons (pv 0) (pa_cons pe_int pa_nil))) (pa_cons (pe_ix ix_list (pe_lst (pa_cons (pe_own D__law_take (hr.mono (by omega)) (by rfl) (pa_cons (pv 0) (pa_cons pe_int pa_nil))) (pa_cons (pe_op op_add pe_int (pe_own D__law_take (hr.mono (by omega)) (by rfl) (pa_cons (pv 0) (pa_cons pe_int pa_nil)))) (pa_cons pe_int pa_nil)))) (pe_own D__law_take (hr.mono (by omega)) (by rfl) (pa_cons (pv 0) (pa_cons pe_int pa_nil))) (fun _ _ => rfl)) pa_nil))) (pg_tup (by rfl) (pgs_cons (pg_name (i := 1) sc__law_layer.nd rfl (Or.inr rfl)) (pgs_cons (pg_name (i := 2) sc__law_layer.nd rfl (Or.inl rfl)) pgs_nil))))
      (pss_cons (ps_set (i := 3) sc__law_layer.nd rfl (Or.inl rfl) (pe_callTy call_tuple_of (by rfl) T.b_tuple (by decide +kernel) (pa_cons (pe_lc (own := [("_law_turn", 5)]) (g := (gName 5)) (tt := tYes) (by rfl) sc__law_layer.nd (pi_range1 (by rfl) T.b_range (pa_cons (pv 2) pa_nil)) (blkOk_by (own := [("_law_turn", 5)]) (N := ["_law_state_here", "_law_way", "_law_many", "_law_rows", "_law_back", "_law_turn"]) (sc := defScope s__law_layer) (by decide +kernel)) (fun _ _ _ _ _ => (pg_name (i := 5) sc__law_layer.nd rfl (Or.inl rfl))) (fun _ _ _ _ _ => pts_nil) (fun _ _ _ _ _ => (pe_own D__law_row (hr.mono (by omega)) (by rfl) (pa_cons (pv 0) (pa_cons (pv 1) pa_nil))))) pa_nil)))
      (pss_cons (ps_set (i := 4) sc__law_layer.nd rfl (Or.inl rfl) (pe_own D__law_take (hr.mono (by omega)) (by rfl) (pa_cons (pv 0) (pa_cons (pe_op op_add (pe_callB call_len_seq (by rfl) T.b_len (by decide +kernel) (pa_cons (pv 3) pa_nil)) pe_int) pa_nil))))
      (pss_one (ps_ret (pe_tup (pa_cons (pv 3) (pa_cons (pe_ifExp (pt_cmpR op_lt (pv 4) (pe_callB call_len_seq (by rfl) T.b_len (by decide +kernel) (pa_cons (pv 3) pa_nil)) (nomark _)) (pv 4) pe_non) pa_nil)))))))), ?_⟩
    refine ⟨_, rfl, st, 4, rfl, hs, by decide, by decide, fun wy H1 a1 b1 g1 => ?_⟩
    refine ⟨_, rfl, st, 9, rfl, g1.2 hs, by decide, by decide, fun r2 H2 a2 b2 g2 => ?_⟩
    have g12 := g1.trans g2
    refine ⟨_, rfl, st, 3, rfl, g12.2 hs, by decide, by decide, fun r3 H3 a3 b3 g3 => ?_⟩
    have g13 := g12.trans g3
    refine ⟨_, _, rfl, rfl, (by show 3 ≤ sizeLine; decide), fun p np => ?_⟩
    obtain ⟨s4, e4⟩ := new_at (.lst [.int r2, .int (1 + r3), .int 8]) np
    generalize upd H3 p (.lst [.int r2, .int (1 + r3), .int 8]) = H4 at s4 e4 ⊢
    have g14 := g13.trans (gr_same (st := st) s4)
    refine ⟨_, rfl, st, 3, rfl, g14.2 hs, by decide, by decide, fun r5 H5 a5 b5 g5 => ?_⟩
    have g15 := g14.trans g5
    have np' : p ≠ st := by
      obtain ⟨x, y, hx, _⟩ := g13.2 hs
      exact fun z => by rw [z, hx] at np; cases np
    have e5 := g5.1 p _ np' e4
    obtain ⟨mn, m0, m1, em⟩ : ∃ m : Int, 0 ≤ m ∧ m ≤ 8 ∧ atI [V.int r2, .int (1 + r3), .int 8] r5 = some (.int m) := by
      rcases (by omega : r5 = 0 ∨ r5 = 1 ∨ r5 = 2) with e | e | e <;> subst e
      · exact ⟨r2, by omega, by omega, rfl⟩
      · exact ⟨1 + r3, by omega, by omega, rfl⟩
      · exact ⟨8, by omega, by omega, rfl⟩
    refine ⟨p, _, r5, _, rfl, rfl, .inl (.inl e5), em, (by show 2 ≤ sizeLine; decide), fun p6 np6 => ?_⟩
    obtain ⟨s6, e6⟩ := new_at (.tup [.int wy, .int mn]) np6
    generalize upd H5 p6 (.tup [.int wy, .int mn]) = H6 at s6 e6 ⊢
    have g16 := g15.trans (gr_same (st := st) s6)
    have hs6 := g16.2 hs
    refine ⟨p6, _, rfl, .inl (.inl e6), rfl, _, _, rfl, _, _, rfl, rfl, ?_⟩
    refine ⟨_, rfl, mn, rfl, by omega, by omega, fun D hD => ?_⟩
    have nD : D ≠ st := by
      obtain ⟨x, y, hx, _⟩ := hs6
      exact fun z => by rw [z, hx] at hD; cases hD
    refine lc_range (lo := 0) (n := mn.toNat) (fun i H' => Gr st H6 H' ∧ ∃ (vs : List V) (rs : List RW), H' D = some (.lst vs) ∧ vs.length = i ∧ Paired (RowAt K H') vs rs ∧ ∀ r ∈ rs, VRow r)
      ⟨gr_same (same_upd hD), [], [], upd_same, rfl, .nil, fun r hr => by cases hr⟩ (fun i H7 hi p7 => ?_) (fun H7 p7 => ?_)
    · obtain ⟨g7, vs, rs, hL, hlen, pd, vr⟩ := p7
      refine ⟨rfl, yes_ok ⟨_, rfl, _, rfl, st, wy, rfl, g7.2 hs6, a1, b1, fun r p8 H8 vr8 g8 e8 => ?_⟩⟩
      have hL8 := g8.1 D _ nD hL
      refine ⟨vs, hL8, ?_, ?_, vs ++ [.ref p8], rs ++ [r], upd_same, ?_, ?_, ?_⟩
      · exact small1000 (by omega)
      · refine ⟨fun b o nb e => ?_, fun hz => ?_⟩
        · rw [upd_ne (ne_of_none e hD)]
          exact (g7.trans g8).1 b o nb e
        · obtain ⟨x, y, hx, hxy⟩ := (g7.trans g8).2 hz
          refine ⟨x, y, ?_, hxy⟩
          rw [upd_ne (Ne.symm nD)]
          exact hx
      · rw [List.length_append, hlen]
        rfl
      · have k1 : TKeep K H7 (upd H8 D (.lst (vs ++ [.ref p8]))) := fun a xs h => tk_updL hL8 _ _ (g8.sqT (g7.2 hs6) h)
        exact Paired.snocP (Paired.mono pd fun _ _ => RowAt.keep k1) ⟨p8, rfl, tk_updL hL8 _ _ (.inl (.inl e8))⟩
      · intro x hx
        rcases List.mem_append.mp hx with z | z
        · exact vr x z
        · rw [List.mem_singleton.mp z]
          exact vr8
    · obtain ⟨g7, vs, rs, hL, hlen, pd, vr⟩ := p7
      have hl : vs.length = rs.length := Paired.length pd
      refine ⟨D, vs, rfl, .inl ⟨.inl (.inl hL), fun l nl => ?_⟩⟩
      obtain ⟨s8, e8⟩ := new_at (.tup vs) nl
      generalize upd H7 l (.tup vs) = H8 at s8 e8 ⊢
      have g18 := (g16.trans g7).trans (gr_same (st := st) s8)
      have hrows : RowsAt K H8 (.ref l) rs := ⟨l, vs, rfl, .inl (.inl e8), Paired.mono pd fun _ _ => RowAt.keep (Same.tk s8)⟩
      refine ⟨_, rfl, _, rfl, l, vs, rfl, .inr (.inl (.inl e8)), _, _, rfl, rfl, st, _, rfl, g18.2 hs, by omega, by omega, fun b H9 a9 b9 g9 => ?_⟩
      have k9 : TKeep K H8 H9 := g9.tk (g18.2 hs)
      have e9 : SqT K H9 l vs := k9 _ _ (.inl (.inl e8))
      refine ⟨_, rfl, _, rfl, _, rfl, l, vs, rfl, .inr e9, _, _, rfl, rfl, _, rfl, ite2 (fun e => ?_) (fun e => ?_)⟩
      · have e1 : b < (vs.length : Int) := of_decide_eq_true e
        refine ⟨_, rfl, (by show 2 ≤ sizeLine; decide), fun t nt => ?_⟩
        have st' := same_upd (o := .tup [.ref l, .int b]) nt
        refine q _ rs (some b) _ ((g18.trans g9).trans (gr_same st')) ⟨t, _, rfl, .inl (.inl upd_same), (hrows.keep k9).keep (Same.tk st')⟩ ⟨by omega, vr⟩ (fun i ei => ?_)
        have : b = i := Option.some.inj ei
        omega
      · refine ⟨(by show 2 ≤ sizeLine; decide), fun t nt => ?_⟩
        have st' := same_upd (o := .tup [.ref l, .non]) nt
        exact q _ rs none _ ((g18.trans g9).trans (gr_same st')) ⟨t, _, rfl, .inl (.inl upd_same), (hrows.keep k9).keep (Same.tk st')⟩ ⟨by omega, vr⟩ (fun i ei => nomatch ei)
end

section
variable {P : Program} {w : World} {K : PySem.W.Frag} {mg : Str → Option Value} {base : Heap}
def sp__law_turning (K : PySem.W.Frag) : Sp := fun vs H Q _ => ∃ (st : Addr), vs = [.ref st] ∧ IsSt H st ∧ ∀ (v : V) (rs : List RW) (bk : Option Int) (H' : Hp), Gr st H H' → LayAt K H' v rs bk → VRows rs → VBack rs bk → Q v H'
theorem ok__law_turning {f : Addr} {fd : FuncData} (F : Fun K "_law_turning" "_law_turning" s__law_turning f fd) (T : Txt K mg) (D__law_take : Cl P w K mg base 1 "_law_take" ["_law_state_here", "_law_many"] (sp__law_take K)) : FnOk P w K mg base CX0 2 f fd ["_law_state_here"] (sp__law_turning K) := by
  refine F.ok sc__law_turning (fun vs H Q E h => ?_) (fun cdv A outer s H vs Q E hr h => ?_)
  · obtain ⟨st, rfl, _⟩ := h
    rfl
  · obtain ⟨st, rfl, hs, q⟩ := h
    refine ⟨_, (pss_cons (ps_setLc (i := 1) (own := [("_law_turn", 4)]) (g := (gName 4)) (tt := tYes) (by rfl) sc__law_turning.nd rfl rfl (sw_true rfl rfl rfl (by decide +kernel)) (pi_range1 (by rfl) T.b_range (pa_cons (pe_op op_add pe_int (pe_own D__law_take (hr.mono (by omega)) (by rfl) (pa_cons (pv 0) (pa_cons pe_int pa_nil)))) pa_nil)) (blkOk_by (own := [("_law_turn", 4)]) (N := ["_law_state_here", "_law_part", "_law_rows", "_law_start", "_law_turn"]) (sc := defScope s__law_turning) (by decide +kernel)) (fun _ _ _ _ _ => (pg_name (i := 4) sc__law_turning.nd rfl (Or.inl rfl))) (fun _ _ _ _ _ => pts_nil) (fun _ _ _ _ _ => (pe_tup (pa_cons (pe_own D__law_take (hr.mono (by omega)) (by rfl) (pa_cons (pv 0) (pa_cons pe_int pa_nil))) (pa_cons (pe_op op_add pe_int (pe_own D__law_take (hr.mono (by omega)) (by rfl) (pa_cons (pv 0) (pa_cons pe_int pa_nil)))) pa_nil)))))
      (pss_cons (ps_set (i := 2) sc__law_turning.nd rfl (Or.inl rfl) (pe_slice sl_list (pe_op op_rep (pv 1) pe_int) po_none (po_some (pe_callB (call_min2 rfl) (by rfl) T.b_min (by decide +kernel) (pa_cons pe_int (pa_cons (pe_op op_mul (pe_callB call_len_seq (by rfl) T.b_len (by decide +kernel) (pa_cons (pv 1) pa_nil)) (pe_op op_add pe_int (pe_own D__law_take (hr.mono (by omega)) (by rfl) (pa_cons (pv 0) (pa_cons pe_int pa_nil))))) pa_nil))))))
      (pss_cons (ps_set (i := 3) sc__law_turning.nd rfl (Or.inl rfl) (pe_own D__law_take (hr.mono (by omega)) (by rfl) (pa_cons (pv 0) (pa_cons (pe_callB call_len_seq (by rfl) T.b_len (by decide +kernel) (pa_cons (pv 2) pa_nil)) pa_nil))))
      (C8.pss_cut (ps_if (pt_cmpR op_eq (pe_own D__law_take (hr.mono (by omega)) (by rfl) (pa_cons (pv 0) (pa_cons pe_int pa_nil))) pe_int (nomark _)) (pss_one (ps_set (i := 2) sc__law_turning.nd rfl (Or.inl rfl) (pe_op op_cat (pe_lst (pa_cons (pe_tup (pa_cons (pe_own D__law_take (hr.mono (by omega)) (by rfl) (pa_cons (pv 0) (pa_cons pe_int pa_nil))) (pa_cons (pe_op op_add pe_int (pe_own D__law_take (hr.mono (by omega)) (by rfl) (pa_cons (pv 0) (pa_cons pe_int pa_nil)))) pa_nil))) pa_nil)) (pe_slice sl_list (pv 2) po_none (po_some pe_int))))) pss_nil)
      (pss_one (ps_ret (pe_tup (pa_cons (pe_callTy call_tuple_of (by rfl) T.b_tuple (by decide +kernel) (pa_cons (pv 2) pa_nil)) (pa_cons (pe_ix ix_list (pe_lst (pa_cons (pv 3) (pa_cons (pv 3) (pa_cons pe_non pa_nil)))) (pe_own D__law_take (hr.mono (by omega)) (by rfl) (pa_cons (pv 0) (pa_cons pe_int pa_nil))) (fun _ _ => rfl)) pa_nil))))))))), ?_⟩
    refine ⟨_, rfl, st, 3, rfl, hs, by decide, by decide, fun r1 H1 a1 b1 g1 => ?_⟩
    have hs1 := g1.2 hs
    refine ⟨_, _, rfl, rfl, 1 + r1, rfl, by omega, by omega, fun D hD => ?_⟩
    have nD := st_ne hs1 hD
    refine lc_range (lo := 0) (n := (1 + r1).toNat) (fun i H' => Gr st H1 H' ∧ ∃ (vs : List V) (rs : List RW), H' D = some (.lst vs) ∧ vs.length = i ∧ Paired (RowAt K H') vs rs ∧ ∀ r ∈ rs, VRow r)
      ⟨gr_same (same_upd hD), [], [], upd_same, rfl, .nil, fun r hr => by cases hr⟩ (fun i H2 hi p2 => ?_) (fun H2 p2 => ?_)
    · obtain ⟨g2, vs, rs, hL, hlen, pd, vr⟩ := p2
      have hs2 := g2.2 hs1
      refine ⟨rfl, yes_ok ⟨_, rfl, st, 3, rfl, hs2, by decide, by decide, fun r3 H3 a3 b3 g3 => ⟨_, rfl, st, 3, rfl, g3.2 hs2, by decide, by decide, fun r4 H4 a4 b4 g4 => ⟨_, _, rfl, rfl, (by show 2 ≤ sizeLine; decide), fun p5 np5 => ?_⟩⟩⟩⟩
      have g24 := g3.trans g4
      obtain ⟨s5, e5⟩ := new_at (.tup [.int r3, .int (1 + r4)]) np5
      generalize upd H4 p5 (.tup [.int r3, .int (1 + r4)]) = H5 at s5 e5 ⊢
      have g25 := g24.trans (gr_same (st := st) s5)
      have hL5 := g25.1 D _ nD hL
      refine ⟨vs, hL5, small1000 (by omega), gr_upd (g2.trans g25) hD nD, vs ++ [.ref p5], rs ++ [(r3, 1 + r4)], upd_same, ?_, ?_, ?_⟩
      · rw [List.length_append, hlen]
        rfl
      · exact Paired.snocP (Paired.mono pd fun _ _ => RowAt.keep fun a xs h => tk_updL hL5 _ _ (g25.sqT hs2 h)) ⟨p5, rfl, tk_updL hL5 _ _ (.inl (.inl e5))⟩
      · intro x hx
        rcases List.mem_append.mp hx with z | z
        · exact vr x z
        · rw [List.mem_singleton.mp z]
          exact ⟨by show 0 ≤ r3; omega, by show r3 ≤ 9; omega, by show 1 ≤ 1 + r4; omega, by show 1 + r4 ≤ 24; omega⟩
    obtain ⟨g2, vs, rs, hL, hlen, pd, vr⟩ := p2
    have hs2 := g2.2 hs1
    have hl : vs.length = rs.length := Paired.length pd
    refine ⟨_, rfl, D, _, _, rfl, rfl, hL, by decide, by decide, ?_, fun p3 np3 => ?_⟩
    · exact Nat.le_of_lt (small1000 (by show vs.length * 8 ≤ 1000; omega))
    obtain ⟨s3, e3⟩ := new_at (.lst (List.replicate ((8 : Int)).toNat vs).flatten) np3
    generalize upd H2 p3 (.lst (List.replicate ((8 : Int)).toNat vs).flatten) = H3 at s3 e3 ⊢
    have g23 := gr_same (st := st) s3
    have n3 := st_ne hs2 np3
    refine ⟨_, rfl, D, _, rfl, .inl (.inl (.inl (s3 _ _ hL))), _, rfl, st, 4, rfl, g23.2 hs2, by decide, by decide, fun r4 H4 a4 b4 g4 => ⟨_, _, rfl, rfl, _, _, rfl, rfl, ?_, _, _, rfl, ?_⟩⟩
    · exact .inr ⟨by show (-2 ^ 64 : Int) < 1 + r4; omega, by show 1 + r4 < (2 ^ 64 : Int); omega⟩
    have g24 := g23.trans g4
    obtain ⟨n, hn, n1, n8⟩ : ∃ n : Nat, (if (vs.length : Int) * (1 + r4) < 8 then (vs.length : Int) * (1 + r4) else 8) = (n : Int) ∧ 1 ≤ n ∧ n ≤ 8 := by
      have hv1 : vs.length = 1 ∨ vs.length = 2 ∨ vs.length = 3 := by omega
      rcases hv1 with e | e | e <;> rw [e] <;> (split <;> exact ⟨_, (Int.toNat_of_nonneg (by omega)).symm, by omega, by omega⟩)
    rw [hn]
    refine ⟨_, rfl, p3, _, rfl, .inl (.inl (g4.1 _ _ n3 e3)), fun p5 np5 => ?_⟩
    obtain ⟨s5, e5⟩ := new_at (.lst (cutV (List.replicate ((8 : Int)).toNat vs).flatten none (some (n : Int)))) np5
    generalize upd H4 p5 (.lst (cutV (List.replicate ((8 : Int)).toNat vs).flatten none (some (n : Int)))) = H5 at s5 e5 ⊢
    rw [cut_to] at e5
    have g25 := g24.trans (gr_same (st := st) s5)
    have hs5 := g25.2 hs2
    have pd5 : Paired (RowAt K H5) ((List.replicate ((8 : Int)).toNat vs).flatten.take n) ((List.replicate ((8 : Int)).toNat rs).flatten.take n) := Paired.takeP n (Paired.repP (g25.keepRow hs2 pd) _)
    have l5 : ((List.replicate ((8 : Int)).toNat vs).flatten.take n).length = n := by
      rw [List.length_take, len_rep]
      show min n (8 * vs.length) = n
      omega
    have vr5 : ∀ r ∈ (List.replicate ((8 : Int)).toNat rs).flatten.take n, VRow r := fun r hr => vr r (mem_rep (List.mem_of_mem_take hr))
    generalize (List.replicate ((8 : Int)).toNat vs).flatten.take n = vs5 at e5 pd5 l5
    generalize (List.replicate ((8 : Int)).toNat rs).flatten.take n = rs5 at pd5 vr5
    have n5 := st_ne ((gr_same (st := st) (Same.refl H4)).2 (g24.2 hs2)) np5
    -- start
    refine ⟨_, rfl, _, rfl, p5, _, rfl, .inl (.inl (.inl e5)), st, _, rfl, hs5, by rw [l5]; omega, by rw [l5]; omega, fun r6 H6 a6 b6 g6 => ?_⟩
    rw [l5] at b6
    have g26 := g25.trans g6
    have hs6 := g26.2 hs2
    -- a row ahead, perhaps
    refine ⟨fun σ' H' => Gr st H6 H' ∧ ∃ (L : Addr) (ws : List V) (qs : List RW), σ' = [some (.ref st), some (.ref D), some (.ref L), some (.int r6), none] ∧ H' L = some (.lst ws) ∧ L ≠ st ∧ Paired (RowAt K H') ws qs ∧ (∀ r ∈ qs, VRow r) ∧ n ≤ qs.length ∧ qs.length ≤ 8, ?_, ?_⟩
    · refine ⟨_, rfl, st, 2, rfl, hs6, by decide, by decide, fun r7 H7 a7 b7 g7 => ?_⟩
      have hs7 := g7.2 hs6
      have e7 := g7.1 _ _ n5 (g6.1 _ _ n5 e5)
      have pd7 := g7.keepRow hs6 (g6.keepRow hs5 pd5)
      have lq : vs5.length = rs5.length := Paired.length pd5
      refine ⟨rfl, _, rfl, ite2 (fun _ => ?_) (fun _ => ?_)⟩
      · refine ⟨_, rfl, st, 2, rfl, hs7, by decide, by decide, fun r8 H8 a8 b8 g8 => ⟨_, rfl, st, 4, rfl, g8.2 hs7, by decide, by decide, fun r9 H9 a9 b9 g9 => ⟨_, _, rfl, rfl, (by show 2 ≤ sizeLine; decide), fun p10 np10 => ?_⟩⟩⟩
        have g79 := g8.trans g9
        obtain ⟨s10, e10⟩ := new_at (.tup [.int r8, .int (1 + r9)]) np10
        generalize upd H9 p10 (.tup [.int r8, .int (1 + r9)]) = H10 at s10 e10 ⊢
        refine ⟨(by show 1 ≤ sizeLine; decide), fun p11 np11 => ?_⟩
        obtain ⟨s11, e11⟩ := new_at (.lst [.ref p10]) np11
        generalize upd H10 p11 (.lst [.ref p10]) = H11 at s11 e11 ⊢
        have g711 := (g79.trans (gr_same (st := st) s10)).trans (gr_same (st := st) s11)
        refine ⟨_, rfl, 7, rfl, p5, _, rfl, .inl (.inl (g711.1 _ _ n5 e7)), fun p12 np12 => ?_⟩
        have ec : cutV vs5 none (some 7) = vs5.take 7 := cut_to vs5 7
        obtain ⟨s12, e12⟩ := new_at (.lst (cutV vs5 none (some 7))) np12
        generalize upd H11 p12 (.lst (cutV vs5 none (some 7))) = H12 at s12 e12 ⊢
        rw [ec] at e12
        have g712 := g711.trans (gr_same (st := st) s12)
        refine ⟨p11, p12, _, _, rfl, rfl, s12 _ _ e11, e12, ?_, fun p13 np13 => ?_⟩
        · rw [List.length_take]
          exact Nat.le_of_lt (small1000 (by show 1 + _ ≤ 1000; omega))
        · have s13 := same_upd (o := .lst ([.ref p10] ++ vs5.take 7)) np13
          have g713 := g712.trans (gr_same (st := st) s13)
          refine ⟨g7.trans g713, p13, _, (r8, 1 + r9) :: rs5.take 7, rfl, upd_same, st_ne (g712.2 hs7) np13, ?_, ?_, ?_, ?_⟩
          · exact .cons ⟨p10, rfl, .inl (.inl (s13 _ _ (s12 _ _ (s11 _ _ e10))))⟩ (Paired.takeP 7 (g713.keepRow hs7 pd7))
          · intro x hx
            rcases List.mem_cons.mp hx with z | z
            · rw [z]
              exact ⟨by show 0 ≤ r8; omega, by show r8 ≤ 9; omega, by show 1 ≤ 1 + r9; omega, by show 1 + r9 ≤ 24; omega⟩
            · exact vr5 x (List.mem_of_mem_take z)
          · rw [List.length_cons, List.length_take]
            omega
          · rw [List.length_cons, List.length_take]
            omega
      · exact ⟨g7, p5, vs5, rs5, rfl, e7, n5, pd7, vr5, by omega, by omega⟩
    · rintro σ' H7 ⟨g7, L, ws, qs, rfl, eL, nL, pq, vq, q1, q8⟩
      have hs7 := g7.2 hs6
      have lw : ws.length = qs.length := Paired.length pq
      refine ⟨_, rfl, L, ws, rfl, .inl ⟨.inl (.inl eL), fun l nl => ?_⟩⟩
      obtain ⟨s8, e8⟩ := new_at (.tup ws) nl
      generalize upd H7 l (.tup ws) = H8 at s8 e8 ⊢
      refine ⟨_, rfl, _, rfl, (by show 3 ≤ sizeLine; decide), fun p9 np9 => ?_⟩
      obtain ⟨s9, e9⟩ := new_at (.lst [.int r6, .int r6, .non]) np9
      generalize upd H8 p9 (.lst [.int r6, .int r6, .non]) = H9 at s9 e9 ⊢
      have g79 := (gr_same (st := st) s8).trans (gr_same (st := st) s9)
      refine ⟨_, rfl, st, 3, rfl, g79.2 hs7, by decide, by decide, fun r10 H10 a10 b10 g10 => ?_⟩
      have g710 := g79.trans g10
      have n9 : p9 ≠ st := st_ne ((gr_same (st := st) s8).2 hs7) np9
      obtain ⟨bk, hbk, ebk⟩ : ∃ bk : Option Int, VBack qs bk ∧ atI [V.int r6, .int r6, .non] r10 = some (bkV bk) := by
        rcases (by omega : r10 = 0 ∨ r10 = 1 ∨ r10 = 2) with e | e | e <;> subst e
        · exact ⟨some r6, fun i e => by cases e; omega, rfl⟩
        · exact ⟨some r6, fun i e => by cases e; omega, rfl⟩
        · exact ⟨none, fun i e => (by cases e), rfl⟩
      refine ⟨p9, _, r10, _, rfl, rfl, .inl (.inl (g10.1 _ _ n9 e9)), ebk, (by show 2 ≤ sizeLine; decide), fun t nt => ?_⟩
      have st' := same_upd (o := .tup [.ref l, bkV bk]) nt
      have g711 := g710.trans (gr_same (st := st) st')
      have k11 : TKeep K H7 (upd H10 t (.tup [.ref l, bkV bk])) := g711.tk hs7
      have k8 : SqT K (upd H10 t (.tup [.ref l, bkV bk])) l ws := ((gr_same (st := st) s9).trans (g10.trans (gr_same (st := st) st'))).sqT ((gr_same (st := st) s8).2 hs7) (.inl (.inl e8))
      exact q _ qs bk _ ((g1.trans g2).trans ((g26.trans g7).trans g711)) ⟨t, _, rfl, .inl (.inl upd_same), l, ws, rfl, k8, Paired.mono pq fun _ _ => RowAt.keep k11⟩ ⟨q8, vq⟩ hbk
end

/-! ### the law's windows and sheets -/
def PVw (K : PySem.W.Frag) (st : Addr) (H0 : Hp) (F : Addr) (mn x y : Int) (i : Nat) (σ : L2.St) (H : Hp) : Prop :=
  Gr st H0 H ∧ ∃ (pp : Addr) (px py : Int) (vs : List V) (ms : List MV) (tv : Option V), σ = [some (.ref st), some (.ref F), some (.int mn), some (.int x), some (.int y), some (.ref pp), tv] ∧ H pp = some (.tup [.int px, .int py]) ∧ (-20 ≤ px ∧ px ≤ 20) ∧ (-20 ≤ py ∧ py ≤ 20) ∧
    H F = some (.lst vs) ∧ vs.length = i ∧ Paired (MoveAt K H) vs ms ∧ ∀ m ∈ ms, VMove m
section
variable {P : Program} {w : World} {K : PySem.W.Frag} {mg : Str → Option Value} {base : Heap}
def sp__law_window (K : PySem.W.Frag) : Sp := fun vs H Q _ => ∃ (st : Addr), vs = [.ref st] ∧ IsSt H st ∧ ∀ (v : V) (x y : Int) (ms : List MV) (H' : Hp), Gr st H H' → WinAt K H' v x y ms → VWin x y ms → Q v H'
theorem ok__law_window {f : Addr} {fd : FuncData} (F : Fun K "_law_window" "_law_window" s__law_window f fd) (T : Txt K mg) (D__law_take : Cl P w K mg base 1 "_law_take" ["_law_state_here", "_law_many"] (sp__law_take K)) : FnOk P w K mg base CX0 2 f fd ["_law_state_here"] (sp__law_window K) := by
  refine F.ok sc__law_window (fun vs H Q E h => ?_) (fun cdv A outer s H vs Q E hr h => ?_)
  · obtain ⟨st, rfl, _⟩ := h
    rfl
  · obtain ⟨st, rfl, hs, q⟩ := h
    refine ⟨_, (pss_cons (ps_par (i := 1) (j := 2) (by rfl) sc__law_window.nd rfl rfl (by decide) rfl rfl (pa_cons (pe_lst pa_nil) (pa_cons (pe_ix ix_list (pe_lst (pa_cons pe_int (pa_cons pe_int (pa_cons (pe_own D__law_take (hr.mono (by omega)) (by rfl) (pa_cons (pv 0) (pa_cons pe_int pa_nil))) (pa_cons pe_int pa_nil))))) (pe_own D__law_take (hr.mono (by omega)) (by rfl) (pa_cons (pv 0) (pa_cons pe_int pa_nil))) (fun _ _ => rfl)) pa_nil)) (by rfl))
      (pss_cons (ps_par (i := 3) (j := 4) (by rfl) sc__law_window.nd rfl rfl (by decide) rfl rfl (pa_cons (pe_op op_sub (pe_own D__law_take (hr.mono (by omega)) (by rfl) (pa_cons (pv 0) (pa_cons pe_int pa_nil))) pe_int) (pa_cons (pe_op op_sub (pe_own D__law_take (hr.mono (by omega)) (by rfl) (pa_cons (pv 0) (pa_cons pe_int pa_nil))) pe_int) pa_nil)) (by rfl))
      (pss_cons (ps_set (i := 5) sc__law_window.nd rfl (Or.inl rfl) (pe_tup (pa_cons (pv 3) (pa_cons (pv 4) pa_nil))))
      (pss_cons (ps_for PassesOwn.never rfl (pi_range1 (by rfl) T.b_range (pa_cons (pv 2) pa_nil)) (pg_name (i := 6) sc__law_window.nd rfl (Or.inl rfl))
        (C8.pss_cut (ps_if (pt_cmpR op_gt (pe_own D__law_take (hr.mono (by omega)) (by rfl) (pa_cons (pv 0) (pa_cons pe_int pa_nil))) pe_int (nomark _)) (pss_one (ps_set (i := 5) sc__law_window.nd rfl (Or.inl rfl) (pe_tup (pa_cons (pe_op op_sub (pe_own D__law_take (hr.mono (by omega)) (by rfl) (pa_cons (pv 0) (pa_cons pe_int pa_nil))) pe_int) (pa_cons (pe_ix ix_list (pe_lst (pa_cons (pe_op op_sub (pe_own D__law_take (hr.mono (by omega)) (by rfl) (pa_cons (pv 0) (pa_cons pe_int pa_nil))) pe_int) (pa_cons (pe_ix ix_tup (pv 5) pe_int (fun _ _ => rfl)) pa_nil))) (pe_own D__law_take (hr.mono (by omega)) (by rfl) (pa_cons (pv 0) (pa_cons pe_int pa_nil))) (fun _ _ => rfl)) pa_nil))))) pss_nil)
      (pss_one (ps_expr (pe_bm PySem.F.plainAttrs_list PySem.F.slot_list_append PySem.F.type_list_append mt_append (pv 1) (pa_cons (pe_op op_catA (pv 5) (pe_tup (pa_cons (pe_ix ix_list (pe_lst (pa_cons pe_int (pa_cons pe_int (pa_cons (pe_own D__law_take (hr.mono (by omega)) (by rfl) (pa_cons (pv 0) (pa_cons pe_int pa_nil))) (pa_cons (pe_own D__law_take (hr.mono (by omega)) (by rfl) (pa_cons (pv 0) (pa_cons pe_int pa_nil))) (pa_cons pe_int pa_nil)))))) (pe_own D__law_take (hr.mono (by omega)) (by rfl) (pa_cons (pv 0) (pa_cons pe_int pa_nil))) (fun _ _ => rfl)) pa_nil))) pa_nil))))))
      (pss_one (ps_ret (pe_tup (pa_cons (pv 3) (pa_cons (pv 4) (pa_cons (pe_callTy call_tuple_of (by rfl) T.b_tuple (by decide +kernel) (pa_cons (pv 1) pa_nil)) pa_nil)))))))))), ?_⟩
    refine ⟨Nat.zero_le _, fun F nF => ?_⟩
    have nFs := st_ne hs nF
    obtain ⟨s1, e1⟩ := new_at (.lst []) nF
    generalize upd H F (.lst []) = H1 at s1 e1 ⊢
    have g1 := gr_same (st := st) s1
    refine ⟨_, rfl, st, 9, rfl, g1.2 hs, by decide, by decide, fun r2 H2 a2 b2 g2 => ⟨(by show 4 ≤ sizeLine; decide), fun p3 np3 => ?_⟩⟩
    have g12 := g1.trans g2
    obtain ⟨s3, e3⟩ := new_at (.lst [.int 0, .int 1, .int r2, .int 8]) np3
    have np3s := st_ne (g12.2 hs) np3
    generalize upd H2 p3 (.lst [.int 0, .int 1, .int r2, .int 8]) = H3 at s3 e3 ⊢
    have g13 := g12.trans (gr_same (st := st) s3)
    refine ⟨_, rfl, st, 4, rfl, g13.2 hs, by decide, by decide, fun r4 H4 a4 b4 g4 => ?_⟩
    have g14 := g13.trans g4
    obtain ⟨mn, m0, m1, em⟩ : ∃ m : Int, 0 ≤ m ∧ m ≤ 8 ∧ atI [V.int 0, .int 1, .int r2, .int 8] r4 = some (.int m) := by
      rcases (by omega : r4 = 0 ∨ r4 = 1 ∨ r4 = 2 ∨ r4 = 3) with e | e | e | e <;> subst e
      · exact ⟨0, by omega, by omega, rfl⟩
      · exact ⟨1, by omega, by omega, rfl⟩
      · exact ⟨r2, by omega, by omega, rfl⟩
      · exact ⟨8, by omega, by omega, rfl⟩
    refine ⟨p3, _, r4, _, rfl, rfl, .inl (.inl (g4.1 _ _ np3s e3)), em, _, _, rfl, ?_⟩
    -- x, y
    refine ⟨_, rfl, st, 41, rfl, g14.2 hs, by decide, by decide, fun r5 H5 a5 b5 g5 => ⟨_, _, rfl, rfl, ?_⟩⟩
    have g15 := g14.trans g5
    refine ⟨_, rfl, st, 41, rfl, g15.2 hs, by decide, by decide, fun r6 H6 a6 b6 g6 => ⟨_, _, rfl, rfl, _, _, rfl, ?_⟩⟩
    have g16 := g15.trans g6
    -- place
    refine ⟨_, rfl, _, rfl, (by show 2 ≤ sizeLine; decide), fun p7 np7 => ?_⟩
    have F6 : H6 F = some (.lst []) := (((g2.trans (gr_same s3)).trans g4).trans (g5.trans g6)).1 _ _ nFs e1
    obtain ⟨s7, e7⟩ := new_at (.tup [.int (r5 - 20), .int (r6 - 20)]) np7
    have g17 := g16.trans (gr_same (st := st) s7)
    refine ⟨_, rfl, mn, rfl, by omega, by omega, for_range (lo := 0) (n := mn.toNat) (PVw K st H F mn (r5 - 20) (r6 - 20)) ?_ ?_ ?_⟩
    · exact ⟨g17, p7, _, _, [], [], none, rfl, e7, ⟨by omega, by omega⟩, ⟨by omega, by omega⟩, s7 _ _ F6, rfl, .nil, fun m hm => by cases hm⟩
    · intro i σ H8 hi hP
      refine ⟨fun σ' H' => PVw K st H F mn (r5 - 20) (r6 - 20) i σ' H', ?_, ?_⟩
      · obtain ⟨g8, pp, px, py, vs, ms, tv, rfl, hpp, hx, hy, hF, hlen, pd, vm⟩ := hP
        have hs8 := g8.2 hs
        refine ⟨_, rfl, st, 4, rfl, hs8, by decide, by decide, fun r9 H9 a9 b9 g9 => ⟨_, _, rfl, rfl, _, rfl, ite2 (fun _ => ?_) (fun _ => ?_)⟩⟩
        · have hs9 := g9.2 hs8
          refine ⟨_, rfl, st, 41, rfl, hs9, by decide, by decide, fun r10 H10 a10 b10 g10 => ⟨_, _, rfl, rfl, ?_⟩⟩
          have hs10 := g10.2 hs9
          refine ⟨_, rfl, st, 41, rfl, hs10, by decide, by decide, fun r11 H11 a11 b11 g11 => ⟨_, _, rfl, rfl, ?_⟩⟩
          have g811 := (g9.trans g10).trans g11
          have hs11 := g811.2 hs8
          have hp11 := g811.1 _ _ (st_neT hs8 hpp) hpp
          refine ⟨_, rfl, pp, _, 1, _, rfl, rfl, .inl (.inl hp11), rfl, (by show 2 ≤ sizeLine; decide), fun p12 np12 => ?_⟩
          obtain ⟨s12, e12⟩ := new_at (.lst [.int (r11 - 20), .int py]) np12
          have n12 := st_ne hs11 np12
          have g812 := g811.trans (gr_same (st := st) s12)
          refine ⟨_, rfl, st, 2, rfl, g812.2 hs8, by decide, by decide, fun r13 H13 a13 b13 g13 => ?_⟩
          have g813 := g812.trans g13
          obtain ⟨d, d0, d1, ed⟩ : ∃ d : Int, -20 ≤ d ∧ d ≤ 20 ∧ atI [V.int (r11 - 20), .int py] r13 = some (.int d) := by
            rcases (by omega : r13 = 0 ∨ r13 = 1) with e | e <;> subst e
            · exact ⟨_, by omega, by omega, rfl⟩
            · exact ⟨py, hy.1, hy.2, rfl⟩
          refine ⟨p12, _, r13, _, rfl, rfl, .inl (.inl (g13.1 _ _ n12 e12)), ed, (by show 2 ≤ sizeLine; decide), fun p14 np14 => ?_⟩
          have g814 := g813.trans (gr_same (st := st) (same_upd (o := .tup [.int (r10 - 20), .int d]) np14))
          exact ⟨g8.trans g814, p14, _, _, vs, ms, _, rfl, upd_same, ⟨by omega, by omega⟩, ⟨d0, d1⟩, g814.1 _ _ nFs hF, hlen, Paired.mono pd fun _ _ => MoveAt.keep (g814.tk hs8), vm⟩
        · exact ⟨g8.trans g9, pp, px, py, vs, ms, _, rfl, g9.1 _ _ (st_neT hs8 hpp) hpp, hx, hy, g9.1 _ _ nFs hF, hlen, Paired.mono pd fun _ _ => MoveAt.keep (g9.tk hs8), vm⟩
      · rintro σ' H' ⟨g8, pp, px, py, vs, ms, tv, rfl, hpp, hx, hy, hF, hlen, pd, vm⟩
        have hs8 := g8.2 hs
        refine ⟨_, rfl, .inl ⟨rfl, _, .inl (.inl hF)⟩, _, rfl, ?_⟩
        refine ⟨_, rfl, st, 8, rfl, hs8, by decide, by decide, fun r9 H9 a9 b9 g9 => ?_⟩
        refine ⟨_, rfl, st, 25, rfl, g9.2 hs8, by decide, by decide, fun r10 H10 a10 b10 g10 => ?_⟩
        have g810 := g9.trans g10
        refine ⟨(by show 5 ≤ sizeLine; decide), fun p11 np11 => ?_⟩
        obtain ⟨s11, e11⟩ := new_at (.lst [.int 0, .int 1, .int r9, .int r10, .int 24]) np11
        have n11 := st_ne (g810.2 hs8) np11
        have g811 := g810.trans (gr_same (st := st) s11)
        refine ⟨_, rfl, st, 5, rfl, g811.2 hs8, by decide, by decide, fun r12 H12 a12 b12 g12 => ?_⟩
        have g812 := g811.trans g12
        obtain ⟨d, d0, d1, ed⟩ : ∃ d : Int, 0 ≤ d ∧ d ≤ 24 ∧ atI [V.int 0, .int 1, .int r9, .int r10, .int 24] r12 = some (.int d) := by
          rcases (by omega : r12 = 0 ∨ r12 = 1 ∨ r12 = 2 ∨ r12 = 3 ∨ r12 = 4) with e | e | e | e | e <;> subst e
          · exact ⟨0, by omega, by omega, rfl⟩
          · exact ⟨1, by omega, by omega, rfl⟩
          · exact ⟨r9, by omega, by omega, rfl⟩
          · exact ⟨r10, by omega, by omega, rfl⟩
          · exact ⟨24, by omega, by omega, rfl⟩
        refine ⟨p11, _, r12, _, rfl, rfl, .inl (.inl (g12.1 _ _ n11 e11)), ed, (by show 1 ≤ sizeLine; decide), fun p13 np13 => ?_⟩
        obtain ⟨s13, e13⟩ := new_at (.tup [.int d]) np13
        have g813 := g812.trans (gr_same (st := st) s13)
        have hp13 := g813.1 _ _ (st_neT hs8 hpp) hpp
        refine ⟨pp, p13, _, _, rfl, rfl, .inl (.inl hp13), .inl (.inl e13), (by show 3 ≤ sizeLine; decide), fun z => absurd z (List.cons_ne_nil _ _), fun _ z => absurd z (List.cons_ne_nil _ _), fun _ _ p14 np14 => ?_⟩
        obtain ⟨s14, e14⟩ := new_at (.tup ([.int px, .int py] ++ [.int d])) np14
        have g814 := g813.trans (gr_same (st := st) s14)
        have hF14 := g814.1 _ _ nFs hF
        refine ⟨F, _, _, rfl, rfl, hF14, small1000 (by omega), ?_⟩
        have k15 : TKeep K H' (upd (upd (upd H12 p13 (.tup [.int d])) p14 (.tup ([.int px, .int py] ++ [.int d]))) F (.lst (vs ++ [.ref p14]))) := fun a xs h => tk_updL hF14 _ _ (g814.sqT hs8 h)
        refine ⟨⟨fun b o nb e => ?_, fun hz => ?_⟩, pp, px, py, vs ++ [.ref p14], ms ++ [(px, py, d)], _, rfl, ?_, hx, hy, upd_same, ?_, ?_, ?_⟩
        · rw [upd_ne (ne_of_none e nF)]
          exact (g8.trans g814).1 b o nb e
        · obtain ⟨x, y, hxx, hxy⟩ := (g8.trans g814).2 hz
          refine ⟨x, y, ?_, hxy⟩
          rw [upd_ne (Ne.symm nFs)]
          exact hxx
        · rw [upd_ne (ne_of (s14 _ _ hp13) hF14 (by intro z; cases z))]
          exact s14 _ _ hp13
        · rw [List.length_append, hlen]
          rfl
        · exact Paired.snocP (Paired.mono pd fun _ _ => MoveAt.keep k15) ⟨p14, rfl, tk_updL hF14 _ _ (.inl (.inl e14))⟩
        · intro m hm
          rcases List.mem_append.mp hm with z | z
          · exact vm m z
          · rw [List.mem_singleton.mp z]
            exact ⟨hx, hy, d0, d1⟩
    · rintro σ H8 ⟨g8, pp, px, py, vs, ms, tv, rfl, hpp, hx, hy, hF, hlen, pd, vm⟩
      have hl : vs.length = ms.length := Paired.length pd
      refine ⟨_, rfl, _, rfl, _, rfl, F, vs, rfl, .inl ⟨.inl (.inl hF), fun l nl => ⟨(by show 3 ≤ sizeLine; decide), fun p9 np9 => ?_⟩⟩⟩
      obtain ⟨s9, e9⟩ := new_at (.tup vs) nl
      have s10 := same_upd (o := .tup [.int (r5 - 20), .int (r6 - 20), .ref l]) np9
      refine q _ (r5 - 20) (r6 - 20) ms _ ((g8.trans (gr_same s9)).trans (gr_same s10)) ⟨p9, _, rfl, .inl (.inl upd_same), l, vs, rfl, .inl (.inl (s10 _ _ e9)), Paired.mono pd fun _ _ => MoveAt.keep (Same.tk (s9.trans s10))⟩ ⟨⟨by omega, by omega⟩, ⟨by omega, by omega⟩, by omega, vm⟩
end

section
variable {P : Program} {w : World} {K : PySem.W.Frag} {mg : Str → Option Value} {base : Heap}
def sp__law_sheet (K : PySem.W.Frag) : Sp := fun vs H Q _ => ∃ (st : Addr), vs = [.ref st] ∧ IsSt H st ∧ ∀ (v : V) (ls : List LY) (x y : Int) (ms : List MV) (H' : Hp), Gr st H H' → ShAt K H' v ls x y ms → VLays ls → VWin x y ms → Q v H'
theorem ok__law_sheet {f : Addr} {fd : FuncData} (F : Fun K "_law_sheet" "_law_sheet" s__law_sheet f fd) (T : Txt K mg) (D__law_window : Cl P w K mg base 2 "_law_window" ["_law_state_here"] (sp__law_window K)) (D__law_layer : Cl P w K mg base 3 "_law_layer" ["_law_state_here"] (sp__law_layer K)) (D__law_take : Cl P w K mg base 1 "_law_take" ["_law_state_here", "_law_many"] (sp__law_take K)) : FnOk P w K mg base CX0 4 f fd ["_law_state_here"] (sp__law_sheet K) := by
  refine F.ok sc__law_sheet (fun vs H Q E h => ?_) (fun cdv A outer s H vs Q E hr h => ?_)
  · obtain ⟨st, rfl, _⟩ := h
    rfl
  · obtain ⟨st, rfl, hs, q⟩ := h
    refine ⟨_, (pss_one (ps_ret (pe_tup (pa_cons (pe_callTy call_tuple_of (by rfl) T.b_tuple (by decide +kernel) (pa_cons (pe_lc (own := [("_law_turn", 1)]) (g := (gName 1)) (tt := tYes) (by rfl) sc__law_sheet.nd (pi_range1 (by rfl) T.b_range (pa_cons (pe_op op_add pe_int (pe_own D__law_take (hr.mono (by omega)) (by rfl) (pa_cons (pv 0) (pa_cons pe_int pa_nil)))) pa_nil)) (blkOk_by (own := [("_law_turn", 1)]) (N := ["_law_state_here", "_law_turn"]) (sc := defScope s__law_sheet) (by decide +kernel)) (fun _ _ _ _ _ => (pg_name (i := 1) sc__law_sheet.nd rfl (Or.inl rfl))) (fun _ _ _ _ _ => pts_nil) (fun _ _ _ _ _ => (pe_own D__law_layer (hr.mono (by omega)) (by rfl) (pa_cons (pv 0) pa_nil)))) pa_nil)) (pa_cons (pe_own D__law_window (hr.mono (by omega)) (by rfl) (pa_cons (pv 0) pa_nil)) pa_nil))))), ?_⟩
    refine ⟨_, rfl, st, 4, rfl, hs, by decide, by decide, fun r1 H1 a1 b1 g1 => ⟨_, _, rfl, rfl, 1 + r1, rfl, by omega, by omega, fun D hD => ?_⟩⟩
    have hs1 := g1.2 hs
    have nD := st_ne hs1 hD
    refine lc_range (lo := 0) (n := (1 + r1).toNat) (fun i H' => Gr st H1 H' ∧ ∃ (vs : List V) (ls : List LY), H' D = some (.lst vs) ∧ vs.length = i ∧ Paired (LyAt K H') vs ls ∧ ∀ l ∈ ls, VLy l)
      ⟨gr_same (same_upd hD), [], [], upd_same, rfl, .nil, fun r hr => by cases hr⟩ (fun i H7 hi p7 => ?_) (fun H7 p7 => ?_)
    · obtain ⟨g7, vs, ls, hL, hlen, pd, vl⟩ := p7
      refine ⟨rfl, yes_ok ⟨_, rfl, st, rfl, g7.2 hs1, fun v rs bk H8 g8 hly vR vb => ?_⟩⟩
      have hL8 := g8.1 D _ nD hL
      refine ⟨vs, hL8, small1000 (by omega), ?_, vs ++ [v], ls ++ [(rs, bk)], upd_same, ?_, ?_, ?_⟩
      · refine ⟨fun b o nb e => ?_, fun hz => ?_⟩
        · rw [upd_ne (ne_of_none e hD)]
          exact (g7.trans g8).1 b o nb e
        · obtain ⟨x, y, hx, hxy⟩ := (g7.trans g8).2 hz
          refine ⟨x, y, ?_, hxy⟩
          rw [upd_ne (Ne.symm nD)]
          exact hx
      · rw [List.length_append, hlen]
        rfl
      · have k1 : TKeep K H7 (upd H8 D (.lst (vs ++ [v]))) := fun a xs h => tk_updL hL8 _ _ (g8.sqT (g7.2 hs1) h)
        exact Paired.snocP (Paired.mono pd fun _ _ => LyAt.keep k1) (LayAt.keep (tk_updL hL8) hly)
      · intro x hx
        rcases List.mem_append.mp hx with z | z
        · exact vl x z
        · rw [List.mem_singleton.mp z]
          exact ⟨vR, vb⟩
    · obtain ⟨g7, vs, ls, hL, hlen, pd, vl⟩ := p7
      have hl : vs.length = ls.length := Paired.length pd
      refine ⟨D, vs, rfl, .inl ⟨.inl (.inl hL), fun l nl => ?_⟩⟩
      obtain ⟨s8, e8⟩ := new_at (.tup vs) nl
      have g18 := (g1.trans g7).trans (gr_same (st := st) s8)
      have hlay : LaysAt K (upd H7 l (.tup vs)) (.ref l) ls := ⟨l, vs, rfl, .inl (.inl e8), Paired.mono pd fun _ _ => LyAt.keep (Same.tk s8)⟩
      refine ⟨_, rfl, st, rfl, g18.2 hs, fun v x y ms H9 g9 hw vw => ⟨(by show 2 ≤ sizeLine; decide), fun p10 np10 => ?_⟩⟩
      have s10 := same_upd (o := .tup [.ref l, v]) np10
      exact q _ ls x y ms _ ((g18.trans g9).trans (gr_same s10)) ⟨p10, _, _, rfl, .inl (.inl upd_same), (hlay.keep (g9.tk (g18.2 hs))).keep (Same.tk s10), hw.keep (Same.tk s10)⟩ ⟨by omega, by omega, vl⟩ vw
end

/-- drawings named by a list -/
def nmF (ns : List Int) (d : Int) : Int := ns.getD d.toNat 0
def nmR (ns : List Int) (r : RW) : RW := (nmF ns r.1, r.2)
def nmL (ns : List Int) (l : LY) : LY := (l.1.map (nmR ns), l.2)
theorem nm_at {ns : List Int} {d : Int} (l : ns.length = 10) (h0 : 0 ≤ d) (h1 : d ≤ 9) : atI (ns.map V.int) d = some (.int (nmF ns d)) := by
  have hk : d.toNat < ns.length := by omega
  refine at_of (j := d.toNat) (by omega) ?_
  rw [List.getElem?_map, List.getElem?_eq_getElem hk]
  unfold nmF
  rw [List.getD_eq_getElem?_getD, List.getElem?_eq_getElem hk]
  rfl
def PVnm (K : PySem.W.Frag) (p nv F : Addr) (ns : List Int) (H : Hp) (ls : List LY) (i : Nat) (σ : L2.St) (H' : Hp) : Prop :=
  Same H H' ∧ ∃ (vs : List V) (y3 y4 y5 y6 : Option V), σ = [some (.ref p), some (.ref nv), some (.ref F), y3, y4, y5, y6] ∧ H' F = some (.lst vs) ∧ Paired (LyAt K H') vs ((ls.take i).map (nmL ns))
section
variable {P : Program} {w : World} {K : PySem.W.Frag} {mg : Str → Option Value} {base : Heap}
def sp__law_named (K : PySem.W.Frag) : Sp := fun vs H Q _ => ∃ (sv : V) (nv : Addr) (ns : List Int) (ls : List LY) (x y : Int) (ms : List MV), vs = [sv, .ref nv] ∧ ShAt K H sv ls x y ms ∧ SqL K H nv (ns.map V.int) ∧ VLays ls ∧ ns.length = 10 ∧
  ∀ v H', Same H H' → ShAt K H' v (ls.map (nmL ns)) x y ms → Q v H'
theorem ok__law_named {f : Addr} {fd : FuncData} (F : Fun K "_law_named" "_law_named" s__law_named f fd) (T : Txt K mg) : FnOk P w K mg base CX0 1 f fd ["_law_sheet_here", "_law_names"] (sp__law_named K) := by
  refine F.ok sc__law_named (fun vs H Q E h => ?_) (fun cdv A outer s H vs Q E hr h => ?_)
  · obtain ⟨sv, nv, ns, ls, x, y, ms, rfl, _⟩ := h
    rfl
  · obtain ⟨sv, nv, ns, ls, x, y, ms, rfl, ⟨p, lv, wv, rfl, hp, ⟨pl, us, rfl, hl0, pd⟩, hw⟩, hN, vL, ln, q⟩ := h
    refine ⟨_, (pss_cons (ps_set (i := 2) sc__law_named.nd rfl (Or.inl rfl) (pe_lst pa_nil))
      (pss_cons (ps_for PassesOwn.never rfl (pi_tup (pe_ix ix_tup (pv 0) pe_int (fun _ _ => rfl))) (pg_tup (by rfl) (pgs_cons (pg_name (i := 3) sc__law_named.nd rfl (Or.inl rfl)) (pgs_cons (pg_name (i := 4) sc__law_named.nd rfl (Or.inl rfl)) pgs_nil)))
        (pss_one (ps_expr (pe_bm PySem.F.plainAttrs_list PySem.F.slot_list_append PySem.F.type_list_append mt_append (pv 2) (pa_cons (pe_tup (pa_cons (pe_callTy call_tuple_of (by rfl) T.b_tuple (by decide +kernel) (pa_cons (pe_lc (own := [("_law_drawing", 5), ("_law_hold", 6)]) (g := (gTup _ 2 (gCons (gName 5) (gCons (gName 6) gNil)))) (tt := tYes) (by rfl) sc__law_named.nd (pi_tup (pv 3)) (blkOk_by (own := [("_law_drawing", 5), ("_law_hold", 6)]) (N := ["_law_sheet_here", "_law_names", "_law_layers", "_law_rows", "_law_back", "_law_drawing", "_law_hold"]) (sc := defScope s__law_named) (by decide +kernel)) (fun _ _ _ _ _ => (pg_tup (by rfl) (pgs_cons (pg_name (i := 5) sc__law_named.nd rfl (Or.inl rfl)) (pgs_cons (pg_name (i := 6) sc__law_named.nd rfl (Or.inl rfl)) pgs_nil)))) (fun _ _ _ _ _ => pts_nil) (fun _ _ _ _ _ => (pe_tup (pa_cons (pe_ix (r := rIxL K) ix_list (pv 1) (pv 5) (fun _ _ => rfl)) (pa_cons (pv 6) pa_nil))))) pa_nil)) (pa_cons (pv 4) pa_nil))) pa_nil)))))
      (pss_one (ps_ret (pe_tup (pa_cons (pe_callTy call_tuple_of (by rfl) T.b_tuple (by decide +kernel) (pa_cons (pv 2) pa_nil)) (pa_cons (pe_ix ix_tup (pv 0) pe_int (fun _ _ => rfl)) pa_nil))))))), ?_⟩
    have lu : us.length = ls.length := Paired.length pd
    have l4 : ls.length ≤ 4 := vL.2.1
    refine ⟨Nat.zero_le _, fun F nF => ?_⟩
    obtain ⟨s1, e1⟩ := new_at (.lst []) nF
    generalize upd H F (.lst []) = H1 at s1 e1 ⊢
    refine ⟨_, rfl, p, _, 0, _, rfl, rfl, Same.sqT s1 hp, rfl, pl, rfl, ⟨_, Same.sqT s1 hl0⟩, for_tup (K := K) (a := pl) (xs := us) (PVnm K p nv F ns H ls) ?_ ?_ ?_ ?_⟩
    · exact ⟨s1, [], none, none, none, none, rfl, e1, by rw [List.take_zero]; exact .nil⟩
    · exact fun i σ H' _ z => Same.sqT z.1 hl0
    · rintro i u σ H2 hu ⟨s2, vs, y3, y4, y5, y6, rfl, eF, pq⟩
      obtain ⟨l, hli, pr, rv, rfl, hpr, ⟨pw, ws, rfl, hw0, pdr⟩⟩ := Paired.at pd hu
      have vl : VLy l := vL.2.2 l (List.mem_of_getElem? hli)
      have hi : i < us.length := (List.getElem?_eq_some_iff.mp hu).1
      have lw : ws.length = l.1.length := Paired.length pdr
      have l8 : l.1.length ≤ 8 := vl.1.1
      refine ⟨pr, _, rfl, Same.sqT s2 hpr, rfl, _, _, rfl, _, _, rfl, rfl, ?_⟩
      refine ⟨_, rfl, .inl ⟨rfl, _, .inl (.inl eF)⟩, _, rfl, pw, rfl, ⟨_, Same.sqT s2 hw0⟩, fun D nD => ?_⟩
      refine lc_tup (K := K) (a := pw) (xs := ws) (fun j H' => Same H2 H' ∧ ∃ zs : List V, H' D = some (.lst zs) ∧ zs.length = j ∧ Paired (RowAt K H') zs ((l.1.take j).map (nmR ns)))
        ⟨same_upd nD, [], upd_same, rfl, .nil⟩ (fun j H' _ z => Same.sqT (s2.trans z.1) hw0) (fun j u2 H3 hu2 p3 => ?_) (fun H3 p3 => ?_)
      · obtain ⟨s3, zs, eD, lz, pz⟩ := p3
        obtain ⟨r, hr1, pu, rfl, hru⟩ := Paired.at pdr hu2
        have hj : j < ws.length := (List.getElem?_eq_some_iff.mp hu2).1
        have vr : VRow r := vl.1.2 r (List.mem_of_getElem? hr1)
        refine ⟨pu, _, rfl, Same.sqT (s2.trans s3) hru, rfl, _, _, rfl, _, _, rfl, rfl, rfl, yes_ok ?_⟩
        refine ⟨_, rfl, _, rfl, nv, _, _, _, rfl, rfl, (s2.trans s3).seq hN, nm_at ln vr.1 vr.2.1, _, rfl, (by show 2 ≤ sizeLine; decide), fun p4 np4 => ?_⟩
        obtain ⟨s4, e4⟩ := new_at (.tup [.int (nmF ns r.1), .int r.2]) np4
        generalize upd H3 p4 (.tup [.int (nmF ns r.1), .int r.2]) = H4 at s4 e4 ⊢
        have eD4 := s4 _ _ eD
        have k4 : TKeep K H4 (upd H4 D (.lst (zs ++ [.ref p4]))) := fun a xs h => tk_updL eD4 _ _ h
        refine ⟨zs, eD4, small1000 (by omega), fun b o e => ?_, zs ++ [.ref p4], upd_same, by rw [List.length_append, lz]; rfl, ?_⟩
        · rw [upd_ne (ne_of_none e nD)]
          exact s4 _ _ (s3 _ _ e)
        · rw [List.take_add_one, hr1, List.map_append]
          exact Paired.snocP (Paired.mono pz fun _ _ h => (RowAt.keep (Same.tk s4) h).keep k4) ⟨p4, rfl, k4 _ _ (.inl (.inl e4))⟩
      · obtain ⟨s3, zs, eD, lz, pz⟩ := p3
        rw [lw, List.take_length] at pz
        refine ⟨D, zs, rfl, .inl ⟨.inl (.inl eD), fun pt npt => ⟨_, rfl, (by show 2 ≤ sizeLine; decide), fun p5 np5 => ?_⟩⟩⟩
        obtain ⟨s4, e4⟩ := new_at (.tup zs) npt
        obtain ⟨s5, e5⟩ := new_at (.tup [.ref pt, bkV l.2]) np5
        generalize upd (upd H3 pt (.tup zs)) p5 (.tup [.ref pt, bkV l.2]) = H5 at s5 e5 ⊢
        have s35 := s4.trans s5
        have s25 := s3.trans s35
        have eF5 := s25 _ _ eF
        have lq := Paired.length pq
        rw [List.length_map, List.length_take] at lq
        refine ⟨F, _, _, rfl, rfl, eF5, small1000 (by omega), ?_⟩
        have k25 : TKeep K H2 (upd H5 F (.lst (vs ++ [.ref p5]))) := fun a xs h => tk_updL eF5 _ _ (Same.sqT s25 h)
        have k5 : TKeep K H5 (upd H5 F (.lst (vs ++ [.ref p5]))) := fun a xs h => tk_updL eF5 _ _ h
        refine ⟨fun b o e => ?_, vs ++ [.ref p5], _, _, _, _, rfl, upd_same, ?_⟩
        · rw [upd_ne (ne_of_none e nF)]
          exact s25 _ _ (s2 _ _ e)
        · rw [List.take_add_one, hli, List.map_append]
          exact Paired.snocP (Paired.mono pq fun _ _ => LyAt.keep k25) ⟨p5, .ref pt, rfl, k5 _ _ (.inl (.inl e5)), RowsAt.keep (fun a xs h => k5 _ _ (Same.sqT s5 h)) ⟨pt, zs, rfl, .inl (.inl e4), Paired.mono pz fun _ _ => RowAt.keep (Same.tk s4)⟩⟩
    · rintro σ H2 ⟨s2, vs, y3, y4, y5, y6, rfl, eF, pq⟩
      rw [lu, List.take_length] at pq
      refine ⟨_, rfl, F, vs, rfl, .inl ⟨.inl (.inl eF), fun pt npt => ?_⟩⟩
      obtain ⟨s3, e3⟩ := new_at (.tup vs) npt
      generalize upd H2 pt (.tup vs) = H3 at s3 e3 ⊢
      refine ⟨_, rfl, p, _, 1, _, rfl, rfl, Same.sqT (s2.trans s3) hp, rfl, (by show 2 ≤ sizeLine; decide), fun p5 np5 => ?_⟩
      obtain ⟨s5, e5⟩ := new_at (.tup [.ref pt, wv]) np5
      exact q _ _ ((s2.trans s3).trans s5) ⟨p5, .ref pt, wv, rfl, .inl (.inl e5), LaysAt.keep (Same.tk s5) ⟨pt, vs, rfl, .inl (.inl e3), Paired.mono pq fun _ _ => LyAt.keep (Same.tk s3)⟩, hw.keep (Same.tk ((s2.trans s3).trans s5))⟩
end

/-- all places by half -/
def hlf (m : MV) : MV := (m.1.fdiv 2, m.2.1.fdiv 2, m.2.2)
section
variable {P : Program} {w : World} {K : PySem.W.Frag} {mg : Str → Option Value} {base : Heap}
def sp__law_halved (K : PySem.W.Frag) : Sp := fun vs H Q _ => ∃ (wv : V) (x y : Int) (ms : List MV), vs = [wv] ∧ WinAt K H wv x y ms ∧ VWin x y ms ∧ ∀ v H', Same H H' → WinAt K H' v (x.fdiv 2) (y.fdiv 2) (ms.map hlf) → Q v H'
theorem ok__law_halved {f : Addr} {fd : FuncData} (F : Fun K "_law_halved" "_law_halved" s__law_halved f fd) (T : Txt K mg) : FnOk P w K mg base CX0 1 f fd ["_law_window_here"] (sp__law_halved K) := by
  refine F.ok sc__law_halved (fun vs H Q E h => ?_) (fun cdv A outer s H vs Q E hr h => ?_)
  · obtain ⟨wv, x, y, ms, rfl, _⟩ := h
    rfl
  · obtain ⟨wv, x, y, ms, rfl, ⟨pw, mv, rfl, hw0, pm, us, rfl, hm0, pd⟩, vw, q⟩ := h
    refine ⟨_, (pss_cons (ps_asg (pv 0) (pg_tup (by rfl) (pgs_cons (pg_name (i := 1) sc__law_halved.nd rfl (Or.inl rfl)) (pgs_cons (pg_name (i := 2) sc__law_halved.nd rfl (Or.inl rfl)) (pgs_cons (pg_name (i := 3) sc__law_halved.nd rfl (Or.inl rfl)) pgs_nil)))))
      (pss_one (ps_ret (pe_tup (pa_cons (pe_op op_fdivN (pv 1) pe_int) (pa_cons (pe_op op_fdivN (pv 2) pe_int) (pa_cons (pe_callTy call_tuple_of (by rfl) T.b_tuple (by decide +kernel) (pa_cons (pe_lc (own := [("_law_goal", 4), ("_law_other", 5), ("_law_many", 6)]) (g := (gTup _ 3 (gCons (gName 4) (gCons (gName 5) (gCons (gName 6) gNil))))) (tt := tYes) (by rfl) sc__law_halved.nd (pi_tup (pv 3)) (blkOk_by (own := [("_law_goal", 4), ("_law_other", 5), ("_law_many", 6)]) (N := ["_law_window_here", "_law_x", "_law_y", "_law_moves", "_law_goal", "_law_other", "_law_many"]) (sc := defScope s__law_halved) (by decide +kernel)) (fun _ _ _ _ _ => (pg_tup (by rfl) (pgs_cons (pg_name (i := 4) sc__law_halved.nd rfl (Or.inl rfl)) (pgs_cons (pg_name (i := 5) sc__law_halved.nd rfl (Or.inl rfl)) (pgs_cons (pg_name (i := 6) sc__law_halved.nd rfl (Or.inl rfl)) pgs_nil))))) (fun _ _ _ _ _ => pts_nil) (fun _ _ _ _ _ => (pe_tup (pa_cons (pe_op op_fdivN (pv 4) pe_int) (pa_cons (pe_op op_fdivN (pv 5) pe_int) (pa_cons (pv 6) pa_nil)))))) pa_nil)) pa_nil))))))), ?_⟩
    have lu : us.length = ms.length := Paired.length pd
    have hd2 : ∀ z : Int, CDivN z 2 := fun z => ⟨by decide, by decide⟩
    have l8 : ms.length ≤ 8 := vw.2.2.1
    refine ⟨_, rfl, pw, _, rfl, hw0, rfl, _, _, rfl, _, _, rfl, _, _, rfl, rfl, ?_⟩
    refine ⟨_, rfl, _, _, rfl, rfl, (hd2 _), _, rfl, _, _, rfl, rfl, (hd2 _), _, rfl, pm, rfl, ⟨_, hm0⟩, fun D nD => ?_⟩
    refine lc_tup (K := K) (a := pm) (xs := us) (fun j H' => Same H H' ∧ ∃ vs : List V, H' D = some (.lst vs) ∧ vs.length = j ∧ Paired (MoveAt K H') vs ((ms.take j).map hlf))
      ⟨same_upd nD, [], upd_same, rfl, .nil⟩ (fun j H' _ z => Same.sqT z.1 hm0) (fun j u H2 hu p2 => ?_) (fun H2 p2 => ?_)
    · obtain ⟨s2, vs, eD, lv, pv⟩ := p2
      obtain ⟨m, hm, pu, rfl, hmu⟩ := Paired.at pd hu
      have hj : j < us.length := (List.getElem?_eq_some_iff.mp hu).1
      refine ⟨pu, _, rfl, Same.sqT s2 hmu, rfl, _, _, rfl, _, _, rfl, _, _, rfl, rfl, rfl, yes_ok ?_⟩
      refine ⟨_, rfl, _, _, rfl, rfl, (hd2 _), _, rfl, _, _, rfl, rfl, (hd2 _), _, rfl, (by show 3 ≤ sizeLine; decide), fun p3 np3 => ?_⟩
      obtain ⟨s3, e3⟩ := new_at (.tup [.int (m.1.fdiv 2), .int (m.2.1.fdiv 2), .int m.2.2]) np3
      generalize upd H2 p3 (.tup [.int (m.1.fdiv 2), .int (m.2.1.fdiv 2), .int m.2.2]) = H3 at s3 e3 ⊢
      have eD3 := s3 _ _ eD
      have k3 : TKeep K H3 (upd H3 D (.lst (vs ++ [.ref p3]))) := fun a xs h => tk_updL eD3 _ _ h
      refine ⟨vs, eD3, small1000 (by omega), fun b o e => ?_, vs ++ [.ref p3], upd_same, by rw [List.length_append, lv]; rfl, ?_⟩
      · rw [upd_ne (ne_of_none e nD)]
        exact s3 _ _ (s2 _ _ e)
      · rw [List.take_add_one, hm, List.map_append]
        exact Paired.snocP (Paired.mono pv fun _ _ h => (MoveAt.keep (Same.tk s3) h).keep k3) ⟨p3, rfl, k3 _ _ (.inl (.inl e3))⟩
    · obtain ⟨s2, vs, eD, lv, pv⟩ := p2
      rw [lu, List.take_length] at pv
      refine ⟨D, vs, rfl, .inl ⟨.inl (.inl eD), fun pt npt => ⟨(by show 3 ≤ sizeLine; decide), fun p4 np4 => ?_⟩⟩⟩
      obtain ⟨s3, e3⟩ := new_at (.tup vs) npt
      obtain ⟨s4, e4⟩ := new_at (.tup [.int (x.fdiv 2), .int (y.fdiv 2), .ref pt]) np4
      exact q _ _ ((s2.trans s3).trans s4) ⟨p4, .ref pt, rfl, .inl (.inl e4), pt, vs, rfl, .inl (.inl (s4 _ _ e3)), Paired.mono pv fun _ _ => MoveAt.keep (Same.tk (s3.trans s4))⟩
end

/-- a window set aside, and turned about -/
def asM (r u : Int) (m : MV) : MV := (m.1 + r, m.2.1 + u, m.2.2)
def swM (m : MV) : MV := (m.2.1, m.1, m.2.2)
def asX (r u x y : Int) (t : Bool) : Int := if t then y + u else x + r
def asY (r u x y : Int) (t : Bool) : Int := if t then x + r else y + u
def asMs (r u : Int) (ms : List MV) (t : Bool) : List MV := if t then (ms.map (asM r u)).map swM else ms.map (asM r u)
def asP (r u : Int) (t : Bool) (p : RW × RW) : RW × RW := if t then (shft p.2 u, shft p.1 r) else (shft p.1 r, shft p.2 u)
theorem plc_as {r u x y : Int} {ms : List MV} (v : ∀ m ∈ ms, VMove m) (t : Bool) (s : Int) : plc (asX r u x y t) (asY r u x y t) (asMs r u ms t) s = asP r u t (plc x y ms s) := by
  have e := plc_aside r u ms x y s v
  have e' : plc (x + r) (y + u) (ms.map (asM r u)) s = (shft (plc x y ms s).1 r, shft (plc x y ms s).2 u) := e
  cases t with
  | false => exact e'
  | true =>
    show plc (y + u) (x + r) ((ms.map (asM r u)).map swM) s = _
    have e2 : plc (y + u) (x + r) ((ms.map (asM r u)).map swM) s = _ := plc_swap (ms.map (asM r u)) (x + r) (y + u) s
    rw [e2, e']
    rfl
theorem asP_inj {r u : Int} {t : Bool} {p q : RW × RW} (h : asP r u t p = asP r u t q) : p = q := by
  cases t with
  | false =>
    obtain ⟨h1, h2⟩ := Prod.mk.inj (show (shft p.1 r, shft p.2 u) = (shft q.1 r, shft q.2 u) from h)
    exact Prod.ext (shft_inj h1) (shft_inj h2)
  | true =>
    obtain ⟨h1, h2⟩ := Prod.mk.inj (show (shft p.2 u, shft p.1 r) = (shft q.2 u, shft q.1 r) from h)
    exact Prod.ext (shft_inj h2) (shft_inj h1)
theorem mtot_as {r u : Int} {t : Bool} (ms : List MV) : mtot (asMs r u ms t) = mtot ms := by
  unfold mtot asMs
  cases t with
  | false =>
    show ((ms.map (asM r u)).map (·.2.2)).sum = _
    rw [List.map_map]
    rfl
  | true =>
    show (((ms.map (asM r u)).map swM).map (·.2.2)).sum = _
    rw [List.map_map, List.map_map]
    rfl
section
variable {P : Program} {w : World} {K : PySem.W.Frag} {mg : Str → Option Value} {base : Heap}
def sp__law_aside (K : PySem.W.Frag) : Sp := fun vs H Q _ => ∃ (wv : V) (r u : Int) (t : Bool) (x y : Int) (ms : List MV), vs = [wv, .int r, .int u, .bl t] ∧ WinAt K H wv x y ms ∧ ms.length ≤ 8 ∧
  ∀ v H', Same H H' → WinAt K H' v (asX r u x y t) (asY r u x y t) (asMs r u ms t) → Q v H'
theorem ok__law_aside {f : Addr} {fd : FuncData} (F : Fun K "_law_aside" "_law_aside" s__law_aside f fd) (T : Txt K mg) : FnOk P w K mg base CX0 1 f fd ["_law_window_here", "_law_right", "_law_up", "_law_turned"] (sp__law_aside K) := by
  refine F.ok sc__law_aside (fun vs H Q E h => ?_) (fun cdv A outer s H vs Q E hr h => ?_)
  · obtain ⟨wv, r, u, t, x, y, ms, rfl, _⟩ := h
    rfl
  · obtain ⟨wv, r, u, t, x, y, ms, rfl, ⟨pw, mv, rfl, hw0, pm, us, rfl, hm0, pd⟩, l8, q⟩ := h
    refine ⟨_, (pss_cons (ps_asg (pv 0) (pg_tup (by rfl) (pgs_cons (pg_name (i := 4) sc__law_aside.nd rfl (Or.inl rfl)) (pgs_cons (pg_name (i := 5) sc__law_aside.nd rfl (Or.inl rfl)) (pgs_cons (pg_name (i := 6) sc__law_aside.nd rfl (Or.inl rfl)) pgs_nil)))))
      (pss_cons (ps_setLc (i := 7) (own := [("_law_goal", 8), ("_law_other", 9), ("_law_many", 10)]) (g := (gTup _ 3 (gCons (gName 8) (gCons (gName 9) (gCons (gName 10) gNil))))) (tt := tYes) (by rfl) sc__law_aside.nd rfl rfl (sw_true rfl rfl rfl (by decide +kernel)) (pi_tup (pv 6)) (blkOk_by (own := [("_law_goal", 8), ("_law_other", 9), ("_law_many", 10)]) (N := ["_law_window_here", "_law_right", "_law_up", "_law_turned", "_law_x", "_law_y", "_law_moves", "_law_rows", "_law_goal", "_law_other", "_law_many"]) (sc := defScope s__law_aside) (by decide +kernel)) (fun _ _ _ _ _ => (pg_tup (by rfl) (pgs_cons (pg_name (i := 8) sc__law_aside.nd rfl (Or.inl rfl)) (pgs_cons (pg_name (i := 9) sc__law_aside.nd rfl (Or.inl rfl)) (pgs_cons (pg_name (i := 10) sc__law_aside.nd rfl (Or.inl rfl)) pgs_nil))))) (fun _ _ _ _ _ => pts_nil) (fun _ _ _ _ _ => (pe_tup (pa_cons (pe_op op_add (pv 8) (pv 1)) (pa_cons (pe_op op_add (pv 9) (pv 2)) (pa_cons (pv 10) pa_nil))))))
      (pss_cons (ps_if (pt_val (pv 3)) (pss_one (ps_ret (pe_tup (pa_cons (pe_op op_add (pv 5) (pv 2)) (pa_cons (pe_op op_add (pv 4) (pv 1)) (pa_cons (pe_callTy call_tuple_of (by rfl) T.b_tuple (by decide +kernel) (pa_cons (pe_lc (own := [("_law_goal", 8), ("_law_other", 9), ("_law_many", 10)]) (g := (gTup _ 3 (gCons (gName 8) (gCons (gName 9) (gCons (gName 10) gNil))))) (tt := tYes) (by rfl) sc__law_aside.nd (pi_list (pv 7)) (blkOk_by (own := [("_law_goal", 8), ("_law_other", 9), ("_law_many", 10)]) (N := ["_law_window_here", "_law_right", "_law_up", "_law_turned", "_law_x", "_law_y", "_law_moves", "_law_rows", "_law_goal", "_law_other", "_law_many"]) (sc := defScope s__law_aside) (by decide +kernel)) (fun _ _ _ _ _ => (pg_tup (by rfl) (pgs_cons (pg_name (i := 8) sc__law_aside.nd rfl (Or.inl rfl)) (pgs_cons (pg_name (i := 9) sc__law_aside.nd rfl (Or.inl rfl)) (pgs_cons (pg_name (i := 10) sc__law_aside.nd rfl (Or.inl rfl)) pgs_nil))))) (fun _ _ _ _ _ => pts_nil) (fun _ _ _ _ _ => (pe_tup (pa_cons (pv 9) (pa_cons (pv 8) (pa_cons (pv 10) pa_nil)))))) pa_nil)) pa_nil)))))) pss_nil)
      (pss_one (ps_ret (pe_tup (pa_cons (pe_op op_add (pv 4) (pv 1)) (pa_cons (pe_op op_add (pv 5) (pv 2)) (pa_cons (pe_callTy call_tuple_of (by rfl) T.b_tuple (by decide +kernel) (pa_cons (pv 7) pa_nil)) pa_nil))))))))), ?_⟩
    have lu : us.length = ms.length := Paired.length pd
    refine ⟨_, rfl, pw, _, rfl, hw0, rfl, _, _, rfl, _, _, rfl, _, _, rfl, rfl, ?_⟩
    refine ⟨_, rfl, pm, rfl, ⟨_, hm0⟩, fun D nD => ?_⟩
    refine lc_tup (K := K) (a := pm) (xs := us) (fun j H' => Same H H' ∧ ∃ vs : List V, H' D = some (.lst vs) ∧ vs.length = j ∧ Paired (MoveAt K H') vs ((ms.take j).map (asM r u)))
      ⟨same_upd nD, [], upd_same, rfl, .nil⟩ (fun j H' _ z => Same.sqT z.1 hm0) (fun j u2 H2 hu p2 => ?_) (fun H2 p2 => ?_)
    · obtain ⟨s2, vs, eD, lv, pv⟩ := p2
      obtain ⟨m, hm, pu, rfl, hmu⟩ := Paired.at pd hu
      have hj : j < us.length := (List.getElem?_eq_some_iff.mp hu).1
      refine ⟨pu, _, rfl, Same.sqT s2 hmu, rfl, _, _, rfl, _, _, rfl, _, _, rfl, rfl, rfl, yes_ok ?_⟩
      refine ⟨_, rfl, _, rfl, _, _, rfl, rfl, _, rfl, _, rfl, _, _, rfl, rfl, _, rfl, (by show 3 ≤ sizeLine; decide), fun p3 np3 => ?_⟩
      obtain ⟨s3, e3⟩ := new_at (.tup [.int (m.1 + r), .int (m.2.1 + u), .int m.2.2]) np3
      generalize upd H2 p3 (.tup [.int (m.1 + r), .int (m.2.1 + u), .int m.2.2]) = H3 at s3 e3 ⊢
      have eD3 := s3 _ _ eD
      have k3 : TKeep K H3 (upd H3 D (.lst (vs ++ [.ref p3]))) := fun a xs h => tk_updL eD3 _ _ h
      refine ⟨vs, eD3, small1000 (by omega), fun b o e => ?_, vs ++ [.ref p3], upd_same, by rw [List.length_append, lv]; rfl, ?_⟩
      · rw [upd_ne (ne_of_none e nD)]
        exact s3 _ _ (s2 _ _ e)
      · rw [List.take_add_one, hm, List.map_append]
        exact Paired.snocP (Paired.mono pv fun _ _ h => (MoveAt.keep (Same.tk s3) h).keep k3) ⟨p3, rfl, k3 _ _ (.inl (.inl e3))⟩
    · obtain ⟨s2, vs, eD, lv, pv⟩ := p2
      rw [lu, List.take_length] at pv
      have lv' : vs.length = ms.length := by rw [lv, lu]
      refine ⟨_, rfl, t, rfl, ?_⟩
      cases t with
      | false =>
        refine iteF ⟨_, rfl, _, rfl, _, _, rfl, rfl, _, rfl, _, rfl, _, _, rfl, rfl, _, rfl, D, vs, rfl, .inl ⟨.inl (.inl eD), fun pt npt => ⟨(by show 3 ≤ sizeLine; decide), fun p4 np4 => ?_⟩⟩⟩
        obtain ⟨s3, e3⟩ := new_at (.tup vs) npt
        obtain ⟨s4, e4⟩ := new_at (.tup [.int (x + r), .int (y + u), .ref pt]) np4
        exact q _ _ ((s2.trans s3).trans s4) ⟨p4, .ref pt, rfl, .inl (.inl e4), pt, vs, rfl, .inl (.inl (s4 _ _ e3)), Paired.mono pv fun _ _ => MoveAt.keep (Same.tk (s3.trans s4))⟩
      | true =>
        refine iteT ⟨_, rfl, _, rfl, _, _, rfl, rfl, _, rfl, _, rfl, _, _, rfl, rfl, _, rfl, D, rfl, ⟨_, .inl (.inl eD)⟩, fun D2 nD2 => ?_⟩
        refine lc_list (K := K) (a := D) (xs := vs) (fun j H' => Same H2 H' ∧ ∃ zs : List V, H' D2 = some (.lst zs) ∧ zs.length = j ∧ Paired (MoveAt K H') zs (((ms.map (asM r u)).take j).map swM))
          ⟨same_upd nD2, [], upd_same, rfl, .nil⟩ (fun j H' _ z => .inl (.inl (z.1 _ _ eD))) (fun j u2 H3 hu p3 => ?_) (fun H3 p3 => ?_)
        · obtain ⟨s3, zs, eD3, lz, pz⟩ := p3
          obtain ⟨m, hm, pu, rfl, hmu⟩ := Paired.at pv hu
          have hj : j < vs.length := (List.getElem?_eq_some_iff.mp hu).1
          refine ⟨pu, _, rfl, Same.sqT s3 hmu, rfl, _, _, rfl, _, _, rfl, _, _, rfl, rfl, rfl, yes_ok ?_⟩
          refine ⟨_, rfl, _, rfl, _, rfl, (by show 3 ≤ sizeLine; decide), fun p4 np4 => ?_⟩
          obtain ⟨s4, e4⟩ := new_at (.tup [.int m.2.1, .int m.1, .int m.2.2]) np4
          generalize upd H3 p4 (.tup [.int m.2.1, .int m.1, .int m.2.2]) = H4 at s4 e4 ⊢
          have eD4 := s4 _ _ eD3
          have k4 : TKeep K H4 (upd H4 D2 (.lst (zs ++ [.ref p4]))) := fun a xs h => tk_updL eD4 _ _ h
          refine ⟨zs, eD4, small1000 (by omega), fun b o e => ?_, zs ++ [.ref p4], upd_same, by rw [List.length_append, lz]; rfl, ?_⟩
          · rw [upd_ne (ne_of_none e nD2)]
            exact s4 _ _ (s3 _ _ e)
          · rw [List.take_add_one, hm, List.map_append]
            exact Paired.snocP (Paired.mono pz fun _ _ h => (MoveAt.keep (Same.tk s4) h).keep k4) ⟨p4, rfl, k4 _ _ (.inl (.inl e4))⟩
        · obtain ⟨s3, zs, eD3, lz, pz⟩ := p3
          rw [show vs.length = (ms.map (asM r u)).length by rw [List.length_map]; exact lv', List.take_length] at pz
          refine ⟨D2, zs, rfl, .inl ⟨.inl (.inl eD3), fun pt npt => ⟨(by show 3 ≤ sizeLine; decide), fun p4 np4 => ?_⟩⟩⟩
          obtain ⟨s4, e4⟩ := new_at (.tup zs) npt
          obtain ⟨s5, e5⟩ := new_at (.tup [.int (y + u), .int (x + r), .ref pt]) np4
          exact q _ _ ((s2.trans s3).trans (s4.trans s5)) ⟨p4, .ref pt, rfl, .inl (.inl e5), pt, zs, rfl, .inl (.inl (s5 _ _ e4)), Paired.mono pz fun _ _ => MoveAt.keep (Same.tk (s4.trans s5))⟩
def sp__law_set (K : PySem.W.Frag) : Sp := fun vs H Q _ => ∃ (pv : V) (r u : Int) (t : Bool) (p : RW × RW), vs = [pv, .int r, .int u, .bl t] ∧ PlAt K H pv p ∧ -100 ≤ r ∧ r ≤ 100 ∧ -100 ≤ u ∧ u ≤ 100 ∧ ∀ v H', Same H H' → PlAt K H' v (asP r u t p) → Q v H'
theorem ok__law_set {f : Addr} {fd : FuncData} (F : Fun K "_law_set" "_law_set" s__law_set f fd) (T : Txt K mg) : FnOk P w K mg base CX0 1 f fd ["_law_place", "_law_right", "_law_up", "_law_turned"] (sp__law_set K) := by
  refine F.ok sc__law_set (fun vs H Q E h => ?_) (fun cdv A outer s H vs Q E hr h => ?_)
  · obtain ⟨pv, r, u, t, p, rfl, _⟩ := h
    rfl
  · obtain ⟨pv, r, u, t, p, rfl, ⟨a, v1, v2, rfl, h0, ⟨q1, rfl, h1⟩, ⟨q2, rfl, h2⟩⟩, r0, r1, u0, u1, q⟩ := h
    refine ⟨_, (pss_cons (ps_asg (pv 0) (pg_tup (by rfl) (pgs_cons (pg_tup (by rfl) (pgs_cons (pg_name (i := 4) sc__law_set.nd rfl (Or.inl rfl)) (pgs_cons (pg_name (i := 5) sc__law_set.nd rfl (Or.inl rfl)) pgs_nil))) (pgs_cons (pg_tup (by rfl) (pgs_cons (pg_name (i := 6) sc__law_set.nd rfl (Or.inl rfl)) (pgs_cons (pg_name (i := 7) sc__law_set.nd rfl (Or.inl rfl)) pgs_nil))) pgs_nil))))
      (pss_cons (ps_par (i := 8) (j := 9) (by rfl) sc__law_set.nd rfl rfl (by decide) rfl rfl (pa_cons (pe_tup (pa_cons (pe_op op_add (pv 4) (pe_op op_mul (pv 1) (pv 5))) (pa_cons (pv 5) pa_nil))) (pa_cons (pe_tup (pa_cons (pe_op op_add (pv 6) (pe_op op_mul (pv 2) (pv 7))) (pa_cons (pv 7) pa_nil))) pa_nil)) (by rfl))
      (pss_one (ps_ret (pe_ifExp (pt_val (pv 3)) (pe_tup (pa_cons (pv 9) (pa_cons (pv 8) pa_nil))) (pe_tup (pa_cons (pv 8) (pa_cons (pv 9) pa_nil)))))))), ?_⟩
    refine ⟨_, rfl, a, _, rfl, h0, rfl, _, _, rfl, q1, _, rfl, h1, rfl, _, _, rfl, _, _, rfl, rfl, _, _, rfl, q2, _, rfl, h2, rfl, _, _, rfl, _, _, rfl, rfl, rfl, ?_⟩
    refine ⟨_, rfl, _, rfl, _, rfl, _, _, rfl, rfl, .inl ⟨by omega, by omega⟩, _, _, rfl, rfl, _, rfl, (by show 2 ≤ sizeLine; decide), fun p3 np3 => ?_⟩
    obtain ⟨s3, e3⟩ := new_at (.tup [.int (p.1.1 + r * p.1.2), .int p.1.2]) np3
    generalize upd H p3 (.tup [.int (p.1.1 + r * p.1.2), .int p.1.2]) = H3 at s3 e3 ⊢
    refine ⟨_, rfl, _, rfl, _, rfl, _, _, rfl, rfl, .inl ⟨by omega, by omega⟩, _, _, rfl, rfl, _, rfl, (by show 2 ≤ sizeLine; decide), fun p4 np4 => ?_⟩
    obtain ⟨s4, e4⟩ := new_at (.tup [.int (p.2.1 + u * p.2.2), .int p.2.2]) np4
    generalize upd H3 p4 (.tup [.int (p.2.1 + u * p.2.2), .int p.2.2]) = H4 at s4 e4 ⊢
    refine ⟨_, _, rfl, ?_⟩
    cases t with
    | true =>
      refine ⟨_, rfl, _, rfl, iteT ⟨_, rfl, _, rfl, (by show 2 ≤ sizeLine; decide), fun p5 np5 => ?_⟩⟩
      obtain ⟨s5, e5⟩ := new_at (.tup [.ref p4, .ref p3]) np5
      exact q _ _ ((s3.trans s4).trans s5) ⟨p5, _, _, rfl, .inl (.inl e5), ⟨p4, rfl, .inl (.inl (s5 _ _ e4))⟩, ⟨p3, rfl, .inl (.inl (s5 _ _ (s4 _ _ e3)))⟩⟩
    | false =>
      refine ⟨_, rfl, _, rfl, iteF ⟨_, rfl, _, rfl, (by show 2 ≤ sizeLine; decide), fun p5 np5 => ?_⟩⟩
      obtain ⟨s5, e5⟩ := new_at (.tup [.ref p3, .ref p4]) np5
      exact q _ _ ((s3.trans s4).trans s5) ⟨p5, _, _, rfl, .inl (.inl e5), ⟨p3, rfl, .inl (.inl (s5 _ _ (s4 _ _ e3)))⟩, ⟨p4, rfl, .inl (.inl (s5 _ _ e4))⟩⟩
end

def rLenS (K : PySem.W.Frag) : List V → Hp → VK → Prop := fun xs H Q => ∃ p ys, xs = [V.ref p] ∧ (SqL K H p ys ∨ SqT K H p ys) ∧ Q (V.int ys.length) H
section
variable {X : Cx}
/-- a built-in's method inside a comprehension: the written part told by its letter -/
theorem pe_bmL {K : PySem.W.Frag} {T : String} {name : Str} {id : String} {r : V → List V → Hp → VK → Prop} {o e : Expr} {es : List Expr} {to : TE} {t : TA} {apos cpos : Pos} (pa : PlainAttrs T) (slot : Slot T name id) (hty : typeOf (.builtin id) = pure (.type "method_descriptor")) (hm : MtR X id r) (ho : PE X o to) (ha : PA X (e :: es) t) (hK : X.K = K := by rfl)
    (hbase : attributeBase o name X.env (eval o X.env) = eval o X.env := by rfl)
    (hfew : ((backTo cpos (starEach (e :: es) X.env)).all (fun x => !x.1) && (backToKw cpos (keywordEach [] X.env)).all (fun x => x.1.isSome) && decide ((e :: es).length + ([] : List Keyword).length + (if ([] : List Keyword).isEmpty then 0 else 1) < 30)) = true := by rfl)
    (hline : (apos.endLine == cpos.line) = true := by rfl) (hs : starEach (e :: es) X.env = (false, eval e X.env) :: starEach es X.env := by rfl)
    (hplain : (backTo cpos (starEach es X.env)).any (·.1) = false := by rfl) : PE X (.Call (.Attribute o name apos) (e :: es) [] cpos) (tBM K T r to t) := by
  subst hK
  exact pe_bm pa slot hty hm ho ha hbase hfew hline hs hplain
end

theorem erase_map {α β : Type} (f : α → β) : ∀ (l : List α) (k : Nat), (l.map f).eraseIdx k = (l.eraseIdx k).map f
  | [], _ => rfl
  | _ :: _, 0 => rfl
  | a :: t, k + 1 => by
    show f a :: (t.map f).eraseIdx k = f a :: (t.eraseIdx k).map f
    rw [erase_map f t k]
theorem erase_perm {α : Type} : ∀ (l : List α) (k : Nat) (h : k < l.length), (l[k] :: l.eraseIdx k).Perm l
  | a :: t, 0, _ => List.Perm.refl _
  | a :: t, k + 1, h => by
    have hk : k < t.length := Nat.lt_of_succ_lt_succ h
    show (t[k] :: a :: t.eraseIdx k).Perm (a :: t)
    exact (List.Perm.swap a t[k] _).trans (List.Perm.cons a (erase_perm t k hk))
section
variable {P : Program} {w : World} {K : PySem.W.Frag} {mg : Str → Option Value} {base : Heap}
/-- each number below n once -/
def sp__law_mixed (K : PySem.W.Frag) : Sp := fun vs H Q _ => ∃ (st : Addr) (n : Nat), vs = [.ref st, .int (n : Int)] ∧ IsSt H st ∧ n ≤ 9 ∧
  ∀ (D : Addr) (ns : List Nat) (H' : Hp), Gr st H H' → H D = none → H' D = some (.lst (ns.map fun k : Nat => V.int (k : Int))) → ns.Perm (List.range n) → Q (.ref D) H'
theorem ok__law_mixed {f : Addr} {fd : FuncData} (F : Fun K "_law_mixed" "_law_mixed" s__law_mixed f fd) (T : Txt K mg) (D__law_take : Cl P w K mg base 1 "_law_take" ["_law_state_here", "_law_many"] (sp__law_take K)) : FnOk P w K mg base CX0 2 f fd ["_law_state_here", "_law_many"] (sp__law_mixed K) := by
  refine F.ok sc__law_mixed (fun vs H Q E h => ?_) (fun cdv A outer s H vs Q E hr h => ?_)
  · obtain ⟨st, n, rfl, _⟩ := h
    rfl
  · obtain ⟨st, n, rfl, hs, n9, q⟩ := h
    refine ⟨_, (pss_cons (ps_set (i := 2) sc__law_mixed.nd rfl (Or.inr rfl) (pe_listRg (by rfl) (by rfl) T.b_list (prg_1 (by rfl) T.b_range (pv 1))))
      (pss_one (ps_ret (pe_lc (own := [("_law_turn", 3)]) (g := (gName 3)) (tt := tYes) (by rfl) sc__law_mixed.nd (pi_range1 (by rfl) T.b_range (pa_cons (pv 1) pa_nil)) (blkOk_by (own := [("_law_turn", 3)]) (N := ["_law_state_here", "_law_many", "_law_left", "_law_turn"]) (sc := defScope s__law_mixed) (by decide +kernel)) (fun _ _ _ _ _ => (pg_name (i := 3) sc__law_mixed.nd rfl (Or.inl rfl))) (fun _ _ _ _ _ => pts_nil) (fun _ _ _ _ _ => (pe_bmL (K := K) (r := rPopAt) PySem.F.plainAttrs_list PySem.F.slot_list_pop PySem.F.type_list_pop mt_popAt (pv 2) (pa_cons (pe_own D__law_take (hr.mono (by omega)) (by rfl) (pa_cons (pv 0) (pa_cons (pe_callB (r := rLenS K) call_len_seq (by rfl) T.b_len (by decide +kernel) (pa_cons (pv 2) pa_nil)) pa_nil))) pa_nil))))))), ?_⟩
    refine ⟨_, rfl, (n : Int), rfl, ?_, fun L nL => ?_⟩
    · constructor <;> omega
    have nLs := st_ne hs nL
    obtain ⟨s1, e1⟩ := new_at (.lst (rgV 0 (n : Int))) nL
    generalize upd H L (.lst (rgV 0 (n : Int))) = H1 at s1 e1 ⊢
    have g1 := gr_same (st := st) s1
    have hs1 := g1.2 hs
    have er : rgV 0 (n : Int) = (List.range n).map fun k : Nat => V.int (k : Int) := by
      unfold rgV
      simp
    rw [er] at e1
    refine ⟨_, rfl, (n : Int), rfl, by omega, by omega, fun D nD => ?_⟩
    have nDs := st_ne hs1 nD
    have nDL : D ≠ L := fun e => by rw [e, e1] at nD; cases nD
    refine lc_range (lo := 0) (n := ((n : Int)).toNat) (fun i H' => Gr st H H' ∧ ∃ (acc lf : List Nat), H' D = some (.lst (acc.map fun k : Nat => V.int (k : Int))) ∧ H' L = some (.lst (lf.map fun k : Nat => V.int (k : Int))) ∧ acc.length = i ∧ (acc ++ lf).Perm (List.range n))
      ⟨gr_same (s1.trans (same_upd nD)), [], List.range n, upd_same, by rw [upd_ne (Ne.symm nDL)]; exact e1, rfl, List.Perm.refl _⟩ (fun i H2 hi p2 => ?_) (fun H2 p2 => ?_)
    · obtain ⟨g2, acc, lf, eD, eL, la, pm⟩ := p2
      have hs2 := g2.2 hs
      have ll : acc.length + lf.length = n := by
        have := pm.length_eq
        rw [List.length_append, List.length_range] at this
        exact this
      refine ⟨rfl, yes_ok ⟨_, rfl, .inl ⟨rfl, _, .inl (.inl eL)⟩, _, rfl, _, rfl, L, _, rfl, .inl (.inl (.inl eL)), st, _, rfl, hs2, by rw [List.length_map]; omega, by rw [List.length_map]; omega, fun r3 H3 a3 b3 g3 => ?_⟩⟩
      rw [List.length_map] at b3
      obtain ⟨k, rfl⟩ : ∃ k : Nat, r3 = (k : Int) := ⟨r3.toNat, by omega⟩
      have hk : k < lf.length := by omega
      have eL3 := g3.1 _ _ nLs eL
      have eD3 := g3.1 _ _ nDs eD
      refine ⟨L, _, (k : Int), k, V.int ((lf[k] : Nat) : Int), rfl, rfl, eL3, by omega, by omega, ?_, ?_, ?_⟩
      · rw [List.length_map]
        unfold seqIndex?
        simp
        omega
      · rw [List.getElem?_map, List.getElem?_eq_getElem hk]
        rfl
      refine ⟨acc.map fun k : Nat => V.int (k : Int), by rw [upd_ne nDL]; exact eD3, small1000 (by rw [List.length_map]; omega), gr_upd (gr_upd (g2.trans g3) nL nLs) ?_ nDs, acc ++ [lf[k]], lf.eraseIdx k, ?_, ?_, ?_, ?_⟩
      · exact s1.free nD
      · rw [upd_same, List.map_append]
        rfl
      · rw [upd_ne (Ne.symm nDL), upd_same, erase_map]
      · rw [List.length_append, la]
        rfl
      · rw [List.append_assoc]
        exact ((List.Perm.append_left acc (erase_perm lf k hk))).trans pm
    obtain ⟨g2, acc, lf, eD, eL, la, pm⟩ := p2
    have l0 : lf = [] := by
      have := pm.length_eq
      rw [List.length_append, List.length_range, la] at this
      exact List.eq_nil_of_length_eq_zero (by omega)
    subst l0
    rw [List.append_nil] at pm
    exact q D acc H2 g2 (s1.free nD) eD pm
end

/-! ### names and orders -/
theorem walk_rng : ∀ (rs : List RW) (m : Int), (∀ r ∈ rs, VRow r) → 0 ≤ walk rs m ∧ walk rs m ≤ 9
  | [], _, _ => ⟨Int.le_refl _, by show (0 : Int) ≤ 9; decide⟩
  | r :: t, m, v => by
    rw [walk_cons]
    split
    · exact ⟨(v r (List.mem_cons_self ..)).1, (v r (List.mem_cons_self ..)).2.1⟩
    · exact walk_rng t _ fun q hq => v q (List.mem_cons_of_mem _ hq)
theorem shown_rng {rs : List RW} {bk : Option Int} (v : VRows rs) (m : Int) : 0 ≤ shown rs bk m ∧ shown rs bk m ≤ 9 := walk_rng rs _ v.2
structure NF (ns : List Int) : Prop where
  ln : ns.length = 10
  z : nmF ns 0 = 0
  rg : ∀ d, 0 ≤ d → d ≤ 9 → 0 ≤ nmF ns d ∧ nmF ns d ≤ 9
  inj : ∀ d e, 0 ≤ d → d ≤ 9 → 0 ≤ e → e ≤ 9 → nmF ns d = nmF ns e → d = e
theorem nf_of {qs : List Nat} (h : qs.Perm (List.range 9)) : NF (0 :: qs.map fun k : Nat => (k : Int) + 1) := by
  have hl : qs.length = 9 := by rw [h.length_eq, List.length_range]
  have hn : (0 :: qs.map fun k : Nat => (k : Int) + 1).Nodup := by
    refine List.nodup_cons.mpr ⟨fun z => ?_, ?_⟩
    · obtain ⟨k, _, e⟩ := List.mem_map.mp z
      omega
    · have h1 : qs.Nodup := h.nodup_iff.mpr List.nodup_range
      exact List.pairwise_map.mpr (h1.imp fun ne e => ne (by omega))
  have hl' : (0 :: qs.map fun k : Nat => (k : Int) + 1).length = 10 := by rw [List.length_cons, List.length_map, hl]
  have at' : ∀ d : Int, 0 ≤ d → d ≤ 9 → (0 :: qs.map fun k : Nat => (k : Int) + 1)[d.toNat]? = some (nmF (0 :: qs.map fun k : Nat => (k : Int) + 1) d) := fun d h0 h1 => by
    unfold nmF
    rw [List.getD_eq_getElem?_getD, List.getElem?_eq_getElem (by omega)]
    rfl
  refine ⟨hl', rfl, fun d h0 h1 => ?_, fun d e h0 h1 h2 h3 z => ?_⟩
  · rcases List.mem_cons.mp (List.mem_of_getElem? (at' d h0 h1)) with z | z
    · rw [z]
      exact ⟨Int.le_refl _, by decide⟩
    · obtain ⟨k, hk, ek⟩ := List.mem_map.mp z
      have := List.mem_range.mp (h.mem_iff.mp hk)
      rw [← ek]
      constructor <;> omega
  · have e1 := at' d h0 h1
    have e2 := at' e h2 h3
    rw [z, ← e2] at e1
    have := (List.getElem?_inj (by omega) hn).mp e1
    omega
def pk {α : Type} (d : α) (xs : List α) (os : List Nat) : List α := os.map fun k => xs.getD k d
theorem pk_at {α : Type} {d : α} {xs : List α} {k : Nat} (h : k < xs.length) : xs[k]? = some (xs.getD k d) := by
  rw [List.getD_eq_getElem?_getD, List.getElem?_eq_getElem h]
  rfl
theorem pk_pair {α β : Type} {F : α → β → Prop} {us : List α} {ls : List β} (d : α) (d' : β) (p : Paired F us ls) : ∀ {os : List Nat}, (∀ k ∈ os, k < ls.length) → Paired F (pk d us os) (pk d' ls os)
  | [], _ => .nil
  | k :: t, h => by
    have hl : us.length = ls.length := Paired.length p
    have hk := h k (List.mem_cons_self ..)
    obtain ⟨y, hy, f⟩ := Paired.at p (pk_at (d := d) (show k < us.length by omega))
    rw [pk_at (d := d') hk] at hy
    cases hy
    exact .cons f (pk_pair d d' p fun q hq => h q (List.mem_cons_of_mem _ hq))
theorem pk_lt {os : List Nat} {n : Nat} (h : os.Perm (List.range n)) : ∀ k ∈ os, k < n := fun k hk => List.mem_range.mp (h.mem_iff.mp hk)
theorem pk_mem1 {α : Type} {d : α} {ls : List α} {os : List Nat} (h : os.Perm (List.range ls.length)) {l : α} (hl : l ∈ ls) : l ∈ pk d ls os := by
  obtain ⟨i, hi⟩ := List.mem_iff_getElem?.mp hl
  have lt : i < ls.length := (List.getElem?_eq_some_iff.mp hi).1
  rw [pk_at (d := d) lt] at hi
  exact List.mem_map.mpr ⟨i, h.mem_iff.mpr (List.mem_range.mpr lt), Option.some.inj hi⟩
theorem pk_mem2 {α : Type} {d : α} {ls : List α} {os : List Nat} (h : os.Perm (List.range ls.length)) {l : α} (hl : l ∈ pk d ls os) : l ∈ ls := by
  obtain ⟨k, hk, rfl⟩ := List.mem_map.mp hl
  exact List.mem_of_getElem? (pk_at (pk_lt h k hk))
theorem pk_len {α : Type} {d : α} {ls : List α} {os : List Nat} (h : os.Perm (List.range ls.length)) : (pk d ls os).length = ls.length := by
  unfold pk
  rw [List.length_map, h.length_eq, List.length_range]
/-- the layers in another order, named otherwise -/
def oth (ns : List Int) (ls : List LY) (os : List Nat) : List LY := (pk ([], none) ls os).map (nmL ns)
theorem oth_shown {ns : List Int} (nf : NF ns) (l : LY) (m : Int) : shown (nmL ns l).1 (nmL ns l).2 m = nmF ns (shown l.1 l.2 m) := shown_named (nmF ns) nf.z l.1 l.2 m
theorem nmL_v {ns : List Int} (nf : NF ns) {l : LY} (v : VLy l) : VLy (nmL ns l) := by
  refine ⟨⟨?_, fun r hr => ?_⟩, fun i hi => ?_⟩
  · show (l.1.map (nmR ns)).length ≤ 8
    rw [List.length_map]
    exact v.1.1
  · obtain ⟨q, hq, rfl⟩ := List.mem_map.mp hr
    have vq := v.1.2 q hq
    have := nf.rg q.1 vq.1 vq.2.1
    exact ⟨this.1, this.2, vq.2.2.1, vq.2.2.2⟩
  · have := v.2 i hi
    show 0 ≤ i ∧ i < ((l.1.map (nmR ns)).length : Int)
    rw [List.length_map]
    exact this
theorem oth_v {ns : List Int} {ls : List LY} {os : List Nat} (nf : NF ns) (h : os.Perm (List.range ls.length)) (v : VLays ls) : VLays (oth ns ls os) := by
  have e : (oth ns ls os).length = ls.length := by
    unfold oth
    rw [List.length_map, pk_len h]
  refine ⟨by rw [e]; exact v.1, by rw [e]; exact v.2.1, fun l hl => ?_⟩
  obtain ⟨q, hq, rfl⟩ := List.mem_map.mp hl
  exact nmL_v nf (v.2.2 q (pk_mem2 h hq))
theorem kin_nm {ns : List Int} (nf : NF ns) {l : LY} (v : VLy l) : Kin (shN l.1 l.2) (shN (nmL ns l).1 (nmL ns l).2) :=
  kin_named (nmF ns) nf.z fun s t e => nf.inj _ _ (shown_rng v.1 _).1 (shown_rng v.1 _).2 (shown_rng v.1 _).1 (shown_rng v.1 _).2 e
theorem oth_round {ns : List Int} {ls : List LY} {os : List Nat} (nf : NF ns) (h : os.Perm (List.range ls.length)) (v : VLays ls) {x y r u : Int} {t : Bool} {ms : List MV} (vm : ∀ m ∈ ms, VMove m) {a m a' m' : Nat}
    (h1 : ShR ls x y ms a m) (h2 : ShR (oth ns ls os) (asX r u x y t) (asY r u x y t) (asMs r u ms t) a' m') : a' = a ∧ m' = m := by
  refine h2.uniq (h1.kin (fun l hl => ⟨nmL ns l, List.mem_map.mpr ⟨l, pk_mem1 h hl, rfl⟩, kin_nm nf (v.2.2 l hl)⟩) (fun k hk => ?_) (fun s t' => ?_))
  · obtain ⟨l, hl, rfl⟩ := List.mem_map.mp hk
    have hl := pk_mem2 h hl
    exact ⟨l, hl, kin_nm nf (v.2.2 l hl)⟩
  · unfold plN
    rw [plc_as vm, plc_as vm]
    exact ⟨fun e => congrArg _ e, asP_inj⟩
theorem lenL_nm (ns : List Int) (l : LY) : lenL (nmL ns l) = lenL l ∧ tot (nmL ns l).1 = tot l.1 := by
  have e : tot (nmL ns l).1 = tot l.1 := tot_named (nmF ns) l.1
  refine ⟨?_, e⟩
  unfold lenL
  rw [e]
  rfl
theorem oth_len {ns : List Int} {ls : List LY} {os : List Nat} (h : os.Perm (List.range ls.length)) {r u : Int} {t : Bool} {ms : List MV} {p q : Option Int}
    (h1 : ShLen ls (mtot ms) p) (h2 : ShLen (oth ns ls os) (mtot (asMs r u ms t)) q) : q = p := by
  rw [mtot_as] at h2
  refine h2.uniq (h1.kin (fun l hl => ⟨nmL ns l, List.mem_map.mpr ⟨l, pk_mem1 h hl, rfl⟩, lenL_nm ns l⟩) (fun k hk => ?_))
  obtain ⟨l, hl, rfl⟩ := List.mem_map.mp hk
  exact ⟨l, pk_mem2 h hl, lenL_nm ns l⟩
theorem oth_pic {ns : List Int} {ls : List LY} {os : List Nat} (nf : NF ns) (h : os.Perm (List.range ls.length)) {x y r u : Int} {t : Bool} {ms : List MV} (vm : ∀ m ∈ ms, VMove m) (m : Int) :
    pic (oth ns ls os) (asX r u x y t) (asY r u x y t) (asMs r u ms t) m = (os.map fun k => nmF ns ((pic ls x y ms m).1.getD k 0), asP r u t (pic ls x y ms m).2) := by
  refine Prod.ext ?_ (plc_as vm t m)
  show (oth ns ls os).map (fun l => shown l.1 l.2 m) = os.map fun k => nmF ns ((ls.map fun l => shown l.1 l.2 m).getD k 0)
  unfold oth pk
  rw [List.map_map, List.map_map]
  refine List.map_congr_left fun k hk => ?_
  have lt := pk_lt h k hk
  show shown (nmL ns (ls.getD k ([], none))).1 (nmL ns (ls.getD k ([], none))).2 m = _
  rw [oth_shown nf, List.getD_eq_getElem?_getD, List.getD_eq_getElem?_getD, List.getElem?_map, List.getElem?_eq_getElem lt]
  rfl
theorem oth_part {ns : List Int} {ls : List LY} {os : List Nat} {x y y2 r u : Int} {t : Bool} {ms : List MV} (vm : ∀ m ∈ ms, VMove m) {p q : Option Nat}
    (h1 : Prt (pcN ls x y ms) (pcN ls x y2 ms) p) (h2 : Prt (pcN (oth ns ls os) (asX r u x y t) (asY r u x y t) (asMs r u ms t)) (pcN (oth ns ls os) (asX r u x y2 t) (asY r u x y2 t) (asMs r u ms t)) q) : p = q := by
  refine (prt_win.mp h1).uniq ((prt_win.mp h2).like fun s => ?_)
  unfold plN
  rw [plc_as vm, plc_as vm]
  exact ⟨asP_inj, fun e => congrArg _ e⟩
/-- a window that lies well within -/
def VW10 (x y : Int) (ms : List MV) : Prop := (-10 ≤ x ∧ x ≤ 10) ∧ (-10 ≤ y ∧ y ≤ 10) ∧ ms.length ≤ 8 ∧ ∀ m ∈ ms, (-10 ≤ m.1 ∧ m.1 ≤ 10) ∧ (-10 ≤ m.2.1 ∧ m.2.1 ≤ 10) ∧ 0 ≤ m.2.2 ∧ m.2.2 ≤ 24
theorem hlf_b {x : Int} (h0 : -20 ≤ x) (h1 : x ≤ 20) : -10 ≤ x.fdiv 2 ∧ x.fdiv 2 ≤ 10 := by
  rw [Int.fdiv_eq_ediv_of_nonneg _ (by decide)]
  omega
theorem vw10_of {x y : Int} {ms : List MV} (v : VWin x y ms) : VW10 (x.fdiv 2) (y.fdiv 2) (ms.map hlf) := by
  obtain ⟨⟨a, b⟩, ⟨c, d⟩, l, h⟩ := v
  refine ⟨hlf_b a b, hlf_b c d, by rw [List.length_map]; exact l, fun m hm => ?_⟩
  obtain ⟨n, hn, rfl⟩ := List.mem_map.mp hm
  obtain ⟨⟨a, b⟩, ⟨c, d⟩, e⟩ := h n hn
  exact ⟨hlf_b a b, hlf_b c d, e⟩
theorem VW10.vm {x y : Int} {ms : List MV} (v : VW10 x y ms) : ∀ m ∈ ms, VMove m := fun m hm => by
  obtain ⟨⟨a, b⟩, ⟨c, d⟩, e⟩ := v.2.2.2 m hm
  exact ⟨⟨by omega, by omega⟩, ⟨by omega, by omega⟩, e⟩
theorem VW10.win {x y : Int} {ms : List MV} (v : VW10 x y ms) : VWin x y ms := ⟨by have := v.1; omega, by have := v.2.1; omega, v.2.2.1, v.vm⟩
theorem VW10.bent {x y : Int} {ms : List MV} (v : VW10 x y ms) : VWin x (y + 1) ms := ⟨by have := v.1; omega, by have := v.2.1; omega, v.2.2.1, v.vm⟩
theorem as_win {x y r u : Int} {ms : List MV} (v : VW10 x y ms) (r0 : -9 ≤ r) (r1 : r ≤ 9) (u0 : -9 ≤ u) (u1 : u ≤ 9) (t : Bool) {e : Int} (e0 : 0 ≤ e) (e1 : e ≤ 1) : VWin (asX r u x (y + e) t) (asY r u x (y + e) t) (asMs r u ms t) := by
  obtain ⟨⟨a, b⟩, ⟨c, d⟩, l, h⟩ := v
  have hv : ∀ m ∈ ms.map (asM r u), VMove m := fun m hm => by
    obtain ⟨n, hn, rfl⟩ := List.mem_map.mp hm
    obtain ⟨⟨a, b⟩, ⟨c, d⟩, f⟩ := h n hn
    exact ⟨⟨by show -20 ≤ n.1 + r; omega, by show n.1 + r ≤ 20; omega⟩, ⟨by show -20 ≤ n.2.1 + u; omega, by show n.2.1 + u ≤ 20; omega⟩, f⟩
  cases t with
  | false => exact ⟨⟨by show -20 ≤ x + r; omega, by show x + r ≤ 20; omega⟩, ⟨by show -20 ≤ y + e + u; omega, by show y + e + u ≤ 20; omega⟩, by show (ms.map (asM r u)).length ≤ 8; rw [List.length_map]; exact l, hv⟩
  | true =>
    refine ⟨⟨by show -20 ≤ y + e + u; omega, by show y + e + u ≤ 20; omega⟩, ⟨by show -20 ≤ x + r; omega, by show x + r ≤ 20; omega⟩, by show ((ms.map (asM r u)).map swM).length ≤ 8; rw [List.length_map, List.length_map]; exact l, fun m hm => ?_⟩
    obtain ⟨n, hn, rfl⟩ := List.mem_map.mp hm
    obtain ⟨a, b, c⟩ := hv n hn
    exact ⟨b, a, c⟩
theorem as_win0 {x y r u : Int} {ms : List MV} (v : VW10 x y ms) (r0 : -9 ≤ r) (r1 : r ≤ 9) (u0 : -9 ≤ u) (u1 : u ≤ 9) (t : Bool) : VWin (asX r u x y t) (asY r u x y t) (asMs r u ms t) := by
  have := as_win v r0 r1 u0 u1 t (e := 0) (by decide) (by decide)
  rw [Int.add_zero] at this
  exact this
theorem mem6 {α : Type} {a b c d f g e : α} (h : e ∈ [a, b, c, d, f, g]) : e = a ∨ e = b ∨ e = c ∨ e = d ∨ e = f ∨ e = g := by
  simpa using h

section
variable {P : Program} {w : World} {K : PySem.W.Frag} {mg : Str → Option Value} {base : Heap}
def sp_law (K : PySem.W.Frag) : Sp := fun vs H Q _ => ∃ (a : Addr) (ns : List Int), vs = [.ref a] ∧ SqL K H a (ns.map V.int) ∧ ns.length ≤ 63 ∧ ∀ H', Q (.bl true) H'
theorem ok_law {f : Addr} {fd : FuncData} (F : Fun K "law" "law" s_law f fd) (T : Txt K mg) (D__law_state : Cl P w K mg base 2 "_law_state" ["_law_script", "_law_k"] (sp__law_state K)) (D__law_sheet : Cl P w K mg base 4 "_law_sheet" ["_law_state_here"] (sp__law_sheet K)) (D__law_take : Cl P w K mg base 1 "_law_take" ["_law_state_here", "_law_many"] (sp__law_take K)) (D__law_turning : Cl P w K mg base 2 "_law_turning" ["_law_state_here"] (sp__law_turning K)) (D__law_halved : Cl P w K mg base 1 "_law_halved" ["_law_window_here"] (sp__law_halved K)) (D__law_mixed : Cl P w K mg base 2 "_law_mixed" ["_law_state_here", "_law_many"] (sp__law_mixed K)) (D__law_named : Cl P w K mg base 1 "_law_named" ["_law_sheet_here", "_law_names"] (sp__law_named K)) (D__law_aside : Cl P w K mg base 1 "_law_aside" ["_law_window_here", "_law_right", "_law_up", "_law_turned"] (sp__law_aside K)) (D_sheet_length : Cl P w K mg base 8 "sheet_length" ["sheet"] (sp_sheet_length K)) (D_sheet_round : Cl P w K mg base 8 "sheet_round" ["sheet"] (sp_sheet_round K)) (D_picture_at : Cl P w K mg base 8 "picture_at" ["sheet", "moment"] (sp_picture_at K)) (D__law_set : Cl P w K mg base 1 "_law_set" ["_law_place", "_law_right", "_law_up", "_law_turned"] (sp__law_set K)) (D_parting : Cl P w K mg base 8 "parting" ["one", "other"] (sp_parting K)) : FnOk P w K mg base CX0 9 f fd ["_law_script"] (sp_law K) := by
  refine F.ok sc_law (fun vs H Q E h => ?_) (fun cdv A outer s H vs Q E hr h => ?_)
  · obtain ⟨a, ns, rfl, _⟩ := h
    rfl
  · obtain ⟨a, ns, rfl, hS, hlen, q⟩ := h
    refine ⟨_, (pss_cons (ps_for PassesOwn.never rfl (pi_range1 (by rfl) T.b_range (pa_cons (pe_callB (call_max2 rfl) (by rfl) T.b_max (by decide +kernel) (pa_cons pe_int (pa_cons (pe_callB (call_min2 rfl) (by rfl) T.b_min (by decide +kernel) (pa_cons (pe_callB call_len_seq (by rfl) T.b_len (by decide +kernel) (pa_cons (pv 0) pa_nil)) (pa_cons pe_int pa_nil))) pa_nil))) pa_nil)) (pg_name (i := 1) sc_law.nd rfl (Or.inl rfl))
        (pss_cons (ps_set (i := 2) sc_law.nd rfl (Or.inr rfl) (pe_own D__law_state (hr.mono (by omega)) (by rfl) (pa_cons (pv 0) (pa_cons (pv 1) pa_nil))))
      (pss_cons (ps_asg (pe_own D__law_sheet (hr.mono (by omega)) (by rfl) (pa_cons (pv 2) pa_nil)) (pg_tup (by rfl) (pgs_cons (pg_name (i := 3) sc_law.nd rfl (Or.inr rfl)) (pgs_cons (pg_name (i := 4) sc_law.nd rfl (Or.inl rfl)) pgs_nil))))
      (C8.pss_cut (ps_if (pt_cmpR op_eq (pe_own D__law_take (hr.mono (by omega)) (by rfl) (pa_cons (pv 2) (pa_cons pe_int pa_nil))) pe_int (nomark _)) (pss_one (ps_set (i := 3) sc_law.nd rfl (Or.inr rfl) (pe_callTy call_tuple_of (by rfl) T.b_tuple (by decide +kernel) (pa_cons (pe_lc (own := [("_law_layer_here", 17)]) (g := (gName 17)) (tt := tYes) (by rfl) sc_law.nd (pi_tup (pv 3)) (blkOk_by (own := [("_law_layer_here", 17)]) (N := ["_law_script", "_law_k", "_law_state_here", "_law_layers", "_law_window_here", "_law_one", "_law_names", "_law_order", "_law_right", "_law_up", "_law_turned", "_law_other", "_law_moment", "_law_drawings", "_law_place", "_law_due", "_law_bent", "_law_layer_here", "_law_name", "_law_at"]) (sc := defScope s_law) (by decide +kernel)) (fun _ _ _ _ _ => (pg_name (i := 17) sc_law.nd rfl (Or.inl rfl))) (fun _ _ _ _ _ => pts_nil) (fun _ _ _ _ _ => (pe_own D__law_turning (hr.mono (by omega)) (by rfl) (pa_cons (pv 2) pa_nil)))) pa_nil)))) pss_nil)
      (pss_cons (ps_set (i := 5) sc_law.nd rfl (Or.inl rfl) (pe_tup (pa_cons (pv 3) (pa_cons (pe_own D__law_halved (hr.mono (by omega)) (by rfl) (pa_cons (pv 4) pa_nil)) pa_nil))))
      (pss_cons (ps_asg (pe_tup (pa_cons (pe_op op_cat (pe_lst (pa_cons pe_int pa_nil)) (pe_lc (own := [("_law_name", 18)]) (g := (gName 18)) (tt := tYes) (by rfl) sc_law.nd (pi_list (pe_own D__law_mixed (hr.mono (by omega)) (by rfl) (pa_cons (pv 2) (pa_cons pe_int pa_nil)))) (blkOk_by (own := [("_law_name", 18)]) (N := ["_law_script", "_law_k", "_law_state_here", "_law_layers", "_law_window_here", "_law_one", "_law_names", "_law_order", "_law_right", "_law_up", "_law_turned", "_law_other", "_law_moment", "_law_drawings", "_law_place", "_law_due", "_law_bent", "_law_layer_here", "_law_name", "_law_at"]) (sc := defScope s_law) (by decide +kernel)) (fun _ _ _ _ _ => (pg_name (i := 18) sc_law.nd rfl (Or.inl rfl))) (fun _ _ _ _ _ => pts_nil) (fun _ _ _ _ _ => (pe_op op_add (pv 18) pe_int)))) (pa_cons (pe_own D__law_mixed (hr.mono (by omega)) (by rfl) (pa_cons (pv 2) (pa_cons (pe_callB call_len_seq (by rfl) T.b_len (by decide +kernel) (pa_cons (pv 3) pa_nil)) pa_nil))) pa_nil))) (pg_tup (by rfl) (pgs_cons (pg_name (i := 6) sc_law.nd rfl (Or.inr rfl)) (pgs_cons (pg_name (i := 7) sc_law.nd rfl (Or.inl rfl)) pgs_nil))))
      (pss_cons (ps_par3 (i := 8) (j := 9) (l := 10) (by rfl) sc_law.nd rfl rfl rfl (by decide) (by decide) (by decide) rfl rfl rfl (pa_cons (pe_op op_sub (pe_own D__law_take (hr.mono (by omega)) (by rfl) (pa_cons (pv 2) (pa_cons pe_int pa_nil))) pe_int) (pa_cons (pe_op op_sub (pe_own D__law_take (hr.mono (by omega)) (by rfl) (pa_cons (pv 2) (pa_cons pe_int pa_nil))) pe_int) (pa_cons (pe_cmpR op_eq (pe_own D__law_take (hr.mono (by omega)) (by rfl) (pa_cons (pv 2) (pa_cons pe_int pa_nil))) pe_int (nomark _)) pa_nil))) (by rfl))
      (pss_cons (ps_set (i := 11) sc_law.nd rfl (Or.inl rfl) (pe_own D__law_named (hr.mono (by omega)) (by rfl) (pa_cons (pe_tup (pa_cons (pe_callTy call_tuple_of (by rfl) T.b_tuple (by decide +kernel) (pa_cons (pe_lc (own := [("_law_at", 19)]) (g := (gName 19)) (tt := tYes) (by rfl) sc_law.nd (pi_list (pv 7)) (blkOk_by (own := [("_law_at", 19)]) (N := ["_law_script", "_law_k", "_law_state_here", "_law_layers", "_law_window_here", "_law_one", "_law_names", "_law_order", "_law_right", "_law_up", "_law_turned", "_law_other", "_law_moment", "_law_drawings", "_law_place", "_law_due", "_law_bent", "_law_layer_here", "_law_name", "_law_at"]) (sc := defScope s_law) (by decide +kernel)) (fun _ _ _ _ _ => (pg_name (i := 19) sc_law.nd rfl (Or.inl rfl))) (fun _ _ _ _ _ => pts_nil) (fun _ _ _ _ _ => (pe_ix (r := rIxT K) ix_tup (pv 3) (pv 19) (fun _ _ => rfl)))) pa_nil)) (pa_cons (pe_ix ix_tup (pv 5) pe_int (fun _ _ => rfl)) pa_nil))) (pa_cons (pv 6) pa_nil))))
      (pss_cons (ps_set (i := 11) sc_law.nd rfl (Or.inl rfl) (pe_tup (pa_cons (pe_ix ix_tup (pv 11) pe_int (fun _ _ => rfl)) (pa_cons (pe_own D__law_aside (hr.mono (by omega)) (by rfl) (pa_cons (pe_ix ix_tup (pv 5) pe_int (fun _ _ => rfl)) (pa_cons (pv 8) (pa_cons (pv 9) (pa_cons (pv 10) pa_nil))))) pa_nil))))
      (pss_cons (ps_if (PW.pt (pw_or (pt_cmpR op_ne (pe_own D_sheet_length (hr.mono (by omega)) (by rfl) (pa_cons (pv 11) pa_nil)) (pe_own D_sheet_length (hr.mono (by omega)) (by rfl) (pa_cons (pv 5) pa_nil)) (nomark _)) (pw_or1 (pt_cmpR (op_neD hr.units) (pe_own D_sheet_round (hr.mono (by omega)) (by rfl) (pa_cons (pv 11) pa_nil)) (pe_own D_sheet_round (hr.mono (by omega)) (by rfl) (pa_cons (pv 5) pa_nil)) (nomark _))))) (pss_one (ps_ret pe_bl)) pss_nil)
      (pss_cons (ps_for PassesOwn.never rfl (pi_list (pe_lst (pa_cons pe_int (pa_cons pe_int (pa_cons pe_int (pa_cons (pe_own D__law_take (hr.mono (by omega)) (by rfl) (pa_cons (pv 2) (pa_cons pe_int pa_nil))) (pa_cons (pe_own D__law_take (hr.mono (by omega)) (by rfl) (pa_cons (pv 2) (pa_cons pe_int pa_nil))) (pa_cons (pe_op op_sub (pe_op op_pow pe_int pe_int) (pe_own D__law_take (hr.mono (by omega)) (by rfl) (pa_cons (pv 2) (pa_cons pe_int pa_nil)))) pa_nil)))))))) (pg_name (i := 12) sc_law.nd rfl (Or.inl rfl))
        (pss_cons (ps_asg (pe_own D_picture_at (hr.mono (by omega)) (by rfl) (pa_cons (pv 5) (pa_cons (pv 12) pa_nil))) (pg_tup (by rfl) (pgs_cons (pg_name (i := 13) sc_law.nd rfl (Or.inr rfl)) (pgs_cons (pg_name (i := 14) sc_law.nd rfl (Or.inl rfl)) pgs_nil))))
      (pss_cons (ps_set (i := 15) sc_law.nd rfl (Or.inl rfl) (pe_callTy call_tuple_of (by rfl) T.b_tuple (by decide +kernel) (pa_cons (pe_lc (own := [("_law_at", 19)]) (g := (gName 19)) (tt := tYes) (by rfl) sc_law.nd (pi_list (pv 7)) (blkOk_by (own := [("_law_at", 19)]) (N := ["_law_script", "_law_k", "_law_state_here", "_law_layers", "_law_window_here", "_law_one", "_law_names", "_law_order", "_law_right", "_law_up", "_law_turned", "_law_other", "_law_moment", "_law_drawings", "_law_place", "_law_due", "_law_bent", "_law_layer_here", "_law_name", "_law_at"]) (sc := defScope s_law) (by decide +kernel)) (fun _ _ _ _ _ => (pg_name (i := 19) sc_law.nd rfl (Or.inl rfl))) (fun _ _ _ _ _ => pts_nil) (fun _ _ _ _ _ => (pe_ix (r := rIxL K) ix_list (pv 6) (pe_ix (r := rIxT K) ix_tup (pv 13) (pv 19) (fun _ _ => rfl)) (fun _ _ => rfl)))) pa_nil)))
      (pss_one (ps_if (pt_cmpR (op_neD hr.units) (pe_own D_picture_at (hr.mono (by omega)) (by rfl) (pa_cons (pv 11) (pa_cons (pv 12) pa_nil))) (pe_tup (pa_cons (pv 15) (pa_cons (pe_own D__law_set (hr.mono (by omega)) (by rfl) (pa_cons (pv 14) (pa_cons (pv 8) (pa_cons (pv 9) (pa_cons (pv 10) pa_nil))))) pa_nil))) (nomark _)) (pss_one (ps_ret pe_bl)) pss_nil)))))
      (pss_cons (ps_set (i := 16) sc_law.nd rfl (Or.inl rfl) (pe_tup (pa_cons (pe_ix ix_tup (pv 5) pe_int (fun _ _ => rfl)) (pa_cons (pe_tup (pa_cons (pe_ix ix_tup (pe_ix ix_tup (pv 5) pe_int (fun _ _ => rfl)) pe_int (fun _ _ => rfl)) (pa_cons (pe_op op_add (pe_ix ix_tup (pe_ix ix_tup (pv 5) pe_int (fun _ _ => rfl)) pe_int (fun _ _ => rfl)) pe_int) (pa_cons (pe_ix ix_tup (pe_ix ix_tup (pv 5) pe_int (fun _ _ => rfl)) pe_int (fun _ _ => rfl)) pa_nil)))) pa_nil))))
      (pss_one (ps_if (pt_cmpR op_ne (pe_own D_parting (hr.mono (by omega)) (by rfl) (pa_cons (pv 5) (pa_cons (pv 16) pa_nil))) (pe_own D_parting (hr.mono (by omega)) (by rfl) (pa_cons (pv 11) (pa_cons (pe_tup (pa_cons (pe_ix ix_tup (pv 11) pe_int (fun _ _ => rfl)) (pa_cons (pe_own D__law_aside (hr.mono (by omega)) (by rfl) (pa_cons (pe_ix ix_tup (pv 16) pe_int (fun _ _ => rfl)) (pa_cons (pv 8) (pa_cons (pv 9) (pa_cons (pv 10) pa_nil))))) pa_nil))) pa_nil))) (nomark _)) (pss_one (ps_ret pe_bl)) pss_nil))))))))))))))
      (pss_one (ps_ret pe_bl))), ?_⟩
    obtain ⟨c, c0, c1, ec⟩ : ∃ c : Int, 0 ≤ c ∧ c ≤ 4 ∧ (if (if (4 : Int) < ((ns.map V.int).length : Int) then (4 : Int) else ((ns.map V.int).length : Int)) > 1 then (if (4 : Int) < ((ns.map V.int).length : Int) then (4 : Int) else ((ns.map V.int).length : Int)) else (1 : Int)) = c := by
      refine ⟨_, ?_, ?_, rfl⟩ <;> (repeat' split) <;> omega
    refine ⟨_, rfl, a, _, rfl, .inl hS, _, _, rfl, _, _, rfl, c, ?_, by omega, by omega, ?_⟩
    · rw [ec]
    refine for_range (lo := 0) (n := c.toNat) (fun i σ H' => Same H H' ∧ ∃ y1 y2 y3 y4 y5 y6 y7 y8 y9 y10 y11 y12 y13 y14 y15 y16 y17 y18 y19, σ = [some (.ref a), y1, y2, y3, y4, y5, y6, y7, y8, y9, y10, y11, y12, y13, y14, y15, y16, y17, y18, y19])
      ⟨Same.refl _, none, none, none, none, none, none, none, none, none, none, none, none, none, none, none, none, none, none, none, rfl⟩ ?_ (fun _ H' _ => q H')
    rintro i σ H0 hi ⟨s0, y1, y2, y3, y4, y5, y6, y7, y8, y9, y10, y11, y12, y13, y14, y15, y16, y17, y18, y19, rfl⟩
    refine ⟨_, rfl, _, rfl, a, ns, _, rfl, s0.seq hS, by omega, fun H1 st s1 n1 hs1 => ?_⟩
    refine ⟨_, rfl, st, rfl, hs1, fun sv ls x y ms H2 g2 hsh vL vw => ?_⟩
    obtain ⟨p, lv, wv, rfl, hp, hlv, hw⟩ := hsh
    have hs2 := g2.2 hs1
    refine ⟨p, _, rfl, hp, rfl, _, _, rfl, _, _, rfl, rfl, ?_⟩
    refine ⟨fun σ' H' => Gr st H1 H' ∧ ∃ (lv : V) (ls : List LY), σ' = [some (.ref a), some (.int (0 + (i : Int))), some (.ref st), some lv, some wv, y5, y6, y7, y8, y9, y10, y11, y12, y13, y14, y15, y16, y17, y18, y19] ∧ LaysAt K H' lv ls ∧ VLays ls ∧ WinAt K H' wv x y ms, ?_, ?_⟩
    · refine ⟨_, rfl, st, 2, rfl, hs2, by decide, by decide, fun r3 H3 a3 b3 g3 => ⟨rfl, _, rfl, ite2 (fun _ => ?_) (fun _ => ⟨g2.trans g3, lv, ls, rfl, hlv.keep (g3.tk hs2), vL, hw.keep (g3.tk hs2)⟩)⟩⟩
      have hs3 := g3.2 hs2
      have hw3 := hw.keep (g3.tk hs2)
      obtain ⟨pl, us, rfl, hq, pd⟩ := hlv.keep (g3.tk hs2)
      have lus := Paired.length pd
      have l4 := vL.2.1
      refine ⟨_, rfl, pl, rfl, ⟨_, hq⟩, fun R nR => ?_⟩
      have nRs := st_ne hs3 nR
      refine lc_tup (K := K) (a := pl) (xs := us) (fun j H' => Gr st H3 H' ∧ ∃ (vs : List V) (qs : List LY), H' R = some (.lst vs) ∧ vs.length = j ∧ Paired (LyAt K H') vs qs ∧ ∀ l ∈ qs, VLy l)
        ⟨gr_same (same_upd nR), [], [], upd_same, rfl, .nil, (fun l hl => nomatch hl)⟩ (fun j H' _ z => z.1.sqT hs3 hq) (fun j u H4 hu p4 => ?_) (fun H4 p4 => ?_)
      · obtain ⟨g4, vs, qs, eR, lv, pq, vq⟩ := p4
        have hs4 := g4.2 hs3
        have hj : j < us.length := (List.getElem?_eq_some_iff.mp hu).1
        refine ⟨rfl, yes_ok ⟨_, rfl, st, rfl, hs4, fun v rs bk H5 g5 hv vR vb => ?_⟩⟩
        have eR5 := g5.1 _ _ nRs eR
        have k5 : TKeep K H5 (upd H5 R (.lst (vs ++ [v]))) := fun a xs h => tk_updL eR5 _ _ h
        refine ⟨vs, eR5, small1000 (by omega), gr_upd (g4.trans g5) nR nRs, vs ++ [v], qs ++ [(rs, bk)], upd_same, by rw [List.length_append, lv]; rfl, Paired.snocP (Paired.mono pq fun _ _ h => (LyAt.keep (g5.tk hs4) h).keep k5) (LayAt.keep k5 hv), fun l hl => ?_⟩
        rcases List.mem_append.mp hl with z | z
        · exact vq _ z
        · rw [List.mem_singleton.mp z]
          exact ⟨vR, vb⟩
      · obtain ⟨g4, vs, qs, eR, lv, pq, vq⟩ := p4
        have lq := Paired.length pq
        refine ⟨R, vs, rfl, .inl ⟨.inl (.inl eR), fun pt npt => ?_⟩⟩
        obtain ⟨s5, e5⟩ := new_at (.tup vs) npt
        have g35 := g4.trans (gr_same (st := st) s5)
        exact ⟨(g2.trans g3).trans g35, .ref pt, qs, rfl, ⟨pt, vs, rfl, .inl (.inl e5), Paired.mono pq fun _ _ => LyAt.keep (Same.tk s5)⟩, ⟨by have := vL.1; omega, by omega, vq⟩, hw3.keep (g35.tk hs3)⟩
    clear hlv vL hp hw lv ls g2 hs2 H2
    rintro σ2 H2 ⟨g2, lv, ls, rfl, hlv, vL, hw⟩
    have hs2 := g2.2 hs1
    refine ⟨_, rfl, _, rfl, wv, x, y, ms, rfl, hw, vw, fun hv H3 s3 hh => ⟨(by show 2 ≤ sizeLine; decide), fun po npo => ?_⟩⟩
    have v10 := vw10_of vw
    clear vw hw
    generalize x.fdiv 2 = x, y.fdiv 2 = y, ms.map hlf = ms at hh v10
    obtain ⟨s4, e4⟩ := new_at (.tup [lv, hv]) npo
    generalize upd H3 po (.tup [lv, hv]) = H4 at s4 e4 ⊢
    have s24 := s3.trans s4
    have g4 := g2.trans (gr_same (st := st) s24)
    have hs4 := g4.2 hs1
    have ho4 : ShAt K H4 (.ref po) ls x y ms := ⟨po, lv, hv, rfl, .inl (.inl e4), hlv.keep (Same.tk s24), hh.keep (Same.tk s4)⟩
    have hlv4 := hlv.keep (Same.tk s24)
    clear hlv hh s3 s24 s4 npo e4 H3
    -- the names
    refine ⟨(by show 1 ≤ sizeLine; decide), fun pA nA => ?_⟩
    have nAs := st_ne hs4 nA
    obtain ⟨s5, e5⟩ := new_at (.lst [.int 0]) nA
    generalize upd H4 pA (.lst [.int 0]) = H5 at s5 e5 ⊢
    have g45 := gr_same (st := st) s5
    refine ⟨_, rfl, st, 9, rfl, g45.2 hs4, by decide, fun D qs H6 g6 nD eD pm => ?_⟩
    have hs6 := g6.2 (g45.2 hs4)
    refine ⟨D, rfl, ⟨_, .inl (.inl eD)⟩, fun D2 nD2 => ?_⟩
    have lq : qs.length = 9 := by rw [pm.length_eq, List.length_range]
    refine lcmap_list ((qs.map fun k : Nat => (k : Int) + 1).map V.int) (by rw [List.length_map, List.length_map, List.length_map]) (by rw [List.length_map]; omega) (.inl (.inl eD)) nD2 (fun j x' y' H7 R Z hx hy s7 hR => ?_) (fun H7 s7 eD2 => ?_)
    · obtain ⟨k, hk, rfl⟩ : ∃ k : Nat, qs[j]? = some k ∧ x' = V.int (k : Int) := by
        rw [List.getElem?_map] at hx
        cases e : qs[j]? with
        | none => rw [e] at hx; cases hx
        | some k => rw [e] at hx; exact ⟨k, rfl, (Option.some.inj hx).symm⟩
      have ey : y' = .int ((k : Int) + 1) := by
        rw [List.map_map, List.getElem?_map, hk] at hy
        exact (Option.some.inj hy).symm
      subst ey
      exact ⟨rfl, yes_ok ⟨_, rfl, _, _, rfl, rfl, hR _ (Same.refl _)⟩⟩
    have e57 := s7 _ _ (g6.1 _ _ nAs e5)
    refine ⟨pA, D2, _, _, rfl, rfl, e57, eD2, Nat.le_of_lt (small1000 (by rw [List.length_map, List.length_map]; show 1 + qs.length ≤ 1000; omega)), fun nv nnv => ?_⟩
    have nnvs := st_ne ((gr_same (st := st) s7).2 hs6) nnv
    obtain ⟨s8, e8⟩ := new_at (.lst ([.int 0] ++ (qs.map fun k : Nat => (k : Int) + 1).map V.int)) nnv
    generalize upd H7 nv (.lst ([.int 0] ++ (qs.map fun k : Nat => (k : Int) + 1).map V.int)) = H8 at s8 e8 ⊢
    have nf := nf_of pm
    obtain ⟨nm, enm⟩ : ∃ nm : List Int, (0 :: qs.map fun k : Nat => (k : Int) + 1) = nm := ⟨_, rfl⟩
    have e8' : H8 nv = some (.lst (nm.map V.int)) := by rw [e8, ← enm]; rfl
    rw [enm] at nf
    clear e8 enm eD2 e57 lq pm
    have g48 : Gr st H4 H8 := (g45.trans g6).trans (gr_same (st := st) (s7.trans s8))
    have hs8 := g48.2 hs4
    obtain ⟨pl, us, rfl, hq4, pd4⟩ := hlv4
    have lus : us.length = ls.length := Paired.length pd4
    have l4 : ls.length ≤ 4 := vL.2.1
    refine ⟨_, rfl, _, rfl, pl, us, rfl, .inr (g48.sqT hs4 hq4), st, us.length, rfl, hs8, by omega, fun Do os H9 g9 nDo eDo pmo => ⟨(by show 2 ≤ sizeLine; decide), fun pz npz => ?_⟩⟩
    rw [lus] at pmo
    have hs9 := g9.2 hs8
    have nDos : Do ≠ st := st_ne hs8 nDo
    have e9 := g9.1 _ _ nnvs e8'
    obtain ⟨s10, e10⟩ := new_at (.tup [.ref nv, .ref Do]) npz
    generalize upd H9 pz (.tup [.ref nv, .ref Do]) = H10 at s10 e10 ⊢
    refine ⟨pz, _, rfl, .inl (.inl e10), rfl, _, _, rfl, _, _, rfl, rfl, ?_⟩
    have g410 := (g48.trans g9).trans (gr_same (st := st) s10)
    have hs10 := g410.2 hs4
    have nv10 := s10 _ _ e9
    have do10 := s10 _ _ eDo
    -- right, up, turned
    refine ⟨_, rfl, st, 19, rfl, hs10, by decide, by decide, fun r11 H11 a11 b11 g11 => ⟨_, _, rfl, rfl, ?_⟩⟩
    have hs11 := g11.2 hs10
    refine ⟨_, rfl, st, 19, rfl, hs11, by decide, by decide, fun r12 H12 a12 b12 g12 => ⟨_, _, rfl, rfl, ?_⟩⟩
    have hs12 := g12.2 hs11
    refine ⟨_, rfl, st, 2, rfl, hs12, by decide, by decide, fun r13 H13 a13 b13 g13 => ?_⟩
    obtain ⟨rr, hrr, rr0, rr1⟩ : ∃ rr : Int, r11 - 9 = rr ∧ -9 ≤ rr ∧ rr ≤ 9 := ⟨_, rfl, by omega, by omega⟩
    obtain ⟨uu, huu, uu0, uu1⟩ : ∃ uu : Int, r12 - 9 = uu ∧ -9 ≤ uu ∧ uu ≤ 9 := ⟨_, rfl, by omega, by omega⟩
    obtain ⟨tt, htt⟩ : ∃ tt : Bool, decide (V.int r13 = V.int 1) = tt := ⟨_, rfl⟩
    refine ⟨rfl, .int rr, .int uu, .bl tt, ?_, ?_⟩
    · show [V.int (r11 - 9), V.int (r12 - 9), V.bl (decide (V.int r13 = V.int 1))] = _
      rw [hrr, huu, htt]
    have g1013 := (g11.trans g12).trans g13
    have nv13 := g1013.1 _ _ nnvs nv10
    have do13 := g1013.1 _ _ nDos do10
    have g413 := g410.trans g1013
    have hs13 := g413.2 hs4
    have ho13 := ho4.keep (g413.tk hs4)
    have hq13 := g413.sqT hs4 hq4
    have pd13 : Paired (LyAt K H13) us ls := Paired.mono pd4 fun _ _ => LyAt.keep (g413.tk hs4)
    have g13' : Gr st H1 H13 := g4.trans g413
    clear hrr huu htt a11 b11 a12 b12 a13 b13 g11 g12 g13 g1013 hs11 hs12 nv10 do10 g413 g410 e10 s10 e9 npz g9 e8' s8 s7 g6 g48 hs8 hs9 hq4 pd4 ho4 s5 e5 nA nAs g45
    -- the other sheet
    refine ⟨_, rfl, Do, rfl, ⟨_, .inl (.inl do13)⟩, fun D3 nD3 => ?_⟩
    have lo' : os.length = ls.length := by rw [pmo.length_eq, List.length_range]
    have at' : ∀ {j : Nat} {x' : V}, (os.map fun k : Nat => V.int (k : Int))[j]? = some x' → ∃ k : Nat, os[j]? = some k ∧ x' = V.int (k : Int) ∧ k < ls.length := fun {j x'} hx => by
      rw [List.getElem?_map] at hx
      cases e : os[j]? with
      | none => rw [e] at hx; cases hx
      | some k => rw [e] at hx; exact ⟨k, rfl, (Option.some.inj hx).symm, pk_lt pmo k (List.mem_of_getElem? e)⟩
    refine lcmap_list (pk .non us os) (by unfold pk; rw [List.length_map, List.length_map]) (by rw [List.length_map]; omega) (.inl (.inl do13)) nD3 (fun j x' y' H14 R Z hx hy s14 hR => ?_) (fun H14 s14 eD3 => ?_)
    · obtain ⟨k, hk, rfl, kl⟩ := at' hx
      have ey : y' = us.getD k .non := by
        unfold pk at hy
        rw [List.getElem?_map, hk] at hy
        exact (Option.some.inj hy).symm
      subst ey
      exact ⟨rfl, yes_ok ⟨_, rfl, _, rfl, pl, us, _, _, rfl, rfl, Same.sqT s14 hq13, atI_nat (pk_at (by omega)), hR _ (Same.refl _)⟩⟩
    refine ⟨D3, _, rfl, .inl ⟨.inl (.inl eD3), fun pt npt => ?_⟩⟩
    obtain ⟨s15, e15⟩ := new_at (.tup (pk .non us os)) npt
    generalize upd H14 pt (.tup (pk .non us os)) = H15 at s15 e15 ⊢
    have s1315 := s14.trans s15
    obtain ⟨po', lv', wv', epo, hpo, hlv13, hw13⟩ := ho13
    cases epo
    refine ⟨_, rfl, po, _, 1, _, rfl, rfl, Same.sqT s1315 hpo, rfl, (by show 2 ≤ sizeLine; decide), fun p16 np16 => ?_⟩
    obtain ⟨s16, e16⟩ := new_at (.tup [.ref pt, wv']) np16
    generalize upd H15 p16 (.tup [.ref pt, wv']) = H16 at s16 e16 ⊢
    have s1316 := s1315.trans s16
    have hsh16 : ShAt K H16 (.ref p16) (pk ([], none) ls os) x y ms := ⟨p16, _, wv', rfl, .inl (.inl e16), LaysAt.keep (Same.tk s16) ⟨pt, _, rfl, .inl (.inl e15), pk_pair .non ([], none) (Paired.mono pd13 fun _ _ => LyAt.keep (Same.tk s1315)) (pk_lt pmo)⟩, hw13.keep (Same.tk s1316)⟩
    have vpk : VLays (pk ([], none) ls os) := ⟨by rw [pk_len pmo]; exact vL.1, by rw [pk_len pmo]; exact vL.2.1, fun l hl => vL.2.2 l (pk_mem2 pmo hl)⟩
    refine ⟨_, rfl, _, nv, nm, _, x, y, ms, rfl, hsh16, .inl (.inl (s1316 _ _ nv13)), vpk, nf.ln, fun v17 H17 s17 h17 => ?_⟩
    obtain ⟨p17, lv17, wv17, rfl, hp17, hlv17, _⟩ := h17
    have s1317 := s1316.trans s17
    refine ⟨_, rfl, p17, _, 0, _, rfl, rfl, hp17, rfl, ?_⟩
    refine ⟨_, rfl, po, _, 1, _, rfl, rfl, Same.sqT s1317 hpo, rfl, _, rfl, _, rfl, _, rfl, wv', rr, uu, tt, x, y, ms, rfl, hw13.keep (Same.tk s1317), v10.2.2.1, fun v18 H18 s18 h18 => ⟨(by show 2 ≤ sizeLine; decide), fun p19 np19 => ?_⟩⟩
    obtain ⟨s19, e19⟩ := new_at (.tup [lv17, v18]) np19
    generalize upd H18 p19 (.tup [lv17, v18]) = H19 at s19 e19 ⊢
    have s1719 := s18.trans s19
    have s1319 := s1317.trans s1719
    have ho19 : ShAt K H19 (.ref p19) (oth nm ls os) (asX rr uu x y tt) (asY rr uu x y tt) (asMs rr uu ms tt) := ⟨p19, lv17, v18, rfl, .inl (.inl e19), hlv17.keep (Same.tk s1719), h18.keep (Same.tk s19)⟩
    have hlo19 := hlv17.keep (Same.tk s1719)
    have hone19 : ShAt K H19 (.ref po) ls x y ms := ShAt.keep (Same.tk s1319) ⟨po, lv', wv', rfl, hpo, hlv13, hw13⟩
    have voth := oth_v nf pmo vL
    have vwo := as_win0 v10 rr0 rr1 uu0 uu1 tt
    have nv19 := s1319 _ _ nv13
    have do19 := s1319 _ _ do13
    have g19 := g13'.trans (gr_same (st := st) s1319)
    have hs19 := g19.2 hs1
    clear hsh16 vpk s17 hp17 hlv17 s18 h18 np19 s1719 s19 s1316 s16 e16 np16 s1315 e15 s15 npt eD3 s14 nD3 pd13 hq13 s1317
    -- lengths
    refine ⟨_, rfl, _, _, _, _, _, rfl, ho19, voth, vwo, fun H20 r20 s20 L20 => ?_⟩
    refine ⟨_, rfl, _, _, _, _, _, rfl, hone19.keep (Same.tk s20), vL, v10.win, fun H21 r21 s21 L21 => ?_⟩
    have eL := oth_len pmo L21 L20
    subst eL
    have s1921 := s20.trans s21
    refine ⟨by cases r20 <;> rfl, _, rfl, ite2 (fun e => ?_) (fun _ => ?_)⟩
    · exfalso
      have e' : (!decide (bkV r20 = bkV r20)) = true := e
      rw [decide_eq_true rfl] at e'
      cases e'
    refine ⟨_, rfl, _, _, _, _, _, rfl, ho19.keep (Same.tk s1921), voth, vwo, fun H22 p22 a22 m22 s22 h22 R22 _ => ?_⟩
    refine ⟨_, rfl, _, _, _, _, _, rfl, hone19.keep (Same.tk (s1921.trans s22)), vL, v10.win, fun H23 p23 a23 m23 s23 h23 R23 _ => ?_⟩
    obtain ⟨ea, em⟩ := oth_round nf pmo vL v10.vm R23 R22
    subst ea em
    have rd : ∀ {p : Addr}, SqT K H23 p [.int (a22 : Int), .int (m22 : Int)] → Dp K H23 (.ref p) (rwD ((a22 : Int), (m22 : Int))) := fun h => RowAt.dp ⟨_, rfl, h⟩
    refine ne_same (rd (Same.sqT s23 h22)) (rd h23) (sd_rw _) (by decide) ⟨_, rfl, ite2 (fun e => nomatch (show false = true from e)) (fun _ => ?_)⟩
    have s1923 := (s1921.trans s22).trans s23
    have g23 := g19.trans (gr_same (st := st) s1923)
    have hs23 := g23.2 hs1
    have ho23 := ho19.keep (Same.tk s1923)
    have hone23 := hone19.keep (Same.tk s1923)
    have hlo23 := hlo19.keep (Same.tk s1923)
    have nv23 := s1923 _ _ nv19
    have do23 := s1923 _ _ do19
    clear h22 h23 rd R22 R23 s1923 s22 s23 s1921 s20 s21 L20 L21 s1319 nv19 do19 nv13 do13 hlo19 hone19 ho19 e19 hs19 g19 g13' hs13 hpo hlv13 hw13
    -- the moments
    refine ⟨_, rfl, st, 60, rfl, hs23, by decide, by decide, fun r24 H24 a24 b24 g24 => ?_⟩
    have hs24 := g24.2 hs23
    refine ⟨_, rfl, st, 400, rfl, hs24, by decide, by decide, fun r25 H25 a25 b25 g25 => ?_⟩
    have hs25 := g25.2 hs24
    refine ⟨_, _, rfl, rfl, ⟨by decide, by decide, by decide⟩, _, rfl, st, 50, rfl, hs25, by decide, by decide, fun r26 H26 a26 b26 g26 => ⟨_, _, rfl, rfl, (by show 6 ≤ sizeLine; decide), fun L nL => ?_⟩⟩
    have hs26 := g26.2 hs25
    obtain ⟨s27, e27⟩ := new_at (.lst [.int 0, .int 1, .int 2, .int r24, .int r25, .int (10 ^ (9 : Int).toNat - r26)]) nL
    have g27 : Gr st H23 _ := ((g24.trans g25).trans g26).trans (gr_same (st := st) s27)
    generalize upd H26 L (.lst [.int 0, .int 1, .int 2, .int r24, .int r25, .int (10 ^ (9 : Int).toNat - r26)]) = H27 at s27 e27 g27 ⊢
    have hs27 := g27.2 hs23
    have ho27 := ho23.keep (g27.tk hs23)
    have hone27 := hone23.keep (g27.tk hs23)
    have hlo27 := hlo23.keep (g27.tk hs23)
    have nv27 := g27.1 _ _ nnvs nv23
    have do27 := g27.1 _ _ nDos do23
    refine ⟨L, rfl, ⟨_, .inl (.inl e27)⟩, for_list (K := K) (a := L) (xs := [.int 0, .int 1, .int 2, .int r24, .int r25, .int (10 ^ (9 : Int).toNat - r26)]) (fun j σ H' => Same H27 H' ∧ ∃ y12 y13 y14 y15, σ = [some (.ref a), some (.int (0 + (i : Int))), some (.ref st), some (.ref pl), some wv, some (.ref po), some (.ref nv), some (.ref Do), some (.int rr), some (.int uu), some (.bl tt), some (.ref p19), y12, y13, y14, y15, y16, y17, y18, y19])
      ⟨Same.refl _, _, _, _, _, rfl⟩ (fun j σ H' _ z => .inl (.inl (z.1 _ _ e27))) ?_ ?_⟩
    · rintro j u σ H28 hu ⟨s28, z12, z13, z14, z15, rfl⟩
      obtain ⟨m, rfl, m1⟩ : ∃ m : Nat, u = .int (m : Int) ∧ m ≤ 1000000000 := by
        have e10 : (10 : Int) ^ (9 : Int).toNat = 1000000000 := by decide
        rw [e10] at hu
        rcases mem6 (List.mem_of_getElem? hu) with e | e | e | e | e | e
        · exact ⟨0, e, by omega⟩
        · exact ⟨1, e, by omega⟩
        · exact ⟨2, e, by omega⟩
        · exact ⟨r24.toNat, by rw [e]; congr 1; omega, by omega⟩
        · exact ⟨r25.toNat, by rw [e]; congr 1; omega, by omega⟩
        · exact ⟨(1000000000 - r26).toNat, by rw [e]; congr 1; omega, by omega⟩
      refine ⟨_, rfl, _, rfl, _, ls, x, y, ms, (m : Int), rfl, hone27.keep (Same.tk s28), vL, v10.win, by omega, by omega, fun H29 v29 s29 c29 => ?_⟩
      have epic := oth_pic (ls := ls) (os := os) (x := x) (y := y) (r := rr) (u := uu) (t := tt) (ms := ms) nf pmo v10.vm (m : Int)
      have rgp : ∀ k, k < ls.length → ∃ d, (pic ls x y ms (m : Int)).1[k]? = some d ∧ (pic ls x y ms (m : Int)).1.getD k 0 = d ∧ 0 ≤ d ∧ d ≤ 9 := fun k hk => by
        have e1 : (pic ls x y ms (m : Int)).1[k]? = some (shown ls[k].1 ls[k].2 (m : Int)) := by
          show (ls.map fun l => shown l.1 l.2 (m : Int))[k]? = _
          rw [List.getElem?_map, List.getElem?_eq_getElem hk]
          rfl
        have := shown_rng (bk := ls[k].2) (vL.2.2 ls[k] (List.getElem_mem hk)).1 (m : Int)
        exact ⟨_, e1, by rw [List.getD_eq_getElem?_getD, e1]; rfl, this.1, this.2⟩
      generalize pic ls x y ms (m : Int) = pc at c29 epic rgp
      obtain ⟨pp, pd29, vp, rfl, hpp, hpd, hpl⟩ := c29
      have s2729 := s28.trans s29
      refine ⟨pp, _, rfl, hpp, rfl, _, _, rfl, _, _, rfl, rfl, ?_⟩
      refine ⟨_, rfl, Do, rfl, ⟨_, .inl (.inl (s2729 _ _ do27))⟩, fun D4 nD4 => ?_⟩
      refine lcmap_list ((os.map fun k => nmF nm (pc.1.getD k 0)).map V.int) (by rw [List.length_map, List.length_map, List.length_map]) (by rw [List.length_map]; omega) (.inl (.inl (s2729 _ _ do27))) nD4 (fun j x' y' H30 R Z hx hy s30 hR => ?_) (fun H30 s30 eD4 => ?_)
      · obtain ⟨k, hk, rfl, kl⟩ := at' hx
        obtain ⟨d, hd1, hd2, d0, d9⟩ := rgp k kl
        have ey : y' = .int (nmF nm d) := by
          rw [List.map_map, List.getElem?_map, hk] at hy
          rw [← hd2]
          exact (Option.some.inj hy).symm
        subst ey
        exact ⟨rfl, yes_ok ⟨_, rfl, _, rfl, _, rfl, pd29, _, _, _, rfl, rfl, Same.sqT s30 hpd, atI_nat (show (pc.1.map V.int)[k]? = some (.int d) by rw [List.getElem?_map, hd1]; rfl), nv, _, _, _, rfl, rfl, .inl (.inl (s30 _ _ (s2729 _ _ nv27))), nm_at nf.ln d0 d9, hR _ (Same.refl _)⟩⟩
      refine ⟨D4, _, rfl, .inl ⟨.inl (.inl eD4), fun p31 np31 => ?_⟩⟩
      obtain ⟨s31, e31⟩ := new_at (.tup ((os.map fun k => nmF nm (pc.1.getD k 0)).map V.int)) np31
      generalize upd H30 p31 (.tup ((os.map fun k => nmF nm (pc.1.getD k 0)).map V.int)) = H31 at s31 e31 ⊢
      have s2931 := s30.trans s31
      have s2731 := s2729.trans s2931
      refine ⟨_, rfl, _, rfl, _, _, _, _, _, (m : Int), rfl, ho27.keep (Same.tk s2731), voth, vwo, by omega, by omega, fun H32 v32 s32 c32 => ?_⟩
      refine ⟨_, rfl, _, rfl, _, rfl, _, rfl, _, rfl, vp, rr, uu, tt, pc.2, rfl, hpl.keep (Same.tk (s2931.trans s32)), by omega, by omega, by omega, by omega, fun v33 H33 s33 c33 => ⟨(by show 2 ≤ sizeLine; decide), fun p34 np34 => ?_⟩⟩
      obtain ⟨s34, e34⟩ := new_at (.tup [.ref p31, v33]) np34
      generalize upd H33 p34 (.tup [.ref p31, v33]) = H34 at s34 e34 ⊢
      have s3234 := s33.trans s34
      rw [epic] at c32
      have c34 : PicAt K H34 (.ref p34) (os.map fun k => nmF nm (pc.1.getD k 0), asP rr uu tt pc.2) := ⟨p34, p31, v33, rfl, .inl (.inl e34), .inl (.inl (s3234 _ _ (s32 _ _ e31))), c33.keep (Same.tk s34)⟩
      refine ne_same (PicAt.dp (c32.keep (Same.tk s3234))) (PicAt.dp c34) (sd_pic _) (by decide) ⟨_, rfl, ite2 (fun e => nomatch (show false = true from e)) (fun _ => ?_)⟩
      exact ⟨(s2731.trans s32).trans s3234, _, _, _, _, rfl⟩
    rintro σ H28 ⟨s28, z12, z13, z14, z15, rfl⟩
    obtain ⟨po', lv1, wv1, epo, hpo, hlv1, ⟨pw, mv, rfl, hpw, hmv⟩⟩ := hone27.keep (Same.tk s28)
    cases epo
    have g28 := (g23.trans g27).trans (gr_same (st := st) s28)
    have sHH : Same H H28 := s0.trans (g28.same s1 n1)
    refine ⟨_, rfl, po, _, 0, _, rfl, rfl, hpo, rfl, _, rfl, po, _, 1, _, rfl, rfl, hpo, rfl, pw, _, 0, _, rfl, rfl, hpw, rfl, ?_⟩
    refine ⟨_, rfl, po, _, 1, _, rfl, rfl, hpo, rfl, pw, _, 1, _, rfl, rfl, hpw, rfl, _, _, rfl, rfl, ?_⟩
    refine ⟨_, rfl, po, _, 1, _, rfl, rfl, hpo, rfl, pw, _, 2, _, rfl, rfl, hpw, rfl, (by show 3 ≤ sizeLine; decide), fun p29 np29 => ?_⟩
    obtain ⟨s29, e29⟩ := new_at (.tup [.int x, .int (y + 1), mv]) np29
    generalize upd H28 p29 (.tup [.int x, .int (y + 1), mv]) = H29 at s29 e29 ⊢
    refine ⟨(by show 2 ≤ sizeLine; decide), fun p30 np30 => ?_⟩
    obtain ⟨s30, e30⟩ := new_at (.tup [lv1, .ref p29]) np30
    generalize upd H29 p30 (.tup [lv1, .ref p29]) = H30 at s30 e30 ⊢
    have s2830 := s29.trans s30
    have hwb : WinAt K H30 (.ref p29) x (y + 1) ms := ⟨p29, mv, rfl, .inl (.inl (s30 _ _ e29)), hmv.keep (Same.tk s2830)⟩
    have hb30 : ShAt K H30 (.ref p30) ls x (y + 1) ms := ⟨p30, lv1, _, rfl, .inl (.inl e30), hlv1.keep (Same.tk s2830), hwb⟩
    have s2730 := s28.trans s2830
    refine ⟨_, rfl, _, rfl, _, _, ls, ls, x, y, x, y + 1, ms, ms, rfl, hone27.keep (Same.tk s2730), vL, v10.win, hb30, vL, v10.bent, rfl, fun H31 r31 s31 pr31 => ?_⟩
    have s2731 := s2730.trans s31
    have ho31 := ho27.keep (Same.tk s2731)
    obtain ⟨p19', lvo, wvo, epo, hp19, hlvo, _⟩ := ho27.keep (Same.tk s2731)
    cases epo
    refine ⟨_, rfl, _, rfl, p19, _, 0, _, rfl, rfl, hp19, rfl, ?_⟩
    refine ⟨_, rfl, p30, _, 1, _, rfl, rfl, .inl (.inl (s31 _ _ e30)), rfl, _, rfl, _, rfl, _, rfl, _, rr, uu, tt, x, y + 1, ms, rfl, hwb.keep (Same.tk s31), v10.2.2.1, fun v32 H32 s32 h32 => ⟨(by show 2 ≤ sizeLine; decide), fun p33 np33 => ?_⟩⟩
    obtain ⟨s33, e33⟩ := new_at (.tup [lvo, v32]) np33
    generalize upd H32 p33 (.tup [lvo, v32]) = H33 at s33 e33 ⊢
    have s3133 := s32.trans s33
    have hob : ShAt K H33 (.ref p33) (oth nm ls os) (asX rr uu x (y + 1) tt) (asY rr uu x (y + 1) tt) (asMs rr uu ms tt) := ⟨p33, lvo, v32, rfl, .inl (.inl e33), hlvo.keep (Same.tk s3133), h32.keep (Same.tk s33)⟩
    refine ⟨_, _, _, _, _, _, _, _, _, _, rfl, ho31.keep (Same.tk s3133), voth, vwo, hob, voth, as_win v10 rr0 rr1 uu0 uu1 tt (by decide) (by decide), rfl, fun H34 r34 s34 pr34 => ?_⟩
    have er := oth_part v10.vm pr31 pr34
    subst er
    refine ⟨by cases r31 <;> rfl, _, rfl, ite2 (fun e => ?_) (fun _ => ?_)⟩
    · exfalso
      have e' : (!decide (natV r31 = natV r31)) = true := e
      rw [decide_eq_true rfl] at e'
      cases e'
    exact ⟨((sHH.trans (s2830.trans s31)).trans s3133).trans s34, _, _, _, _, _, _, _, _, _, _, _, _, _, _, _, _, _, _, _, rfl⟩
end

theorem all_mk {l : PySem.W.OpenLaw} {w : World} {K : PySem.W.Frag} {h : Heap} {mg : Str → Option Value} {fa : Addr} (X : K.In h) (G : h.Ns mainGlobals mg) (hfa : mg "law" = some (.ref fa))
    {f0 f1 f2 f3 f4 f5 f6 f7 f8 f9 f10 f11 f12 f13 f14 f15 f16 f17 f18 f19 f20 f21 f22 f23 f24 f25 f26 f27 f28 f29 f30 f31 f32 f33 f34 f35 f36 f37 f38 f39 f40 f41 f42 f43 f44 f45 f46 f47 f48 f49 f50 f51 f52 f53 f54 f55 : Addr} {od0 an0 od1 an1 od2 an2 od3 an3 od4 an4 od5 an5 od6 an6 od7 an7 od8 an8 od9 an9 od10 an10 od11 an11 od12 an12 od13 an13 od14 an14 od15 an15 od16 an16 od17 an17 od18 an18 od19 an19 od20 an20 od21 an21 od22 an22 od23 an23 od24 an24 od25 an25 od26 an26 od27 an27 od28 an28 od29 an29 od30 an30 od31 an31 od32 an32 od33 an33 od34 an34 od35 an35 od36 an36 od37 an37 od38 an38 od39 an39 od40 an40 od41 an41 od42 an42 od43 an43 od44 an44 od45 an45 od46 an46 od47 an47 od48 an48 od49 an49 od50 an50 od51 an51 od52 an52 od53 an53 od54 an54 od55 an55 : Option Addr} {sl0 sl1 sl2 sl3 sl4 sl5 sl6 sl7 sl8 sl9 sl10 sl11 sl12 sl13 sl14 sl15 sl16 sl17 sl18 sl19 sl20 sl21 sl22 sl23 sl24 sl25 sl26 sl27 sl28 sl29 sl30 sl31 sl32 sl33 sl34 sl35 sl36 sl37 sl38 sl39 sl40 sl41 sl42 sl43 sl44 sl45 sl46 sl47 sl48 sl49 sl50 sl51 sl52 sl53 sl54 sl55 : Array (Option Value)} {oc0 kV0 dc0 pm0 cd0 ct0 oc1 kV1 dc1 pm1 cd1 ct1 oc2 kV2 dc2 pm2 cd2 ct2 oc3 kV3 dc3 pm3 cd3 ct3 oc4 kV4 dc4 pm4 cd4 ct4 oc5 kV5 dc5 pm5 cd5 ct5 oc6 kV6 dc6 pm6 cd6 ct6 oc7 kV7 dc7 pm7 cd7 ct7 oc8 kV8 dc8 pm8 cd8 ct8 oc9 kV9 dc9 pm9 cd9 ct9 oc10 kV10 dc10 pm10 cd10 ct10 oc11 kV11 dc11 pm11 cd11 ct11 oc12 kV12 dc12 pm12 cd12 ct12 oc13 kV13 dc13 pm13 cd13 ct13 oc14 kV14 dc14 pm14 cd14 ct14 oc15 kV15 dc15 pm15 cd15 ct15 oc16 kV16 dc16 pm16 cd16 ct16 oc17 kV17 dc17 pm17 cd17 ct17 oc18 kV18 dc18 pm18 cd18 ct18 oc19 kV19 dc19 pm19 cd19 ct19 oc20 kV20 dc20 pm20 cd20 ct20 oc21 kV21 dc21 pm21 cd21 ct21 oc22 kV22 dc22 pm22 cd22 ct22 oc23 kV23 dc23 pm23 cd23 ct23 oc24 kV24 dc24 pm24 cd24 ct24 oc25 kV25 dc25 pm25 cd25 ct25 oc26 kV26 dc26 pm26 cd26 ct26 oc27 kV27 dc27 pm27 cd27 ct27 oc28 kV28 dc28 pm28 cd28 ct28 oc29 kV29 dc29 pm29 cd29 ct29 oc30 kV30 dc30 pm30 cd30 ct30 oc31 kV31 dc31 pm31 cd31 ct31 oc32 kV32 dc32 pm32 cd32 ct32 oc33 kV33 dc33 pm33 cd33 ct33 oc34 kV34 dc34 pm34 cd34 ct34 oc35 kV35 dc35 pm35 cd35 ct35 oc36 kV36 dc36 pm36 cd36 ct36 oc37 kV37 dc37 pm37 cd37 ct37 oc38 kV38 dc38 pm38 cd38 ct38 oc39 kV39 dc39 pm39 cd39 ct39 oc40 kV40 dc40 pm40 cd40 ct40 oc41 kV41 dc41 pm41 cd41 ct41 oc42 kV42 dc42 pm42 cd42 ct42 oc43 kV43 dc43 pm43 cd43 ct43 oc44 kV44 dc44 pm44 cd44 ct44 oc45 kV45 dc45 pm45 cd45 ct45 oc46 kV46 dc46 pm46 cd46 ct46 oc47 kV47 dc47 pm47 cd47 ct47 oc48 kV48 dc48 pm48 cd48 ct48 oc49 kV49 dc49 pm49 cd49 ct49 oc50 kV50 dc50 pm50 cd50 ct50 oc51 kV51 dc51 pm51 cd51 ct51 oc52 kV52 dc52 pm52 cd52 ct52 oc53 kV53 dc53 pm53 cd53 ct53 oc54 kV54 dc54 pm54 cd54 ct54 oc55 kV55 dc55 pm55 cd55 ct55 : Value} {t0 t1 t2 t3 t4 t5 t6 t7 : Tok}
    (a0 : PySem.W.nsIn K mainGlobals "is_whole_from" = some (some (.ref f0))) (l0 : K.lookup f0 = some ⟨oc0, od0, .func (PySem.W.fnOf "is_whole_from" "is_whole_from" (defArgs s_is_whole_from) (defBody s_is_whole_from) (defScope s_is_whole_from) .none kV0 dc0 pm0 an0 cd0 ct0), sl0⟩) (c0 : PySem.W.codeIn K cd0 "is_whole_from" = true) (k0 : PySem.W.keepIn K (.ref f0) = true)
    (a1 : PySem.W.nsIn K mainGlobals "is_whole" = some (some (.ref f1))) (l1 : K.lookup f1 = some ⟨oc1, od1, .func (PySem.W.fnOf "is_whole" "is_whole" (defArgs s_is_whole) (defBody s_is_whole) (defScope s_is_whole) .none kV1 dc1 pm1 an1 cd1 ct1), sl1⟩) (c1 : PySem.W.codeIn K cd1 "is_whole" = true) (k1 : PySem.W.keepIn K (.ref f1) = true)
    (a2 : PySem.W.nsIn K mainGlobals "need_moment" = some (some (.ref f2))) (l2 : K.lookup f2 = some ⟨oc2, od2, .func (PySem.W.fnOf "need_moment" "need_moment" (defArgs s_need_moment) (defBody s_need_moment) (defScope s_need_moment) .none kV2 dc2 pm2 an2 cd2 ct2), sl2⟩) (c2 : PySem.W.codeIn K cd2 "need_moment" = true) (k2 : PySem.W.keepIn K (.ref f2) = true)
    (a3 : PySem.W.nsIn K mainGlobals "is_tuple" = some (some (.ref f3))) (l3 : K.lookup f3 = some ⟨oc3, od3, .func (PySem.W.fnOf "is_tuple" "is_tuple" (defArgs s_is_tuple) (defBody s_is_tuple) (defScope s_is_tuple) .none kV3 dc3 pm3 an3 cd3 ct3), sl3⟩) (c3 : PySem.W.codeIn K cd3 "is_tuple" = true) (k3 : PySem.W.keepIn K (.ref f3) = true)
    (a4 : PySem.W.nsIn K mainGlobals "is_drawing" = some (some (.ref f4))) (l4 : K.lookup f4 = some ⟨oc4, od4, .func (PySem.W.fnOf "is_drawing" "is_drawing" (defArgs s_is_drawing) (defBody s_is_drawing) (defScope s_is_drawing) .none kV4 dc4 pm4 an4 cd4 ct4), sl4⟩) (c4 : PySem.W.codeIn K cd4 "is_drawing" = true) (k4 : PySem.W.keepIn K (.ref f4) = true)
    (a5 : PySem.W.nsIn K mainGlobals "is_hold" = some (some (.ref f5))) (l5 : K.lookup f5 = some ⟨oc5, od5, .func (PySem.W.fnOf "is_hold" "is_hold" (defArgs s_is_hold) (defBody s_is_hold) (defScope s_is_hold) .none kV5 dc5 pm5 an5 cd5 ct5), sl5⟩) (c5 : PySem.W.codeIn K cd5 "is_hold" = true) (k5 : PySem.W.keepIn K (.ref f5) = true)
    (a6 : PySem.W.nsIn K mainGlobals "is_row" = some (some (.ref f6))) (l6 : K.lookup f6 = some ⟨oc6, od6, .func (PySem.W.fnOf "is_row" "is_row" (defArgs s_is_row) (defBody s_is_row) (defScope s_is_row) .none kV6 dc6 pm6 an6 cd6 ct6), sl6⟩) (c6 : PySem.W.codeIn K cd6 "is_row" = true) (k6 : PySem.W.keepIn K (.ref f6) = true)
    (a7 : PySem.W.nsIn K mainGlobals "is_layer" = some (some (.ref f7))) (l7 : K.lookup f7 = some ⟨oc7, od7, .func (PySem.W.fnOf "is_layer" "is_layer" (defArgs s_is_layer) (defBody s_is_layer) (defScope s_is_layer) .none kV7 dc7 pm7 an7 cd7 ct7), sl7⟩) (c7 : PySem.W.codeIn K cd7 "is_layer" = true) (k7 : PySem.W.keepIn K (.ref f7) = true)
    (a8 : PySem.W.nsIn K mainGlobals "is_way" = some (some (.ref f8))) (l8 : K.lookup f8 = some ⟨oc8, od8, .func (PySem.W.fnOf "is_way" "is_way" (defArgs s_is_way) (defBody s_is_way) (defScope s_is_way) .none kV8 dc8 pm8 an8 cd8 ct8), sl8⟩) (c8 : PySem.W.codeIn K cd8 "is_way" = true) (k8 : PySem.W.keepIn K (.ref f8) = true)
    (a9 : PySem.W.nsIn K mainGlobals "is_many" = some (some (.ref f9))) (l9 : K.lookup f9 = some ⟨oc9, od9, .func (PySem.W.fnOf "is_many" "is_many" (defArgs s_is_many) (defBody s_is_many) (defScope s_is_many) .none kV9 dc9 pm9 an9 cd9 ct9), sl9⟩) (c9 : PySem.W.codeIn K cd9 "is_many" = true) (k9 : PySem.W.keepIn K (.ref f9) = true)
    (a10 : PySem.W.nsIn K mainGlobals "is_move" = some (some (.ref f10))) (l10 : K.lookup f10 = some ⟨oc10, od10, .func (PySem.W.fnOf "is_move" "is_move" (defArgs s_is_move) (defBody s_is_move) (defScope s_is_move) .none kV10 dc10 pm10 an10 cd10 ct10), sl10⟩) (c10 : PySem.W.codeIn K cd10 "is_move" = true) (k10 : PySem.W.keepIn K (.ref f10) = true)
    (a11 : PySem.W.nsIn K mainGlobals "is_window" = some (some (.ref f11))) (l11 : K.lookup f11 = some ⟨oc11, od11, .func (PySem.W.fnOf "is_window" "is_window" (defArgs s_is_window) (defBody s_is_window) (defScope s_is_window) .none kV11 dc11 pm11 an11 cd11 ct11), sl11⟩) (c11 : PySem.W.codeIn K cd11 "is_window" = true) (k11 : PySem.W.keepIn K (.ref f11) = true)
    (a12 : PySem.W.nsIn K mainGlobals "is_sheet" = some (some (.ref f12))) (l12 : K.lookup f12 = some ⟨oc12, od12, .func (PySem.W.fnOf "is_sheet" "is_sheet" (defArgs s_is_sheet) (defBody s_is_sheet) (defScope s_is_sheet) .none kV12 dc12 pm12 an12 cd12 ct12), sl12⟩) (c12 : PySem.W.codeIn K cd12 "is_sheet" = true) (k12 : PySem.W.keepIn K (.ref f12) = true)
    (a13 : PySem.W.nsIn K mainGlobals "need_sheet" = some (some (.ref f13))) (l13 : K.lookup f13 = some ⟨oc13, od13, .func (PySem.W.fnOf "need_sheet" "need_sheet" (defArgs s_need_sheet) (defBody s_need_sheet) (defScope s_need_sheet) .none kV13 dc13 pm13 an13 cd13 ct13), sl13⟩) (c13 : PySem.W.codeIn K cd13 "need_sheet" = true) (k13 : PySem.W.keepIn K (.ref f13) = true)
    (a14 : PySem.W.nsIn K mainGlobals "need_as_many_layers" = some (some (.ref f14))) (l14 : K.lookup f14 = some ⟨oc14, od14, .func (PySem.W.fnOf "need_as_many_layers" "need_as_many_layers" (defArgs s_need_as_many_layers) (defBody s_need_as_many_layers) (defScope s_need_as_many_layers) .none kV14 dc14 pm14 an14 cd14 ct14), sl14⟩) (c14 : PySem.W.codeIn K cd14 "need_as_many_layers" = true) (k14 : PySem.W.keepIn K (.ref f14) = true)
    (a15 : PySem.W.nsIn K mainGlobals "held" = some (some (.ref f15))) (l15 : K.lookup f15 = some ⟨oc15, od15, .func (PySem.W.fnOf "held" "held" (defArgs s_held) (defBody s_held) (defScope s_held) .none kV15 dc15 pm15 an15 cd15 ct15), sl15⟩) (c15 : PySem.W.codeIn K cd15 "held" = true) (k15 : PySem.W.keepIn K (.ref f15) = true)
    (a16 : PySem.W.nsIn K mainGlobals "length_of" = some (some (.ref f16))) (l16 : K.lookup f16 = some ⟨oc16, od16, .func (PySem.W.fnOf "length_of" "length_of" (defArgs s_length_of) (defBody s_length_of) (defScope s_length_of) .none kV16 dc16 pm16 an16 cd16 ct16), sl16⟩) (c16 : PySem.W.codeIn K cd16 "length_of" = true) (k16 : PySem.W.keepIn K (.ref f16) = true)
    (a17 : PySem.W.nsIn K mainGlobals "moved" = some (some (.ref f17))) (l17 : K.lookup f17 = some ⟨oc17, od17, .func (PySem.W.fnOf "moved" "moved" (defArgs s_moved) (defBody s_moved) (defScope s_moved) .none kV17 dc17 pm17 an17 cd17 ct17), sl17⟩) (c17 : PySem.W.codeIn K cd17 "moved" = true) (k17 : PySem.W.keepIn K (.ref f17) = true)
    (a18 : PySem.W.nsIn K mainGlobals "full_length" = some (some (.ref f18))) (l18 : K.lookup f18 = some ⟨oc18, od18, .func (PySem.W.fnOf "full_length" "full_length" (defArgs s_full_length) (defBody s_full_length) (defScope s_full_length) .none kV18 dc18 pm18 an18 cd18 ct18), sl18⟩) (c18 : PySem.W.codeIn K cd18 "full_length" = true) (k18 : PySem.W.keepIn K (.ref f18) = true)
    (a19 : PySem.W.nsIn K mainGlobals "sheet_length" = some (some (.ref f19))) (l19 : K.lookup f19 = some ⟨oc19, od19, .func (PySem.W.fnOf "sheet_length" "sheet_length" (defArgs s_sheet_length) (defBody s_sheet_length) (defScope s_sheet_length) .none kV19 dc19 pm19 an19 cd19 ct19), sl19⟩) (c19 : PySem.W.codeIn K cd19 "sheet_length" = true) (k19 : PySem.W.keepIn K (.ref f19) = true)
    (a20 : PySem.W.nsIn K mainGlobals "first_time" = some (some (.ref f20))) (l20 : K.lookup f20 = some ⟨oc20, od20, .func (PySem.W.fnOf "first_time" "first_time" (defArgs s_first_time) (defBody s_first_time) (defScope s_first_time) .none kV20 dc20 pm20 an20 cd20 ct20), sl20⟩) (c20 : PySem.W.codeIn K cd20 "first_time" = true) (k20 : PySem.W.keepIn K (.ref f20) = true)
    (a21 : PySem.W.nsIn K mainGlobals "drawing_of" = some (some (.ref f21))) (l21 : K.lookup f21 = some ⟨oc21, od21, .func (PySem.W.fnOf "drawing_of" "drawing_of" (defArgs s_drawing_of) (defBody s_drawing_of) (defScope s_drawing_of) .none kV21 dc21 pm21 an21 cd21 ct21), sl21⟩) (c21 : PySem.W.codeIn K cd21 "drawing_of" = true) (k21 : PySem.W.keepIn K (.ref f21) = true)
    (a22 : PySem.W.nsIn K mainGlobals "common_divisor" = some (some (.ref f22))) (l22 : K.lookup f22 = some ⟨oc22, od22, .func (PySem.W.fnOf "common_divisor" "common_divisor" (defArgs s_common_divisor) (defBody s_common_divisor) (defScope s_common_divisor) .none kV22 dc22 pm22 an22 cd22 ct22), sl22⟩) (c22 : PySem.W.codeIn K cd22 "common_divisor" = true) (k22 : PySem.W.keepIn K (.ref f22) = true)
    (a23 : PySem.W.nsIn K mainGlobals "lowest" = some (some (.ref f23))) (l23 : K.lookup f23 = some ⟨oc23, od23, .func (PySem.W.fnOf "lowest" "lowest" (defArgs s_lowest) (defBody s_lowest) (defScope s_lowest) .none kV23 dc23 pm23 an23 cd23 ct23), sl23⟩) (c23 : PySem.W.codeIn K cd23 "lowest" = true) (k23 : PySem.W.keepIn K (.ref f23) = true)
    (a24 : PySem.W.nsIn K mainGlobals "on_the_way" = some (some (.ref f24))) (l24 : K.lookup f24 = some ⟨oc24, od24, .func (PySem.W.fnOf "on_the_way" "on_the_way" (defArgs s_on_the_way) (defBody s_on_the_way) (defScope s_on_the_way) .none kV24 dc24 pm24 an24 cd24 ct24), sl24⟩) (c24 : PySem.W.codeIn K cd24 "on_the_way" = true) (k24 : PySem.W.keepIn K (.ref f24) = true)
    (a25 : PySem.W.nsIn K mainGlobals "place_of" = some (some (.ref f25))) (l25 : K.lookup f25 = some ⟨oc25, od25, .func (PySem.W.fnOf "place_of" "place_of" (defArgs s_place_of) (defBody s_place_of) (defScope s_place_of) .none kV25 dc25 pm25 an25 cd25 ct25), sl25⟩) (c25 : PySem.W.codeIn K cd25 "place_of" = true) (k25 : PySem.W.keepIn K (.ref f25) = true)
    (a26 : PySem.W.nsIn K mainGlobals "picture_of" = some (some (.ref f26))) (l26 : K.lookup f26 = some ⟨oc26, od26, .func (PySem.W.fnOf "picture_of" "picture_of" (defArgs s_picture_of) (defBody s_picture_of) (defScope s_picture_of) .none kV26 dc26 pm26 an26 cd26 ct26), sl26⟩) (c26 : PySem.W.codeIn K cd26 "picture_of" = true) (k26 : PySem.W.keepIn K (.ref f26) = true)
    (a27 : PySem.W.nsIn K mainGlobals "picture_at" = some (some (.ref f27))) (l27 : K.lookup f27 = some ⟨oc27, od27, .func (PySem.W.fnOf "picture_at" "picture_at" (defArgs s_picture_at) (defBody s_picture_at) (defScope s_picture_at) .none kV27 dc27 pm27 an27 cd27 ct27), sl27⟩) (c27 : PySem.W.codeIn K cd27 "picture_at" = true) (k27 : PySem.W.keepIn K (.ref f27) = true)
    (a28 : PySem.W.nsIn K mainGlobals "drawings_of" = some (some (.ref f28))) (l28 : K.lookup f28 = some ⟨oc28, od28, .func (PySem.W.fnOf "drawings_of" "drawings_of" (defArgs s_drawings_of) (defBody s_drawings_of) (defScope s_drawings_of) .none kV28 dc28 pm28 an28 cd28 ct28), sl28⟩) (c28 : PySem.W.codeIn K cd28 "drawings_of" = true) (k28 : PySem.W.keepIn K (.ref f28) = true)
    (a29 : PySem.W.nsIn K mainGlobals "ahead_and_around" = some (some (.ref f29))) (l29 : K.lookup f29 = some ⟨oc29, od29, .func (PySem.W.fnOf "ahead_and_around" "ahead_and_around" (defArgs s_ahead_and_around) (defBody s_ahead_and_around) (defScope s_ahead_and_around) .none kV29 dc29 pm29 an29 cd29 ct29), sl29⟩) (c29 : PySem.W.codeIn K cd29 "ahead_and_around" = true) (k29 : PySem.W.keepIn K (.ref f29) = true)
    (a30 : PySem.W.nsIn K mainGlobals "first_drawings" = some (some (.ref f30))) (l30 : K.lookup f30 = some ⟨oc30, od30, .func (PySem.W.fnOf "first_drawings" "first_drawings" (defArgs s_first_drawings) (defBody s_first_drawings) (defScope s_first_drawings) .none kV30 dc30 pm30 an30 cd30 ct30), sl30⟩) (c30 : PySem.W.codeIn K cd30 "first_drawings" = true) (k30 : PySem.W.keepIn K (.ref f30) = true)
    (a31 : PySem.W.nsIn K mainGlobals "least_many" = some (some (.ref f31))) (l31 : K.lookup f31 = some ⟨oc31, od31, .func (PySem.W.fnOf "least_many" "least_many" (defArgs s_least_many) (defBody s_least_many) (defScope s_least_many) .none kV31 dc31 pm31 an31 cd31 ct31), sl31⟩) (c31 : PySem.W.codeIn K cd31 "least_many" = true) (k31 : PySem.W.keepIn K (.ref f31) = true)
    (a32 : PySem.W.nsIn K mainGlobals "least_ahead" = some (some (.ref f32))) (l32 : K.lookup f32 = some ⟨oc32, od32, .func (PySem.W.fnOf "least_ahead" "least_ahead" (defArgs s_least_ahead) (defBody s_least_ahead) (defScope s_least_ahead) .none kV32 dc32 pm32 an32 cd32 ct32), sl32⟩) (c32 : PySem.W.codeIn K cd32 "least_ahead" = true) (k32 : PySem.W.keepIn K (.ref f32) = true)
    (a33 : PySem.W.nsIn K mainGlobals "round_of" = some (some (.ref f33))) (l33 : K.lookup f33 = some ⟨oc33, od33, .func (PySem.W.fnOf "round_of" "round_of" (defArgs s_round_of) (defBody s_round_of) (defScope s_round_of) .none kV33 dc33 pm33 an33 cd33 ct33), sl33⟩) (c33 : PySem.W.codeIn K cd33 "round_of" = true) (k33 : PySem.W.keepIn K (.ref f33) = true)
    (a34 : PySem.W.nsIn K mainGlobals "first_places" = some (some (.ref f34))) (l34 : K.lookup f34 = some ⟨oc34, od34, .func (PySem.W.fnOf "first_places" "first_places" (defArgs s_first_places) (defBody s_first_places) (defScope s_first_places) .none kV34 dc34 pm34 an34 cd34 ct34), sl34⟩) (c34 : PySem.W.codeIn K cd34 "first_places" = true) (k34 : PySem.W.keepIn K (.ref f34) = true)
    (a35 : PySem.W.nsIn K mainGlobals "round_of_window" = some (some (.ref f35))) (l35 : K.lookup f35 = some ⟨oc35, od35, .func (PySem.W.fnOf "round_of_window" "round_of_window" (defArgs s_round_of_window) (defBody s_round_of_window) (defScope s_round_of_window) .none kV35 dc35 pm35 an35 cd35 ct35), sl35⟩) (c35 : PySem.W.codeIn K cd35 "round_of_window" = true) (k35 : PySem.W.keepIn K (.ref f35) = true)
    (a36 : PySem.W.nsIn K mainGlobals "common_multiple" = some (some (.ref f36))) (l36 : K.lookup f36 = some ⟨oc36, od36, .func (PySem.W.fnOf "common_multiple" "common_multiple" (defArgs s_common_multiple) (defBody s_common_multiple) (defScope s_common_multiple) .none kV36 dc36 pm36 an36 cd36 ct36), sl36⟩) (c36 : PySem.W.codeIn K cd36 "common_multiple" = true) (k36 : PySem.W.keepIn K (.ref f36) = true)
    (a37 : PySem.W.nsIn K mainGlobals "sheet_round" = some (some (.ref f37))) (l37 : K.lookup f37 = some ⟨oc37, od37, .func (PySem.W.fnOf "sheet_round" "sheet_round" (defArgs s_sheet_round) (defBody s_sheet_round) (defScope s_sheet_round) .none kV37 dc37 pm37 an37 cd37 ct37), sl37⟩) (c37 : PySem.W.codeIn K cd37 "sheet_round" = true) (k37 : PySem.W.keepIn K (.ref f37) = true)
    (a38 : PySem.W.nsIn K mainGlobals "first_unlike" = some (some (.ref f38))) (l38 : K.lookup f38 = some ⟨oc38, od38, .func (PySem.W.fnOf "first_unlike" "first_unlike" (defArgs s_first_unlike) (defBody s_first_unlike) (defScope s_first_unlike) .none kV38 dc38 pm38 an38 cd38 ct38), sl38⟩) (c38 : PySem.W.codeIn K cd38 "first_unlike" = true) (k38 : PySem.W.keepIn K (.ref f38) = true)
    (a39 : PySem.W.nsIn K mainGlobals "layers_parting" = some (some (.ref f39))) (l39 : K.lookup f39 = some ⟨oc39, od39, .func (PySem.W.fnOf "layers_parting" "layers_parting" (defArgs s_layers_parting) (defBody s_layers_parting) (defScope s_layers_parting) .none kV39 dc39 pm39 an39 cd39 ct39), sl39⟩) (c39 : PySem.W.codeIn K cd39 "layers_parting" = true) (k39 : PySem.W.keepIn K (.ref f39) = true)
    (a40 : PySem.W.nsIn K mainGlobals "windows_parting" = some (some (.ref f40))) (l40 : K.lookup f40 = some ⟨oc40, od40, .func (PySem.W.fnOf "windows_parting" "windows_parting" (defArgs s_windows_parting) (defBody s_windows_parting) (defScope s_windows_parting) .none kV40 dc40 pm40 an40 cd40 ct40), sl40⟩) (c40 : PySem.W.codeIn K cd40 "windows_parting" = true) (k40 : PySem.W.keepIn K (.ref f40) = true)
    (a41 : PySem.W.nsIn K mainGlobals "parting" = some (some (.ref f41))) (l41 : K.lookup f41 = some ⟨oc41, od41, .func (PySem.W.fnOf "parting" "parting" (defArgs s_parting) (defBody s_parting) (defScope s_parting) .none kV41 dc41 pm41 an41 cd41 ct41), sl41⟩) (c41 : PySem.W.codeIn K cd41 "parting" = true) (k41 : PySem.W.keepIn K (.ref f41) = true)
    (a42 : PySem.W.nsIn K mainGlobals "_law_cell_at" = some (some (.ref f42))) (l42 : K.lookup f42 = some ⟨oc42, od42, .func (PySem.W.fnOf "_law_cell_at" "_law_cell_at" (defArgs s__law_cell_at) (defBody s__law_cell_at) (defScope s__law_cell_at) .none kV42 dc42 pm42 an42 cd42 ct42), sl42⟩) (c42 : PySem.W.codeIn K cd42 "_law_cell_at" = true) (k42 : PySem.W.keepIn K (.ref f42) = true)
    (a43 : PySem.W.nsIn K mainGlobals "_law_state" = some (some (.ref f43))) (l43 : K.lookup f43 = some ⟨oc43, od43, .func (PySem.W.fnOf "_law_state" "_law_state" (defArgs s__law_state) (defBody s__law_state) (defScope s__law_state) .none kV43 dc43 pm43 an43 cd43 ct43), sl43⟩) (c43 : PySem.W.codeIn K cd43 "_law_state" = true) (k43 : PySem.W.keepIn K (.ref f43) = true)
    (a44 : PySem.W.nsIn K mainGlobals "_law_take" = some (some (.ref f44))) (l44 : K.lookup f44 = some ⟨oc44, od44, .func (PySem.W.fnOf "_law_take" "_law_take" (defArgs s__law_take) (defBody s__law_take) (defScope s__law_take) .none kV44 dc44 pm44 an44 cd44 ct44), sl44⟩) (c44 : PySem.W.codeIn K cd44 "_law_take" = true) (k44 : PySem.W.keepIn K (.ref f44) = true)
    (a45 : PySem.W.nsIn K mainGlobals "_law_row" = some (some (.ref f45))) (l45 : K.lookup f45 = some ⟨oc45, od45, .func (PySem.W.fnOf "_law_row" "_law_row" (defArgs s__law_row) (defBody s__law_row) (defScope s__law_row) .none kV45 dc45 pm45 an45 cd45 ct45), sl45⟩) (c45 : PySem.W.codeIn K cd45 "_law_row" = true) (k45 : PySem.W.keepIn K (.ref f45) = true)
    (a46 : PySem.W.nsIn K mainGlobals "_law_layer" = some (some (.ref f46))) (l46 : K.lookup f46 = some ⟨oc46, od46, .func (PySem.W.fnOf "_law_layer" "_law_layer" (defArgs s__law_layer) (defBody s__law_layer) (defScope s__law_layer) .none kV46 dc46 pm46 an46 cd46 ct46), sl46⟩) (c46 : PySem.W.codeIn K cd46 "_law_layer" = true) (k46 : PySem.W.keepIn K (.ref f46) = true)
    (a47 : PySem.W.nsIn K mainGlobals "_law_turning" = some (some (.ref f47))) (l47 : K.lookup f47 = some ⟨oc47, od47, .func (PySem.W.fnOf "_law_turning" "_law_turning" (defArgs s__law_turning) (defBody s__law_turning) (defScope s__law_turning) .none kV47 dc47 pm47 an47 cd47 ct47), sl47⟩) (c47 : PySem.W.codeIn K cd47 "_law_turning" = true) (k47 : PySem.W.keepIn K (.ref f47) = true)
    (a48 : PySem.W.nsIn K mainGlobals "_law_window" = some (some (.ref f48))) (l48 : K.lookup f48 = some ⟨oc48, od48, .func (PySem.W.fnOf "_law_window" "_law_window" (defArgs s__law_window) (defBody s__law_window) (defScope s__law_window) .none kV48 dc48 pm48 an48 cd48 ct48), sl48⟩) (c48 : PySem.W.codeIn K cd48 "_law_window" = true) (k48 : PySem.W.keepIn K (.ref f48) = true)
    (a49 : PySem.W.nsIn K mainGlobals "_law_sheet" = some (some (.ref f49))) (l49 : K.lookup f49 = some ⟨oc49, od49, .func (PySem.W.fnOf "_law_sheet" "_law_sheet" (defArgs s__law_sheet) (defBody s__law_sheet) (defScope s__law_sheet) .none kV49 dc49 pm49 an49 cd49 ct49), sl49⟩) (c49 : PySem.W.codeIn K cd49 "_law_sheet" = true) (k49 : PySem.W.keepIn K (.ref f49) = true)
    (a50 : PySem.W.nsIn K mainGlobals "_law_mixed" = some (some (.ref f50))) (l50 : K.lookup f50 = some ⟨oc50, od50, .func (PySem.W.fnOf "_law_mixed" "_law_mixed" (defArgs s__law_mixed) (defBody s__law_mixed) (defScope s__law_mixed) .none kV50 dc50 pm50 an50 cd50 ct50), sl50⟩) (c50 : PySem.W.codeIn K cd50 "_law_mixed" = true) (k50 : PySem.W.keepIn K (.ref f50) = true)
    (a51 : PySem.W.nsIn K mainGlobals "_law_named" = some (some (.ref f51))) (l51 : K.lookup f51 = some ⟨oc51, od51, .func (PySem.W.fnOf "_law_named" "_law_named" (defArgs s__law_named) (defBody s__law_named) (defScope s__law_named) .none kV51 dc51 pm51 an51 cd51 ct51), sl51⟩) (c51 : PySem.W.codeIn K cd51 "_law_named" = true) (k51 : PySem.W.keepIn K (.ref f51) = true)
    (a52 : PySem.W.nsIn K mainGlobals "_law_halved" = some (some (.ref f52))) (l52 : K.lookup f52 = some ⟨oc52, od52, .func (PySem.W.fnOf "_law_halved" "_law_halved" (defArgs s__law_halved) (defBody s__law_halved) (defScope s__law_halved) .none kV52 dc52 pm52 an52 cd52 ct52), sl52⟩) (c52 : PySem.W.codeIn K cd52 "_law_halved" = true) (k52 : PySem.W.keepIn K (.ref f52) = true)
    (a53 : PySem.W.nsIn K mainGlobals "_law_aside" = some (some (.ref f53))) (l53 : K.lookup f53 = some ⟨oc53, od53, .func (PySem.W.fnOf "_law_aside" "_law_aside" (defArgs s__law_aside) (defBody s__law_aside) (defScope s__law_aside) .none kV53 dc53 pm53 an53 cd53 ct53), sl53⟩) (c53 : PySem.W.codeIn K cd53 "_law_aside" = true) (k53 : PySem.W.keepIn K (.ref f53) = true)
    (a54 : PySem.W.nsIn K mainGlobals "_law_set" = some (some (.ref f54))) (l54 : K.lookup f54 = some ⟨oc54, od54, .func (PySem.W.fnOf "_law_set" "_law_set" (defArgs s__law_set) (defBody s__law_set) (defScope s__law_set) .none kV54 dc54 pm54 an54 cd54 ct54), sl54⟩) (c54 : PySem.W.codeIn K cd54 "_law_set" = true) (k54 : PySem.W.keepIn K (.ref f54) = true)
    (a55 : PySem.W.nsIn K mainGlobals "law" = some (some (.ref f55))) (l55 : K.lookup f55 = some ⟨oc55, od55, .func (PySem.W.fnOf "law" "law" (defArgs s_law) (defBody s_law) (defScope s_law) .none kV55 dc55 pm55 an55 cd55 ct55), sl55⟩) (c55 : PySem.W.codeIn K cd55 "law" = true) (k55 : PySem.W.keepIn K (.ref f55) = true)
    (z_len : PySem.W.nsIn K mainGlobals "len" = some none)
    (z_isinstance : PySem.W.nsIn K mainGlobals "isinstance" = some none)
    (z_max : PySem.W.nsIn K mainGlobals "max" = some none)
    (z_min : PySem.W.nsIn K mainGlobals "min" = some none)
    (z_sum : PySem.W.nsIn K mainGlobals "sum" = some none)
    (z_all : PySem.W.nsIn K mainGlobals "all" = some none)
    (z_tuple : PySem.W.nsIn K mainGlobals "tuple" = some none)
    (z_list : PySem.W.nsIn K mainGlobals "list" = some none)
    (z_abs : PySem.W.nsIn K mainGlobals "abs" = some none)
    (z_range : PySem.W.nsIn K mainGlobals "range" = some none)
    (z_zip : PySem.W.nsIn K mainGlobals "zip" = some none)
    (z_enumerate : PySem.W.nsIn K mainGlobals "enumerate" = some none)
    (z_bool : PySem.W.nsIn K mainGlobals "bool" = some none)
    (z_int : PySem.W.nsIn K mainGlobals "int" = some none)
    (v_LAST_MOMENT : PySem.W.nsIn K mainGlobals "LAST_MOMENT" = some (some (.int 1000000000 t0)))
    (v_MOST_DRAWING : PySem.W.nsIn K mainGlobals "MOST_DRAWING" = some (some (.int 9 t1)))
    (v_MOST_HOLD : PySem.W.nsIn K mainGlobals "MOST_HOLD" = some (some (.int 24 t2)))
    (v_MOST_ROWS : PySem.W.nsIn K mainGlobals "MOST_ROWS" = some (some (.int 8 t3)))
    (v_MOST_WAY : PySem.W.nsIn K mainGlobals "MOST_WAY" = some (some (.int 20 t4)))
    (v_MOST_MANY : PySem.W.nsIn K mainGlobals "MOST_MANY" = some (some (.int 24 t5)))
    (v_MOST_MOVES : PySem.W.nsIn K mainGlobals "MOST_MOVES" = some (some (.int 8 t6)))
    (v_MOST_LAYERS : PySem.W.nsIn K mainGlobals "MOST_LAYERS" = some (some (.int 4 t7))) :
    ∃ fd : FuncData, (∀ (s : Shared) (v : Value), BindsTo s fd ⟨[v], []⟩ [("_law_script", v)]) ∧ ∀ base : Heap, K.In base → base.Ns mainGlobals mg → FnOk l.prog w K mg base CX0 9 fa fd ["_law_script"] (sp_law K) := by
  have e := hfa.symm.trans (PySem.W.mg_of X G a55)
  cases e
  have T : Txt K mg := ⟨PySem.W.mg_none_of X G z_len, PySem.W.mg_none_of X G z_isinstance, PySem.W.mg_none_of X G z_max, PySem.W.mg_none_of X G z_min, PySem.W.mg_none_of X G z_sum, PySem.W.mg_none_of X G z_all, PySem.W.mg_none_of X G z_tuple, PySem.W.mg_none_of X G z_list, PySem.W.mg_none_of X G z_abs, PySem.W.mg_none_of X G z_range, PySem.W.mg_none_of X G z_zip, PySem.W.mg_none_of X G z_enumerate, PySem.W.mg_none_of X G z_bool, PySem.W.mg_none_of X G z_int, ⟨_, PySem.W.mg_of X G v_LAST_MOMENT⟩, ⟨_, PySem.W.mg_of X G v_MOST_DRAWING⟩, ⟨_, PySem.W.mg_of X G v_MOST_HOLD⟩, ⟨_, PySem.W.mg_of X G v_MOST_ROWS⟩, ⟨_, PySem.W.mg_of X G v_MOST_WAY⟩, ⟨_, PySem.W.mg_of X G v_MOST_MANY⟩, ⟨_, PySem.W.mg_of X G v_MOST_MOVES⟩, ⟨_, PySem.W.mg_of X G v_MOST_LAYERS⟩⟩
  refine ⟨PySem.W.fnOf "law" "law" (defArgs s_law) (defBody s_law) (defScope s_law) .none kV55 dc55 pm55 an55 cd55 ct55, fun s v => .of_eq rfl, fun base _ _ => ?_⟩
  have F0 := fun_mk (st := s_is_whole_from) l0 c0 k0
  have b0 := F0.binds (ps := ["thing", "least"]) fun _ _ _ _ _ _ us hl => match us, hl with | [_, _], _ => rfl
  have D_is_whole_from : Cl l.prog w K mg base 1 "is_whole_from" ["thing", "least"] (sp_is_whole_from K) := ⟨_, _, ok_is_whole_from F0 T , k0, b0, PySem.W.mg_of X G a0⟩
  have F1 := fun_mk (st := s_is_whole) l1 c1 k1
  have b1 := F1.binds (ps := ["thing", "least", "most"]) fun _ _ _ _ _ _ us hl => match us, hl with | [_, _, _], _ => rfl
  have D_is_whole : Cl l.prog w K mg base 2 "is_whole" ["thing", "least", "most"] (sp_is_whole K) := ⟨_, _, ok_is_whole F1 T (D_is_whole_from), k1, b1, PySem.W.mg_of X G a1⟩
  have F2 := fun_mk (st := s_need_moment) l2 c2 k2
  have b2 := F2.binds (ps := ["thing"]) fun _ _ _ _ _ _ us hl => match us, hl with | [_], _ => rfl
  have D_need_moment : Cl l.prog w K mg base 3 "need_moment" ["thing"] (sp_need_moment K) := ⟨_, _, ok_need_moment F2 T (D_is_whole), k2, b2, PySem.W.mg_of X G a2⟩
  have F3 := fun_mk (st := s_is_tuple) l3 c3 k3
  have b3 := F3.binds (ps := ["thing", "least", "most"]) fun _ _ _ _ _ _ us hl => match us, hl with | [_, _, _], _ => rfl
  have D_is_tuple : Cl l.prog w K mg base 1 "is_tuple" ["thing", "least", "most"] (sp_is_tuple K) := ⟨_, _, ok_is_tuple F3 T , k3, b3, PySem.W.mg_of X G a3⟩
  have F4 := fun_mk (st := s_is_drawing) l4 c4 k4
  have b4 := F4.binds (ps := ["thing"]) fun _ _ _ _ _ _ us hl => match us, hl with | [_], _ => rfl
  have D_is_drawing : Cl l.prog w K mg base 3 "is_drawing" ["thing"] (sp_is_drawing K) := ⟨_, _, ok_is_drawing F4 T (D_is_whole), k4, b4, PySem.W.mg_of X G a4⟩
  have F5 := fun_mk (st := s_is_hold) l5 c5 k5
  have b5 := F5.binds (ps := ["thing"]) fun _ _ _ _ _ _ us hl => match us, hl with | [_], _ => rfl
  have D_is_hold : Cl l.prog w K mg base 3 "is_hold" ["thing"] (sp_is_hold K) := ⟨_, _, ok_is_hold F5 T (D_is_whole), k5, b5, PySem.W.mg_of X G a5⟩
  have F6 := fun_mk (st := s_is_row) l6 c6 k6
  have b6 := F6.binds (ps := ["thing"]) fun _ _ _ _ _ _ us hl => match us, hl with | [_], _ => rfl
  have D_is_row : Cl l.prog w K mg base 4 "is_row" ["thing"] (sp_is_row K) := ⟨_, _, ok_is_row F6 T (D_is_tuple) (D_is_drawing) (D_is_hold), k6, b6, PySem.W.mg_of X G a6⟩
  have F7 := fun_mk (st := s_is_layer) l7 c7 k7
  have b7 := F7.binds (ps := ["thing"]) fun _ _ _ _ _ _ us hl => match us, hl with | [_], _ => rfl
  have D_is_layer : Cl l.prog w K mg base 5 "is_layer" ["thing"] (sp_is_layer K) := ⟨_, _, ok_is_layer F7 T (D_is_tuple) (D_is_row) (D_is_whole), k7, b7, PySem.W.mg_of X G a7⟩
  have F8 := fun_mk (st := s_is_way) l8 c8 k8
  have b8 := F8.binds (ps := ["thing"]) fun _ _ _ _ _ _ us hl => match us, hl with | [_], _ => rfl
  have D_is_way : Cl l.prog w K mg base 3 "is_way" ["thing"] (sp_is_way K) := ⟨_, _, ok_is_way F8 T (D_is_whole), k8, b8, PySem.W.mg_of X G a8⟩
  have F9 := fun_mk (st := s_is_many) l9 c9 k9
  have b9 := F9.binds (ps := ["thing"]) fun _ _ _ _ _ _ us hl => match us, hl with | [_], _ => rfl
  have D_is_many : Cl l.prog w K mg base 3 "is_many" ["thing"] (sp_is_many K) := ⟨_, _, ok_is_many F9 T (D_is_whole), k9, b9, PySem.W.mg_of X G a9⟩
  have F10 := fun_mk (st := s_is_move) l10 c10 k10
  have b10 := F10.binds (ps := ["thing"]) fun _ _ _ _ _ _ us hl => match us, hl with | [_], _ => rfl
  have D_is_move : Cl l.prog w K mg base 4 "is_move" ["thing"] (sp_is_move K) := ⟨_, _, ok_is_move F10 T (D_is_tuple) (D_is_way) (D_is_many), k10, b10, PySem.W.mg_of X G a10⟩
  have F11 := fun_mk (st := s_is_window) l11 c11 k11
  have b11 := F11.binds (ps := ["thing"]) fun _ _ _ _ _ _ us hl => match us, hl with | [_], _ => rfl
  have D_is_window : Cl l.prog w K mg base 5 "is_window" ["thing"] (sp_is_window K) := ⟨_, _, ok_is_window F11 T (D_is_tuple) (D_is_way) (D_is_move), k11, b11, PySem.W.mg_of X G a11⟩
  have F12 := fun_mk (st := s_is_sheet) l12 c12 k12
  have b12 := F12.binds (ps := ["thing"]) fun _ _ _ _ _ _ us hl => match us, hl with | [_], _ => rfl
  have D_is_sheet : Cl l.prog w K mg base 6 "is_sheet" ["thing"] (sp_is_sheet K) := ⟨_, _, ok_is_sheet F12 T (D_is_tuple) (D_is_window) (D_is_layer), k12, b12, PySem.W.mg_of X G a12⟩
  have F13 := fun_mk (st := s_need_sheet) l13 c13 k13
  have b13 := F13.binds (ps := ["thing"]) fun _ _ _ _ _ _ us hl => match us, hl with | [_], _ => rfl
  have D_need_sheet : Cl l.prog w K mg base 7 "need_sheet" ["thing"] (sp_need_sheet K) := ⟨_, _, ok_need_sheet F13 T (D_is_sheet), k13, b13, PySem.W.mg_of X G a13⟩
  have F14 := fun_mk (st := s_need_as_many_layers) l14 c14 k14
  have b14 := F14.binds (ps := ["one", "other"]) fun _ _ _ _ _ _ us hl => match us, hl with | [_, _], _ => rfl
  have D_need_as_many_layers : Cl l.prog w K mg base 1 "need_as_many_layers" ["one", "other"] (sp_need_as_many_layers K) := ⟨_, _, ok_need_as_many_layers F14 T , k14, b14, PySem.W.mg_of X G a14⟩
  have F15 := fun_mk (st := s_held) l15 c15 k15
  have b15 := F15.binds (ps := ["rows"]) fun _ _ _ _ _ _ us hl => match us, hl with | [_], _ => rfl
  have D_held : Cl l.prog w K mg base 1 "held" ["rows"] (sp_held K) := ⟨_, _, ok_held F15 T , k15, b15, PySem.W.mg_of X G a15⟩
  have F16 := fun_mk (st := s_length_of) l16 c16 k16
  have b16 := F16.binds (ps := ["layer"]) fun _ _ _ _ _ _ us hl => match us, hl with | [_], _ => rfl
  have D_length_of : Cl l.prog w K mg base 2 "length_of" ["layer"] (sp_length_of K) := ⟨_, _, ok_length_of F16 T (D_held), k16, b16, PySem.W.mg_of X G a16⟩
  have F17 := fun_mk (st := s_moved) l17 c17 k17
  have b17 := F17.binds (ps := ["window"]) fun _ _ _ _ _ _ us hl => match us, hl with | [_], _ => rfl
  have D_moved : Cl l.prog w K mg base 1 "moved" ["window"] (sp_moved K) := ⟨_, _, ok_moved F17 T , k17, b17, PySem.W.mg_of X G a17⟩
  have F18 := fun_mk (st := s_full_length) l18 c18 k18
  have b18 := F18.binds (ps := ["sheet"]) fun _ _ _ _ _ _ us hl => match us, hl with | [_], _ => rfl
  have D_full_length : Cl l.prog w K mg base 3 "full_length" ["sheet"] (sp_full_length K) := ⟨_, _, ok_full_length F18 T (D_length_of) (D_moved), k18, b18, PySem.W.mg_of X G a18⟩
  have F19 := fun_mk (st := s_sheet_length) l19 c19 k19
  have b19 := F19.binds (ps := ["sheet"]) fun _ _ _ _ _ _ us hl => match us, hl with | [_], _ => rfl
  have D_sheet_length : Cl l.prog w K mg base 8 "sheet_length" ["sheet"] (sp_sheet_length K) := ⟨_, _, ok_sheet_length F19 T (D_need_sheet) (D_full_length), k19, b19, PySem.W.mg_of X G a19⟩
  have F20 := fun_mk (st := s_first_time) l20 c20 k20
  have b20 := F20.binds (ps := ["rows", "back", "moment"]) fun _ _ _ _ _ _ us hl => match us, hl with | [_, _, _], _ => rfl
  have D_first_time : Cl l.prog w K mg base 2 "first_time" ["rows", "back", "moment"] (sp_first_time K) := ⟨_, _, ok_first_time F20 T (D_held), k20, b20, PySem.W.mg_of X G a20⟩
  have F21 := fun_mk (st := s_drawing_of) l21 c21 k21
  have b21 := F21.binds (ps := ["layer", "moment"]) fun _ _ _ _ _ _ us hl => match us, hl with | [_, _], _ => rfl
  have D_drawing_of : Cl l.prog w K mg base 3 "drawing_of" ["layer", "moment"] (sp_drawing_of K) := ⟨_, _, ok_drawing_of F21 T (D_first_time), k21, b21, PySem.W.mg_of X G a21⟩
  have F22 := fun_mk (st := s_common_divisor) l22 c22 k22
  have b22 := F22.binds (ps := ["one", "other"]) fun _ _ _ _ _ _ us hl => match us, hl with | [_, _], _ => rfl
  have D_common_divisor : Cl l.prog w K mg base 1 "common_divisor" ["one", "other"] (sp_common_divisor K) := ⟨_, _, ok_common_divisor F22 T , k22, b22, PySem.W.mg_of X G a22⟩
  have F23 := fun_mk (st := s_lowest) l23 c23 k23
  have b23 := F23.binds (ps := ["top", "bottom"]) fun _ _ _ _ _ _ us hl => match us, hl with | [_, _], _ => rfl
  have D_lowest : Cl l.prog w K mg base 2 "lowest" ["top", "bottom"] (sp_lowest K) := ⟨_, _, ok_lowest F23 T (D_common_divisor), k23, b23, PySem.W.mg_of X G a23⟩
  have F24 := fun_mk (st := s_on_the_way) l24 c24 k24
  have b24 := F24.binds (ps := ["start", "goal", "step", "many"]) fun _ _ _ _ _ _ us hl => match us, hl with | [_, _, _, _], _ => rfl
  have D_on_the_way : Cl l.prog w K mg base 3 "on_the_way" ["start", "goal", "step", "many"] (sp_on_the_way K) := ⟨_, _, ok_on_the_way F24 T (D_lowest), k24, b24, PySem.W.mg_of X G a24⟩
  have F25 := fun_mk (st := s_place_of) l25 c25 k25
  have b25 := F25.binds (ps := ["window", "moment"]) fun _ _ _ _ _ _ us hl => match us, hl with | [_, _], _ => rfl
  have D_place_of : Cl l.prog w K mg base 4 "place_of" ["window", "moment"] (sp_place_of K) := ⟨_, _, ok_place_of F25 T (D_on_the_way), k25, b25, PySem.W.mg_of X G a25⟩
  have F26 := fun_mk (st := s_picture_of) l26 c26 k26
  have b26 := F26.binds (ps := ["sheet", "moment"]) fun _ _ _ _ _ _ us hl => match us, hl with | [_, _], _ => rfl
  have D_picture_of : Cl l.prog w K mg base 5 "picture_of" ["sheet", "moment"] (sp_picture_of K) := ⟨_, _, ok_picture_of F26 T (D_drawing_of) (D_place_of), k26, b26, PySem.W.mg_of X G a26⟩
  have F27 := fun_mk (st := s_picture_at) l27 c27 k27
  have b27 := F27.binds (ps := ["sheet", "moment"]) fun _ _ _ _ _ _ us hl => match us, hl with | [_, _], _ => rfl
  have D_picture_at : Cl l.prog w K mg base 8 "picture_at" ["sheet", "moment"] (sp_picture_at K) := ⟨_, _, ok_picture_at F27 T (D_need_sheet) (D_need_moment) (D_picture_of), k27, b27, PySem.W.mg_of X G a27⟩
  have F28 := fun_mk (st := s_drawings_of) l28 c28 k28
  have b28 := F28.binds (ps := ["rows"]) fun _ _ _ _ _ _ us hl => match us, hl with | [_], _ => rfl
  have D_drawings_of : Cl l.prog w K mg base 1 "drawings_of" ["rows"] (sp_drawings_of K) := ⟨_, _, ok_drawings_of F28 T , k28, b28, PySem.W.mg_of X G a28⟩
  have F29 := fun_mk (st := s_ahead_and_around) l29 c29 k29
  have b29 := F29.binds (ps := ["layer"]) fun _ _ _ _ _ _ us hl => match us, hl with | [_], _ => rfl
  have D_ahead_and_around : Cl l.prog w K mg base 2 "ahead_and_around" ["layer"] (sp_ahead_and_around K) := ⟨_, _, ok_ahead_and_around F29 T (D_drawings_of), k29, b29, PySem.W.mg_of X G a29⟩
  have F30 := fun_mk (st := s_first_drawings) l30 c30 k30
  have b30 := F30.binds (ps := ["layer", "many"]) fun _ _ _ _ _ _ us hl => match us, hl with | [_, _], _ => rfl
  have D_first_drawings : Cl l.prog w K mg base 3 "first_drawings" ["layer", "many"] (sp_first_drawings K) := ⟨_, _, ok_first_drawings F30 T (D_ahead_and_around), k30, b30, PySem.W.mg_of X G a30⟩
  have F31 := fun_mk (st := s_least_many) l31 c31 k31
  have b31 := F31.binds (ps := ["around"]) fun _ _ _ _ _ _ us hl => match us, hl with | [_], _ => rfl
  have D_least_many : Cl l.prog w K mg base 1 "least_many" ["around"] (sp_least_many K) := ⟨_, _, ok_least_many F31 T , k31, b31, PySem.W.mg_of X G a31⟩
  have F32 := fun_mk (st := s_least_ahead) l32 c32 k32
  have b32 := F32.binds (ps := ["shown", "ahead", "many"]) fun _ _ _ _ _ _ us hl => match us, hl with | [_, _, _], _ => rfl
  have D_least_ahead : Cl l.prog w K mg base 1 "least_ahead" ["shown", "ahead", "many"] (sp_least_ahead K) := ⟨_, _, ok_least_ahead F32 T , k32, b32, PySem.W.mg_of X G a32⟩
  have F33 := fun_mk (st := s_round_of) l33 c33 k33
  have b33 := F33.binds (ps := ["layer"]) fun _ _ _ _ _ _ us hl => match us, hl with | [_], _ => rfl
  have D_round_of : Cl l.prog w K mg base 3 "round_of" ["layer"] (sp_round_of K) := ⟨_, _, ok_round_of F33 T (D_ahead_and_around) (D_least_many) (D_least_ahead), k33, b33, PySem.W.mg_of X G a33⟩
  have F34 := fun_mk (st := s_first_places) l34 c34 k34
  have b34 := F34.binds (ps := ["window", "many"]) fun _ _ _ _ _ _ us hl => match us, hl with | [_, _], _ => rfl
  have D_first_places : Cl l.prog w K mg base 5 "first_places" ["window", "many"] (sp_first_places K) := ⟨_, _, ok_first_places F34 T (D_place_of), k34, b34, PySem.W.mg_of X G a34⟩
  have F35 := fun_mk (st := s_round_of_window) l35 c35 k35
  have b35 := F35.binds (ps := ["window"]) fun _ _ _ _ _ _ us hl => match us, hl with | [_], _ => rfl
  have D_round_of_window : Cl l.prog w K mg base 6 "round_of_window" ["window"] (sp_round_of_window K) := ⟨_, _, ok_round_of_window F35 T (D_moved) (D_least_ahead) (D_first_places), k35, b35, PySem.W.mg_of X G a35⟩
  have F36 := fun_mk (st := s_common_multiple) l36 c36 k36
  have b36 := F36.binds (ps := ["one", "other"]) fun _ _ _ _ _ _ us hl => match us, hl with | [_, _], _ => rfl
  have D_common_multiple : Cl l.prog w K mg base 2 "common_multiple" ["one", "other"] (sp_common_multiple K) := ⟨_, _, ok_common_multiple F36 T (D_common_divisor), k36, b36, PySem.W.mg_of X G a36⟩
  have F37 := fun_mk (st := s_sheet_round) l37 c37 k37
  have b37 := F37.binds (ps := ["sheet"]) fun _ _ _ _ _ _ us hl => match us, hl with | [_], _ => rfl
  have D_sheet_round : Cl l.prog w K mg base 8 "sheet_round" ["sheet"] (sp_sheet_round K) := ⟨_, _, ok_sheet_round F37 T (D_need_sheet) (D_round_of_window) (D_round_of) (D_common_multiple), k37, b37, PySem.W.mg_of X G a37⟩
  have F38 := fun_mk (st := s_first_unlike) l38 c38 k38
  have b38 := F38.binds (ps := ["one", "other"]) fun _ _ _ _ _ _ us hl => match us, hl with | [_, _], _ => rfl
  have D_first_unlike : Cl l.prog w K mg base 1 "first_unlike" ["one", "other"] (sp_first_unlike K) := ⟨_, _, ok_first_unlike F38 T , k38, b38, PySem.W.mg_of X G a38⟩
  have F39 := fun_mk (st := s_layers_parting) l39 c39 k39
  have b39 := F39.binds (ps := ["one", "other"]) fun _ _ _ _ _ _ us hl => match us, hl with | [_, _], _ => rfl
  have D_layers_parting : Cl l.prog w K mg base 4 "layers_parting" ["one", "other"] (sp_layers_parting K) := ⟨_, _, ok_layers_parting F39 T (D_round_of) (D_first_unlike) (D_first_drawings), k39, b39, PySem.W.mg_of X G a39⟩
  have F40 := fun_mk (st := s_windows_parting) l40 c40 k40
  have b40 := F40.binds (ps := ["one", "other"]) fun _ _ _ _ _ _ us hl => match us, hl with | [_, _], _ => rfl
  have D_windows_parting : Cl l.prog w K mg base 6 "windows_parting" ["one", "other"] (sp_windows_parting K) := ⟨_, _, ok_windows_parting F40 T (D_moved) (D_first_unlike) (D_first_places), k40, b40, PySem.W.mg_of X G a40⟩
  have F41 := fun_mk (st := s_parting) l41 c41 k41
  have b41 := F41.binds (ps := ["one", "other"]) fun _ _ _ _ _ _ us hl => match us, hl with | [_, _], _ => rfl
  have D_parting : Cl l.prog w K mg base 8 "parting" ["one", "other"] (sp_parting K) := ⟨_, _, ok_parting F41 T (D_need_sheet) (D_need_as_many_layers) (D_layers_parting) (D_windows_parting), k41, b41, PySem.W.mg_of X G a41⟩
  have F42 := fun_mk (st := s__law_cell_at) l42 c42 k42
  have b42 := F42.binds (ps := ["_law_script", "_law_k"]) fun _ _ _ _ _ _ us hl => match us, hl with | [_, _], _ => rfl
  have D__law_cell_at : Cl l.prog w K mg base 1 "_law_cell_at" ["_law_script", "_law_k"] (sp__law_cell_at K) := ⟨_, _, ok__law_cell_at F42 T , k42, b42, PySem.W.mg_of X G a42⟩
  have F43 := fun_mk (st := s__law_state) l43 c43 k43
  have b43 := F43.binds (ps := ["_law_script", "_law_k"]) fun _ _ _ _ _ _ us hl => match us, hl with | [_, _], _ => rfl
  have D__law_state : Cl l.prog w K mg base 2 "_law_state" ["_law_script", "_law_k"] (sp__law_state K) := ⟨_, _, ok__law_state F43 T (D__law_cell_at), k43, b43, PySem.W.mg_of X G a43⟩
  have F44 := fun_mk (st := s__law_take) l44 c44 k44
  have b44 := F44.binds (ps := ["_law_state_here", "_law_many"]) fun _ _ _ _ _ _ us hl => match us, hl with | [_, _], _ => rfl
  have D__law_take : Cl l.prog w K mg base 1 "_law_take" ["_law_state_here", "_law_many"] (sp__law_take K) := ⟨_, _, ok__law_take F44 T , k44, b44, PySem.W.mg_of X G a44⟩
  have F45 := fun_mk (st := s__law_row) l45 c45 k45
  have b45 := F45.binds (ps := ["_law_state_here", "_law_way"]) fun _ _ _ _ _ _ us hl => match us, hl with | [_, _], _ => rfl
  have D__law_row : Cl l.prog w K mg base 2 "_law_row" ["_law_state_here", "_law_way"] (sp__law_row K) := ⟨_, _, ok__law_row F45 T (D__law_take), k45, b45, PySem.W.mg_of X G a45⟩
  have F46 := fun_mk (st := s__law_layer) l46 c46 k46
  have b46 := F46.binds (ps := ["_law_state_here"]) fun _ _ _ _ _ _ us hl => match us, hl with | [_], _ => rfl
  have D__law_layer : Cl l.prog w K mg base 3 "_law_layer" ["_law_state_here"] (sp__law_layer K) := ⟨_, _, ok__law_layer F46 T (D__law_take) (D__law_row), k46, b46, PySem.W.mg_of X G a46⟩
  have F47 := fun_mk (st := s__law_turning) l47 c47 k47
  have b47 := F47.binds (ps := ["_law_state_here"]) fun _ _ _ _ _ _ us hl => match us, hl with | [_], _ => rfl
  have D__law_turning : Cl l.prog w K mg base 2 "_law_turning" ["_law_state_here"] (sp__law_turning K) := ⟨_, _, ok__law_turning F47 T (D__law_take), k47, b47, PySem.W.mg_of X G a47⟩
  have F48 := fun_mk (st := s__law_window) l48 c48 k48
  have b48 := F48.binds (ps := ["_law_state_here"]) fun _ _ _ _ _ _ us hl => match us, hl with | [_], _ => rfl
  have D__law_window : Cl l.prog w K mg base 2 "_law_window" ["_law_state_here"] (sp__law_window K) := ⟨_, _, ok__law_window F48 T (D__law_take), k48, b48, PySem.W.mg_of X G a48⟩
  have F49 := fun_mk (st := s__law_sheet) l49 c49 k49
  have b49 := F49.binds (ps := ["_law_state_here"]) fun _ _ _ _ _ _ us hl => match us, hl with | [_], _ => rfl
  have D__law_sheet : Cl l.prog w K mg base 4 "_law_sheet" ["_law_state_here"] (sp__law_sheet K) := ⟨_, _, ok__law_sheet F49 T (D__law_window) (D__law_layer) (D__law_take), k49, b49, PySem.W.mg_of X G a49⟩
  have F50 := fun_mk (st := s__law_mixed) l50 c50 k50
  have b50 := F50.binds (ps := ["_law_state_here", "_law_many"]) fun _ _ _ _ _ _ us hl => match us, hl with | [_, _], _ => rfl
  have D__law_mixed : Cl l.prog w K mg base 2 "_law_mixed" ["_law_state_here", "_law_many"] (sp__law_mixed K) := ⟨_, _, ok__law_mixed F50 T (D__law_take), k50, b50, PySem.W.mg_of X G a50⟩
  have F51 := fun_mk (st := s__law_named) l51 c51 k51
  have b51 := F51.binds (ps := ["_law_sheet_here", "_law_names"]) fun _ _ _ _ _ _ us hl => match us, hl with | [_, _], _ => rfl
  have D__law_named : Cl l.prog w K mg base 1 "_law_named" ["_law_sheet_here", "_law_names"] (sp__law_named K) := ⟨_, _, ok__law_named F51 T , k51, b51, PySem.W.mg_of X G a51⟩
  have F52 := fun_mk (st := s__law_halved) l52 c52 k52
  have b52 := F52.binds (ps := ["_law_window_here"]) fun _ _ _ _ _ _ us hl => match us, hl with | [_], _ => rfl
  have D__law_halved : Cl l.prog w K mg base 1 "_law_halved" ["_law_window_here"] (sp__law_halved K) := ⟨_, _, ok__law_halved F52 T , k52, b52, PySem.W.mg_of X G a52⟩
  have F53 := fun_mk (st := s__law_aside) l53 c53 k53
  have b53 := F53.binds (ps := ["_law_window_here", "_law_right", "_law_up", "_law_turned"]) fun _ _ _ _ _ _ us hl => match us, hl with | [_, _, _, _], _ => rfl
  have D__law_aside : Cl l.prog w K mg base 1 "_law_aside" ["_law_window_here", "_law_right", "_law_up", "_law_turned"] (sp__law_aside K) := ⟨_, _, ok__law_aside F53 T , k53, b53, PySem.W.mg_of X G a53⟩
  have F54 := fun_mk (st := s__law_set) l54 c54 k54
  have b54 := F54.binds (ps := ["_law_place", "_law_right", "_law_up", "_law_turned"]) fun _ _ _ _ _ _ us hl => match us, hl with | [_, _, _, _], _ => rfl
  have D__law_set : Cl l.prog w K mg base 1 "_law_set" ["_law_place", "_law_right", "_law_up", "_law_turned"] (sp__law_set K) := ⟨_, _, ok__law_set F54 T , k54, b54, PySem.W.mg_of X G a54⟩
  have F55 := fun_mk (st := s_law) l55 c55 k55
  exact ok_law F55 T (D__law_state) (D__law_sheet) (D__law_take) (D__law_turning) (D__law_halved) (D__law_mixed) (D__law_named) (D__law_aside) (D_sheet_length) (D_sheet_round) (D_picture_at) (D__law_set) (D_parting)

end Lan
open PySem PySem.W PyProof.Rows
set_option maxRecDepth 100000 in
set_option maxHeartbeats 0 in
theorem PySem.Challenge.cw_lanternrows_k15_things_named_otherwise_holds : PySem.Challenge.rw_lanternrows_k15_things_named_otherwise.Holds := by
  w_on; o_law; k_head; (case hw => w_witness2)
  k_fill
  refine L2.walk_of (l := PySem.Challenge.rw_lanternrows_k15_things_named_otherwise) (n := 63) (k := 9) (x := "_law_script") (CX := fun _ => L2.CX0) (sp := fun w => Lan.sp_law _) rfl (by decide) rfl ⟨rfl, by decide, by decide⟩ (fun w h Y => PySem.W.kIn_of Y) ?F (fun _ _ a ns hl _ hS => ⟨a, ns, rfl, hS, hl, fun _ => rfl⟩) (fun _ _ _ _ _ h => h)
  case F =>
    intro w mg fa h KX G hmg
    refine' Lan.all_mk KX G hmg ?a0 ?l0 ?c0 ?k0 ?a1 ?l1 ?c1 ?k1 ?a2 ?l2 ?c2 ?k2 ?a3 ?l3 ?c3 ?k3 ?a4 ?l4 ?c4 ?k4 ?a5 ?l5 ?c5 ?k5 ?a6 ?l6 ?c6 ?k6 ?a7 ?l7 ?c7 ?k7 ?a8 ?l8 ?c8 ?k8 ?a9 ?l9 ?c9 ?k9 ?a10 ?l10 ?c10 ?k10 ?a11 ?l11 ?c11 ?k11 ?a12 ?l12 ?c12 ?k12 ?a13 ?l13 ?c13 ?k13 ?a14 ?l14 ?c14 ?k14 ?a15 ?l15 ?c15 ?k15 ?a16 ?l16 ?c16 ?k16 ?a17 ?l17 ?c17 ?k17 ?a18 ?l18 ?c18 ?k18 ?a19 ?l19 ?c19 ?k19 ?a20 ?l20 ?c20 ?k20 ?a21 ?l21 ?c21 ?k21 ?a22 ?l22 ?c22 ?k22 ?a23 ?l23 ?c23 ?k23 ?a24 ?l24 ?c24 ?k24 ?a25 ?l25 ?c25 ?k25 ?a26 ?l26 ?c26 ?k26 ?a27 ?l27 ?c27 ?k27 ?a28 ?l28 ?c28 ?k28 ?a29 ?l29 ?c29 ?k29 ?a30 ?l30 ?c30 ?k30 ?a31 ?l31 ?c31 ?k31 ?a32 ?l32 ?c32 ?k32 ?a33 ?l33 ?c33 ?k33 ?a34 ?l34 ?c34 ?k34 ?a35 ?l35 ?c35 ?k35 ?a36 ?l36 ?c36 ?k36 ?a37 ?l37 ?c37 ?k37 ?a38 ?l38 ?c38 ?k38 ?a39 ?l39 ?c39 ?k39 ?a40 ?l40 ?c40 ?k40 ?a41 ?l41 ?c41 ?k41 ?a42 ?l42 ?c42 ?k42 ?a43 ?l43 ?c43 ?k43 ?a44 ?l44 ?c44 ?k44 ?a45 ?l45 ?c45 ?k45 ?a46 ?l46 ?c46 ?k46 ?a47 ?l47 ?c47 ?k47 ?a48 ?l48 ?c48 ?k48 ?a49 ?l49 ?c49 ?k49 ?a50 ?l50 ?c50 ?k50 ?a51 ?l51 ?c51 ?k51 ?a52 ?l52 ?c52 ?k52 ?a53 ?l53 ?c53 ?k53 ?a54 ?l54 ?c54 ?k54 ?a55 ?l55 ?c55 ?k55 ?z_len ?z_isinstance ?z_max ?z_min ?z_sum ?z_all ?z_tuple ?z_list ?z_abs ?z_range ?z_zip ?z_enumerate ?z_bool ?z_int ?v_LAST_MOMENT ?v_MOST_DRAWING ?v_MOST_HOLD ?v_MOST_ROWS ?v_MOST_WAY ?v_MOST_MANY ?v_MOST_MOVES ?v_MOST_LAYERS
    (case a0 => k_is)
    (case l0 => k_is)
    (case c0 => k_is)
    (case k0 => k_is)
    (case a1 => k_is)
    (case l1 => k_is)
    (case c1 => k_is)
    (case k1 => k_is)
    (case a2 => k_is)
    (case l2 => k_is)
    (case c2 => k_is)
    (case k2 => k_is)
    (case a3 => k_is)
    (case l3 => k_is)
    (case c3 => k_is)
    (case k3 => k_is)
    (case a4 => k_is)
    (case l4 => k_is)
    (case c4 => k_is)
    (case k4 => k_is)
    (case a5 => k_is)
    (case l5 => k_is)
    (case c5 => k_is)
    (case k5 => k_is)
    (case a6 => k_is)
    (case l6 => k_is)
    (case c6 => k_is)
    (case k6 => k_is)
    (case a7 => k_is)
    (case l7 => k_is)
    (case c7 => k_is)
    (case k7 => k_is)
    (case a8 => k_is)
    (case l8 => k_is)
    (case c8 => k_is)
    (case k8 => k_is)
    (case a9 => k_is)
    (case l9 => k_is)
    (case c9 => k_is)
    (case k9 => k_is)
    (case a10 => k_is)
    (case l10 => k_is)
    (case c10 => k_is)
    (case k10 => k_is)
    (case a11 => k_is)
    (case l11 => k_is)
    (case c11 => k_is)
    (case k11 => k_is)
    (case a12 => k_is)
    (case l12 => k_is)
    (case c12 => k_is)
    (case k12 => k_is)
    (case a13 => k_is)
    (case l13 => k_is)
    (case c13 => k_is)
    (case k13 => k_is)
    (case a14 => k_is)
    (case l14 => k_is)
    (case c14 => k_is)
    (case k14 => k_is)
    (case a15 => k_is)
    (case l15 => k_is)
    (case c15 => k_is)
    (case k15 => k_is)
    (case a16 => k_is)
    (case l16 => k_is)
    (case c16 => k_is)
    (case k16 => k_is)
    (case a17 => k_is)
    (case l17 => k_is)
    (case c17 => k_is)
    (case k17 => k_is)
    (case a18 => k_is)
    (case l18 => k_is)
    (case c18 => k_is)
    (case k18 => k_is)
    (case a19 => k_is)
    (case l19 => k_is)
    (case c19 => k_is)
    (case k19 => k_is)
    (case a20 => k_is)
    (case l20 => k_is)
    (case c20 => k_is)
    (case k20 => k_is)
    (case a21 => k_is)
    (case l21 => k_is)
    (case c21 => k_is)
    (case k21 => k_is)
    (case a22 => k_is)
    (case l22 => k_is)
    (case c22 => k_is)
    (case k22 => k_is)
    (case a23 => k_is)
    (case l23 => k_is)
    (case c23 => k_is)
    (case k23 => k_is)
    (case a24 => k_is)
    (case l24 => k_is)
    (case c24 => k_is)
    (case k24 => k_is)
    (case a25 => k_is)
    (case l25 => k_is)
    (case c25 => k_is)
    (case k25 => k_is)
    (case a26 => k_is)
    (case l26 => k_is)
    (case c26 => k_is)
    (case k26 => k_is)
    (case a27 => k_is)
    (case l27 => k_is)
    (case c27 => k_is)
    (case k27 => k_is)
    (case a28 => k_is)
    (case l28 => k_is)
    (case c28 => k_is)
    (case k28 => k_is)
    (case a29 => k_is)
    (case l29 => k_is)
    (case c29 => k_is)
    (case k29 => k_is)
    (case a30 => k_is)
    (case l30 => k_is)
    (case c30 => k_is)
    (case k30 => k_is)
    (case a31 => k_is)
    (case l31 => k_is)
    (case c31 => k_is)
    (case k31 => k_is)
    (case a32 => k_is)
    (case l32 => k_is)
    (case c32 => k_is)
    (case k32 => k_is)
    (case a33 => k_is)
    (case l33 => k_is)
    (case c33 => k_is)
    (case k33 => k_is)
    (case a34 => k_is)
    (case l34 => k_is)
    (case c34 => k_is)
    (case k34 => k_is)
    (case a35 => k_is)
    (case l35 => k_is)
    (case c35 => k_is)
    (case k35 => k_is)
    (case a36 => k_is)
    (case l36 => k_is)
    (case c36 => k_is)
    (case k36 => k_is)
    (case a37 => k_is)
    (case l37 => k_is)
    (case c37 => k_is)
    (case k37 => k_is)
    (case a38 => k_is)
    (case l38 => k_is)
    (case c38 => k_is)
    (case k38 => k_is)
    (case a39 => k_is)
    (case l39 => k_is)
    (case c39 => k_is)
    (case k39 => k_is)
    (case a40 => k_is)
    (case l40 => k_is)
    (case c40 => k_is)
    (case k40 => k_is)
    (case a41 => k_is)
    (case l41 => k_is)
    (case c41 => k_is)
    (case k41 => k_is)
    (case a42 => k_is)
    (case l42 => k_is)
    (case c42 => k_is)
    (case k42 => k_is)
    (case a43 => k_is)
    (case l43 => k_is)
    (case c43 => k_is)
    (case k43 => k_is)
    (case a44 => k_is)
    (case l44 => k_is)
    (case c44 => k_is)
    (case k44 => k_is)
    (case a45 => k_is)
    (case l45 => k_is)
    (case c45 => k_is)
    (case k45 => k_is)
    (case a46 => k_is)
    (case l46 => k_is)
    (case c46 => k_is)
    (case k46 => k_is)
    (case a47 => k_is)
    (case l47 => k_is)
    (case c47 => k_is)
    (case k47 => k_is)
    (case a48 => k_is)
    (case l48 => k_is)
    (case c48 => k_is)
    (case k48 => k_is)
    (case a49 => k_is)
    (case l49 => k_is)
    (case c49 => k_is)
    (case k49 => k_is)
    (case a50 => k_is)
    (case l50 => k_is)
    (case c50 => k_is)
    (case k50 => k_is)
    (case a51 => k_is)
    (case l51 => k_is)
    (case c51 => k_is)
    (case k51 => k_is)
    (case a52 => k_is)
    (case l52 => k_is)
    (case c52 => k_is)
    (case k52 => k_is)
    (case a53 => k_is)
    (case l53 => k_is)
    (case c53 => k_is)
    (case k53 => k_is)
    (case a54 => k_is)
    (case l54 => k_is)
    (case c54 => k_is)
    (case k54 => k_is)
    (case a55 => k_is)
    (case l55 => k_is)
    (case c55 => k_is)
    (case k55 => k_is)
    (case z_len => k_is)
    (case z_isinstance => k_is)
    (case z_max => k_is)
    (case z_min => k_is)
    (case z_sum => k_is)
    (case z_all => k_is)
    (case z_tuple => k_is)
    (case z_list => k_is)
    (case z_abs => k_is)
    (case z_range => k_is)
    (case z_zip => k_is)
    (case z_enumerate => k_is)
    (case z_bool => k_is)
    (case z_int => k_is)
    (case v_LAST_MOMENT => k_is)
    (case v_MOST_DRAWING => k_is)
    (case v_MOST_HOLD => k_is)
    (case v_MOST_ROWS => k_is)
    (case v_MOST_WAY => k_is)
    (case v_MOST_MANY => k_is)
    (case v_MOST_MOVES => k_is)
    (case v_MOST_LAYERS => k_is)
