import PyProof.Rows.All
import Wide.All
import OpenK.AllK
import Wide.FinOn
import HandS.ForMost
import HandS.IsInst
import HandS.TupAny
import HandS.TupMul
import HandS.Conv
import HandS.Style
import HandS.Flow
import HandS.Codes
import HandS.Zip
import KE.GoesNew
import HandS.Lambda
import HandS.EndTab
import HandS.ExcInit
import HandS.ExcField
import HandS.ExcIs
import HandS.HotCalls
import HandS.TryOnly
import HandS.WordsExc
import HandS.ExcOwn
import HandS.Small
import HandS.FStr
import KE.KExcIs
import HandS.SetFor
import HandS.Strs
import KE.KDictZip
import HandS.SortKw
import KE.DataMinMax
import HandS.Flt
import HandS.RaiseMore
import HandS.StrMore
import HandS.Walk
import HandS.Deep
import PySem.Challenge.RW_lanternrows_k55_texts_put_otherwise
set_option Elab.async false
set_option linter.all false
set_option maxRecDepth 100000
set_option maxHeartbeats 4000000
namespace Lan
open PySem PySem.Spec PyProof.Rows L2
/-! ### short rules -/
def bkV : Option Int → V
  | none => .non
  | some i => .int i
structure Cl (P : Program) (w : World) (K : PySem.W.Frag) (mg : Str → Option Value) (base : Heap) (k : Nat) (x : Str) (ps : List Str) (sp : Sp) : Prop where
  ex : ∃ (f : Addr) (fd : FuncData), FnOk P w K mg base CX0 k f fd ps sp ∧ PySem.W.keepIn K (.ref f) = true ∧ Binds K fd ps [] ∧ mg x = some (.ref f)
section
variable {X : Cx}
theorem pe_gint {x : Str} {pos : Pos} {n : Int} (hg : Gl X x) (h : ∃ t, X.mg x = some (.int n t)) (hd : (x == ("__debug__" : Str)) = false := by decide) : PE X (.Name x pos) (tC (.int n)) := by
  obtain ⟨t, h⟩ := h
  exact pe_glob hg h ⟨_, rfl⟩ hd
theorem pe_own {k : Nat} {x : Str} {ps : List Str} {sp : Sp} {e : Expr} {es : List Expr} {t : TA} {p pos : Pos} (C : Cl X.prog X.w X.K X.mg X.base k x ps sp) (hr : Room k X.A) (hg : Gl X x) (ha : PA X (e :: es) t)
    (hdb : (x == ("__debug__" : Str)) = false := by decide) (he : starEach (e :: es) X.env = (false, eval e X.env) :: starEach es X.env := by rfl) (hpl : (backTo pos (starEach es X.env)).any (·.1) = false := by rfl) :
    PE X (.Call (.Name x p) (e :: es) [] pos) (tCall sp [] E0 t) := by
  obtain ⟨f, fd, F, hk, hb, hm⟩ := C.ex
  exact pe_call F hr hg hm hk hb .nil pass0 ha hdb he hpl
def tPartN (t : TE) : TO := fun σ H Q => t σ H fun x H1 => ∃ o : Option Int, x = bkV o ∧ Q o H1
theorem po_opt {e : Expr} {te : TE} (h : PE X e te) : PO X (some e) (tPartN te) := by
  refine ⟨fun pins s σ H Q I hw => ?_⟩
  rw [evalPart_some]
  refine thn (h.run pins s σ H _ I hw) fun u s1 ⟨x, H1, I1, r1, q1⟩ => ?_
  obtain ⟨o, rfl, q⟩ := q1
  cases o with
  | none =>
    cases r1
    exact ⟨none, H1, I1, .none, q⟩
  | some i =>
    obtain ⟨t, rfl⟩ := r1
    exact ⟨some i, H1, I1, .int i t, q⟩
end
/-! ### heaps -/
theorem same_upd {H : Hp} {p : Addr} {o : HO} (h : H p = none) : Same H (upd H p o) := fun b x e => by
  rw [upd_ne (ne_of_none e h)]
  exact e
theorem new_at {H : Hp} {p : Addr} (o : HO) (h : H p = none) : Same H (upd H p o) ∧ (upd H p o) p = some o := ⟨same_upd h, upd_same⟩
theorem Same.sqT {K : PySem.W.Frag} {H H' : Hp} {a : Addr} {xs : List V} (e : Same H H') (h : SqT K H a xs) : SqT K H' a xs := by
  rcases h with (h | ⟨o, h⟩) | h
  · exact .inl (.inl (e _ _ h))
  · exact .inl (.inr ⟨o, e _ _ h⟩)
  · exact .inr h
def IsSt (H : Hp) (st : Addr) : Prop := ∃ a b : Int, H st = some (.lst [.int a, .int b]) ∧ 0 ≤ a ∧ 0 ≤ b ∧ b < 2147483647
/-- all but the state at st stands, and st holds a state as before -/
def Gr (st : Addr) (H H' : Hp) : Prop := (∀ b o, b ≠ st → H b = some o → H' b = some o) ∧ (IsSt H st → IsSt H' st)
theorem Gr.refl {st : Addr} {H : Hp} : Gr st H H := ⟨fun _ _ _ h => h, id⟩
theorem Gr.trans {st : Addr} {H H1 H2 : Hp} (a : Gr st H H1) (b : Gr st H1 H2) : Gr st H H2 := ⟨fun c o n h => b.1 c o n (a.1 c o n h), fun h => b.2 (a.2 h)⟩
theorem gr_same {st : Addr} {H H' : Hp} (s : Same H H') : Gr st H H' := ⟨fun b o _ h => s b o h, fun ⟨a, b, h, r⟩ => ⟨a, b, s _ _ h, r⟩⟩
theorem gr_set {st : Addr} {H : Hp} {a b : Int} (h0 : 0 ≤ a) (h1 : 0 ≤ b) (h2 : b < 2147483647) : Gr st H (upd H st (.lst [.int a, .int b])) :=
  ⟨fun c o n h => by rw [upd_ne n]; exact h, fun _ => ⟨a, b, upd_same, h0, h1, h2⟩⟩
theorem Gr.sqT {st : Addr} {K : PySem.W.Frag} {H H' : Hp} {a : Addr} {xs : List V} (g : Gr st H H') (s : IsSt H st) (h : SqT K H a xs) : SqT K H' a xs := by
  obtain ⟨u, v, hs, _⟩ := s
  rcases h with (h | ⟨o, h⟩) | h
  · exact .inl (.inl (g.1 _ _ (ne_of h hs (by intro z; cases z)) h))
  · exact .inl (.inr ⟨o, g.1 _ _ (ne_of h hs (by intro z; cases z)) h⟩)
  · exact .inr h
/-- behind a state that was not there before -/
theorem Gr.same {st : Addr} {H H1 H2 : Hp} (g : Gr st H1 H2) (s : Same H H1) (n : H st = none) : Same H H2 := fun b o h => g.1 b o (ne_of_none h n) (s b o h)
theorem tyT {K : PySem.W.Frag} {H : Hp} {a : Addr} {xs : List V} (h : SqT K H a xs) : TyX K H (.ref a) (.type "tuple") := by
  rcases h with (h | ⟨o, h⟩) | ⟨o, its, n, h, c, _⟩
  · exact .base (.tup h)
  · exact .fTuple h
  · exact .kTuple h c
theorem yes_ok {σ : L2.St} {H : Hp} {te : TE} {R : VK} {Z : Hp → Prop} (h : te σ H R) : tYes σ H (fun b H3 => if b = true then te σ H3 R else Z H3) := by
  show if true = true then te σ H R else Z H
  rw [if_pos rfl]
  exact h
/-! ### comprehensions that make one value an item and leave the heap -/
theorem lcmap_tup {K : PySem.W.Frag} {a : Addr} {xs : List V} {g : TG} {tt : TT} {te : TE} {vs : List Nat} {σ : L2.St} {H1 : Hp} {D : Addr} {Qd : Hp → Prop} (ys : List V) (hl : ys.length = xs.length) (hz : xs.length ≤ 1000) (hS : SqT K H1 a xs) (hD : H1 D = none)
    (hs : ∀ (i : Nat) (x y : V) (H : Hp) (R : V → Hp → Prop) (Z : Hp → Prop), xs[i]? = some x → ys[i]? = some y → Same H1 H → (∀ H4, Same H H4 → R y H4) → g x (wipe σ vs) H fun σ2 H2 => wipe σ2 vs = wipe σ vs ∧ tt σ2 H2 fun b H3 => if b = true then te σ2 H3 R else Z H3)
    (hd : ∀ H, Same H1 H → H D = some (.lst ys) → Qd H) :
    ∃ W : Nat → Nat → Hp → Prop, (∃ m, W 0 m (upd H1 D (.lst []))) ∧ ∀ i m H, W i m H →
      ((Itt K a).stop i H ∧ Qd H) ∨ ((Itt K a).go i H ∧ ∃ Nx : Hp → Prop, (∀ H', Nx H' → ∃ m', m' < m ∧ W (i + 1) m' H') ∧ ∀ x H', (Itt K a).yld i H x H' → g x (wipe σ vs) H' fun σ2 H2 => wipe σ2 vs = wipe σ vs ∧ tt σ2 H2 fun b H3 =>
        if b = true then te σ2 H3 fun y H4 => ∃ acc, H4 D = some (.lst acc) ∧ acc.length < sizeLine ∧ Nx (upd H4 D (.lst (acc ++ [y]))) else Nx H3) := by
  refine lc_tup (K := K) (a := a) (xs := xs) (fun i H => Same H1 H ∧ H D = some (.lst (ys.take i))) ⟨same_upd hD, upd_same⟩ (fun i H _ p => Same.sqT p.1 hS) (fun i x H hx p => ?_) (fun H p => ?_)
  · have hi : i < xs.length := (List.getElem?_eq_some_iff.mp hx).1
    obtain ⟨y, hy⟩ : ∃ y, ys[i]? = some y := ⟨_, List.getElem?_eq_getElem (by omega)⟩
    refine hs i x y H _ _ hx hy p.1 (fun H4 s4 => ⟨ys.take i, s4 _ _ p.2, ?_, ?_, ?_⟩)
    · rw [List.length_take]
      exact Nat.lt_of_le_of_lt (Nat.min_le_left _ _) (small1000 (by omega))
    · intro b o e
      rw [upd_ne (ne_of_none e hD)]
      exact s4 _ _ (p.1 _ _ e)
    · rw [upd_same, List.take_add_one, hy]
      rfl
  · refine hd H p.1 ?_
    rw [p.2, List.take_of_length_le (by omega)]
/-! ### paired lists -/
theorem Paired.mono {α β : Type} {F G : α → β → Prop} {l₁ : List α} {l₂ : List β} (p : Paired F l₁ l₂) (f : ∀ a b, F a b → G a b) : Paired G l₁ l₂ := Paired.mapP p f
theorem Paired.takeP {α β : Type} {F : α → β → Prop} : ∀ {l₁ : List α} {l₂ : List β} (n : Nat), Paired F l₁ l₂ → Paired F (l₁.take n) (l₂.take n)
  | _, _, 0, _ => .nil
  | _, _, _ + 1, .nil => .nil
  | _, _, n + 1, .cons r t => .cons r (Paired.takeP n t)
theorem Paired.dropP {α β : Type} {F : α → β → Prop} : ∀ {l₁ : List α} {l₂ : List β} (n : Nat), Paired F l₁ l₂ → Paired F (l₁.drop n) (l₂.drop n)
  | _, _, 0, p => p
  | _, _, _ + 1, .nil => .nil
  | _, _, n + 1, .cons _ t => Paired.dropP n t
theorem Paired.at {α β : Type} {F : α → β → Prop} : ∀ {l₁ : List α} {l₂ : List β} {i : Nat} {x : α}, Paired F l₁ l₂ → l₁[i]? = some x → ∃ y, l₂[i]? = some y ∧ F x y
  | _, _, i, x, .nil, h => by simp at h
  | _, _, 0, x, .cons (a := a) r t, h => by
    have e : _ = x := Option.some.inj h
    subst e
    exact ⟨_, rfl, r⟩
  | _, _, i + 1, x, .cons r t, h => Paired.at (i := i) t h
theorem Paired.at2 {α β : Type} {F : α → β → Prop} : ∀ {l₁ : List α} {l₂ : List β} {i : Nat} {y : β}, Paired F l₁ l₂ → l₂[i]? = some y → ∃ x, l₁[i]? = some x ∧ F x y
  | _, _, i, y, .nil, h => by simp at h
  | _, _, 0, y, .cons r t, h => by
    have e : _ = y := Option.some.inj h
    subst e
    exact ⟨_, rfl, r⟩
  | _, _, i + 1, y, .cons r t, h => Paired.at2 (i := i) t h
theorem Paired.snocP {α β : Type} {F : α → β → Prop} : ∀ {l₁ : List α} {l₂ : List β} {x : α} {y : β}, Paired F l₁ l₂ → F x y → Paired F (l₁ ++ [x]) (l₂ ++ [y])
  | _, _, _, _, .nil, h => .cons h .nil
  | _, _, _, _, .cons r t, h => .cons r (Paired.snocP t h)
/-! ### rows, layers as they lie in the heap -/
abbrev RW := Int × Int
def RowAt (K : PySem.W.Frag) (H : Hp) (v : V) (r : RW) : Prop := ∃ p, v = .ref p ∧ SqT K H p [.int r.1, .int r.2]
def RowsAt (K : PySem.W.Frag) (H : Hp) (v : V) (rs : List RW) : Prop := ∃ p vs, v = .ref p ∧ SqT K H p vs ∧ Paired (RowAt K H) vs rs
def LayAt (K : PySem.W.Frag) (H : Hp) (v : V) (rs : List RW) (bk : Option Int) : Prop := ∃ p rv, v = .ref p ∧ SqT K H p [rv, bkV bk] ∧ RowsAt K H rv rs
def VRow (r : RW) : Prop := 0 ≤ r.1 ∧ r.1 ≤ 9 ∧ 1 ≤ r.2 ∧ r.2 ≤ 24
def VRows (rs : List RW) : Prop := rs.length ≤ 8 ∧ ∀ r ∈ rs, VRow r
def VBack (rs : List RW) (bk : Option Int) : Prop := ∀ i, bk = some i → 0 ≤ i ∧ i < rs.length
abbrev TKeep (K : PySem.W.Frag) (H H' : Hp) : Prop := ∀ a xs, SqT K H a xs → SqT K H' a xs
theorem Same.tk {K : PySem.W.Frag} {H H' : Hp} (s : Same H H') : TKeep K H H' := fun _ _ h => Same.sqT s h
theorem Gr.tk {st : Addr} {K : PySem.W.Frag} {H H' : Hp} (g : Gr st H H') (s : IsSt H st) : TKeep K H H' := fun _ _ h => g.sqT s h
theorem RowAt.keep {K : PySem.W.Frag} {H H' : Hp} {v : V} {r : RW} (k : TKeep K H H') : RowAt K H v r → RowAt K H' v r := fun ⟨p, e, h⟩ => ⟨p, e, k _ _ h⟩
theorem RowsAt.keep {K : PySem.W.Frag} {H H' : Hp} {v : V} {rs : List RW} (k : TKeep K H H') : RowsAt K H v rs → RowsAt K H' v rs := fun ⟨p, vs, e, h, q⟩ => ⟨p, vs, e, k _ _ h, Paired.mono q fun _ _ => RowAt.keep k⟩
theorem LayAt.keep {K : PySem.W.Frag} {H H' : Hp} {v : V} {rs : List RW} {bk : Option Int} (k : TKeep K H H') : LayAt K H v rs bk → LayAt K H' v rs bk := fun ⟨p, rv, e, h, q⟩ => ⟨p, rv, e, k _ _ h, q.keep k⟩
/-! ### what a layer shows -/
def tot (rs : List RW) : Int := (rs.map (·.2)).sum
theorem tot_nil : tot [] = 0 := rfl
theorem tot_cons (r : RW) (rs : List RW) : tot (r :: rs) = r.2 + tot rs := by
  unfold tot
  rw [List.map_cons, List.sum_cons]
theorem tot_append (rs qs : List RW) : tot (rs ++ qs) = tot rs + tot qs := by
  induction rs with
  | nil => simp [tot_nil]
  | cons r t ih =>
    rw [List.cons_append, tot_cons, tot_cons, ih]
    omega
theorem tot_split (rs : List RW) (k : Nat) : tot rs = tot (rs.take k) + tot (rs.drop k) := by
  rw [← tot_append, List.take_append_drop]
theorem tot_nonneg : ∀ {rs : List RW}, (∀ r ∈ rs, VRow r) → (rs.length : Int) ≤ tot rs ∧ tot rs ≤ 24 * rs.length
  | [], _ => by
    rw [tot_nil]
    exact ⟨Int.le_refl _, Int.le_refl _⟩
  | r :: t, h => by
    have h1 := h r (List.mem_cons_self ..)
    have ih := tot_nonneg (rs := t) fun q hq => h q (List.mem_cons_of_mem _ hq)
    rw [tot_cons, List.length_cons]
    obtain ⟨_, _, h3, h4⟩ := h1
    obtain ⟨i1, i2⟩ := ih
    constructor <;> omega
def walk : List RW → Int → Int
  | [], _ => 0
  | r :: t, m => if m < r.2 then r.1 else walk t (m - r.2)
def near (rs : List RW) (bk : Option Int) (m : Int) : Int := match bk with
  | none => m
  | some b => if m < tot (rs.take b.toNat) then m else tot (rs.take b.toNat) + (m - tot (rs.take b.toNat)) % tot (rs.drop b.toNat)
def shown (rs : List RW) (bk : Option Int) (m : Int) : Int := walk rs (near rs bk m)
theorem walk_out : ∀ (rs : List RW) (m : Int), tot rs ≤ m → (∀ r ∈ rs, VRow r) → walk rs m = 0
  | [], _, _, _ => rfl
  | r :: t, m, h, v => by
    have v1 := v r (List.mem_cons_self ..)
    have vt : ∀ q ∈ t, VRow q := fun q hq => v q (List.mem_cons_of_mem _ hq)
    have t0 := (tot_nonneg vt).1
    rw [tot_cons] at h
    unfold walk
    rw [if_neg (by omega)]
    exact walk_out t _ (by omega) vt
theorem walk_at : ∀ (rs : List RW) (p : Nat) (r : RW) (j : Int), rs[p]? = some r → (∀ r ∈ rs, VRow r) → 0 ≤ j → j < r.2 → walk rs (tot (rs.take p) + j) = r.1
  | [], p, r, j, h, _, _, _ => by simp at h
  | q :: t, 0, r, j, h, _, h0, h1 => by
    have e : q = r := Option.some.inj h
    subst e
    rw [List.take_zero, tot_nil]
    unfold walk
    rw [if_pos (by omega)]
  | q :: t, p + 1, r, j, h, v, h0, h1 => by
    have vq := v q (List.mem_cons_self ..)
    have vt : ∀ q ∈ t, VRow q := fun q hq => v q (List.mem_cons_of_mem _ hq)
    have tp : 0 ≤ tot (t.take p) := by
      have := (tot_nonneg (rs := t.take p) fun q hq => vt q (List.mem_of_mem_take hq)).1
      omega
    rw [List.take_succ_cons, tot_cons]
    unfold walk
    rw [if_neg (by omega), show q.2 + tot (t.take p) + j - q.2 = tot (t.take p) + j by omega]
    exact walk_at t p r j h vt h0 h1
theorem tot_take_le {rs : List RW} (v : ∀ r ∈ rs, VRow r) {p : Nat} {r : RW} (h : rs[p]? = some r) : tot (rs.take p) + r.2 ≤ tot rs := by
  have hp : p < rs.length := (List.getElem?_eq_some_iff.mp h).1
  have e : rs.take (p + 1) = rs.take p ++ [r] := by
    rw [List.take_add_one, h]
    rfl
  have s := tot_split rs (p + 1)
  rw [e, tot_append] at s
  have e1 : tot [r] = r.2 := by
    rw [tot_cons, tot_nil]
    omega
  have := (tot_nonneg (rs := rs.drop (p + 1)) fun q hq => v q (List.mem_of_mem_drop hq)).1
  omega
/-- the j-th picture of the row p, behind k more rounds -/
theorem shown_at {rs : List RW} {bk : Option Int} (v : ∀ r ∈ rs, VRow r) (vb : VBack rs bk) {p k : Nat} {r : RW} {j c : Int} (h : rs[p]? = some r) (h0 : 0 ≤ j) (h1 : j < r.2)
    (hc : ∀ b, bk = some b → c = tot (rs.drop b.toNat)) (hk : 0 < k → ∃ b, bk = some b ∧ b ≤ p) : shown rs bk (tot (rs.take p) + k * c + j) = r.1 := by
  have w := walk_at rs p r j h v h0 h1
  have tp : 0 ≤ tot (rs.take p) := by
    have := (tot_nonneg (rs := rs.take p) fun q hq => v q (List.mem_of_mem_take hq)).1
    omega
  unfold shown near
  cases bk with
  | none =>
    have k0 : k = 0 := by
      rcases Nat.eq_zero_or_pos k with z | z
      · exact z
      · obtain ⟨b, e, _⟩ := hk z
        cases e
    subst k0
    dsimp only
    rw [show tot (rs.take p) + ((0 : Nat) : Int) * c + j = tot (rs.take p) + j by simp]
    exact w
  | some b =>
    have hb := vb b rfl
    have ec := hc b rfl
    have s := tot_split rs b.toNat
    have le := tot_take_le v h
    rw [← ec] at s
    dsimp only
    rw [← ec]
    have cpos : 0 < c := by
      have := (tot_nonneg (rs := rs.drop b.toNat) fun q hq => v q (List.mem_of_mem_drop hq)).1
      rw [← ec, List.length_drop] at this
      omega
    rcases Nat.eq_zero_or_pos k with z | z
    · subst z
      rw [show tot (rs.take p) + ((0 : Nat) : Int) * c + j = tot (rs.take p) + j by simp]
      by_cases hm : tot (rs.take p) + j < tot (rs.take b.toNat)
      · rw [if_pos hm]
        exact w
      · rw [if_neg hm, Int.emod_eq_of_lt (by omega) (by omega)]
        rw [show tot (rs.take b.toNat) + (tot (rs.take p) + j - tot (rs.take b.toNat)) = tot (rs.take p) + j by omega]
        exact w
    · obtain ⟨b', e, hbp⟩ := hk z
      have e' : b = b' := Option.some.inj e
      subst e'
      have bp : b.toNat ≤ p := by omega
      have tb : tot (rs.take b.toNat) ≤ tot (rs.take p) := by
        have e1 : rs.take b.toNat = (rs.take p).take b.toNat := by
          rw [List.take_take, Nat.min_eq_left bp]
        have s1 := tot_split (rs.take p) b.toNat
        rw [← e1] at s1
        have := (tot_nonneg (rs := (rs.take p).drop b.toNat) fun q hq => v q (List.mem_of_mem_take (List.mem_of_mem_drop hq))).1
        omega
      have kc : 0 ≤ (k : Int) * c := Int.mul_nonneg (by omega) (by omega)
      rw [if_neg (by omega)]
      rw [show tot (rs.take p) + (k : Int) * c + j - tot (rs.take b.toNat) = (tot (rs.take p) + j - tot (rs.take b.toNat)) + c * k by rw [Int.mul_comm c]; omega, Int.add_mul_emod_self_left, Int.emod_eq_of_lt (by omega) (by omega)]
      rw [show tot (rs.take b.toNat) + (tot (rs.take p) + j - tot (rs.take b.toNat)) = tot (rs.take p) + j by omega]
      exact w
theorem shown_end {rs : List RW} (v : ∀ r ∈ rs, VRow r) {m : Int} (h : tot rs ≤ m) : shown rs none m = 0 := walk_out rs m h v
/-- a great moment is as the one so many whole rounds ahead -/
theorem shown_far {rs : List RW} {bk : Option Int} (v : ∀ r ∈ rs, VRow r) (vb : VBack rs bk) {m s : Int} (hs : s = match bk with | none => 1 | some b => tot (rs.drop b.toNat)) (h : tot rs ≤ m) :
    shown rs bk (tot rs + (m - tot rs) % s) = shown rs bk m := by
  cases bk with
  | none =>
    dsimp only at hs
    subst hs
    rw [shown_end v h, shown_end v (by omega)]
  | some b =>
    dsimp only at hs
    have hb := vb b rfl
    have e := tot_split rs b.toNat
    have spos : 0 < s := by
      have := (tot_nonneg (rs := rs.drop b.toNat) fun q hq => v q (List.mem_of_mem_drop hq)).1
      rw [← hs, List.length_drop] at this
      omega
    have hm := Int.emod_nonneg (m - tot rs) (show s ≠ 0 by omega)
    unfold shown near
    dsimp only
    rw [← hs] at e ⊢
    rw [if_neg (by omega), if_neg (by omega)]
    congr 2
    rw [show tot rs + (m - tot rs) % s - tot (rs.take b.toNat) = (m - tot rs) % s + s * 1 by omega, Int.add_mul_emod_self_left, Int.emod_emod,
      show m - tot (rs.take b.toNat) = (m - tot rs) + s * 1 by omega, Int.add_mul_emod_self_left]
theorem shown_walk_none (rs : List RW) (m : Int) : shown rs none m = walk rs m := rfl
/-! ### slices -/
theorem cut_to (xs : List V) (k : Nat) : cutV xs none (some (k : Int)) = xs.take k := by
  unfold cutV
  rw [HT.sIx_none, HT.sIx_nat, List.drop_zero, Nat.sub_zero]
  rcases Nat.le_total k xs.length with h | h
  · rw [Nat.min_eq_left h]
  · rw [Nat.min_eq_right h, List.take_length, List.take_of_length_le h]
theorem cut_from (xs : List V) (k : Nat) : cutV xs (some (k : Int)) none = xs.drop k := by
  unfold cutV
  rw [HT.sIx_none, HT.sIx_nat]
  rcases Nat.le_total k xs.length with h | h
  · rw [Nat.min_eq_left h, List.take_of_length_le (by rw [List.length_drop]; omega)]
  · rw [Nat.min_eq_right h, Nat.sub_self, List.take_zero, List.drop_of_length_le h]
theorem cut_all (xs : List V) : cutV xs none none = xs := by
  unfold cutV
  rw [HT.sIx_none, HT.sIx_none, List.drop_zero, Nat.sub_zero, List.take_length]
theorem cut_whole {xs : List V} {lo hi : Option Int} (h : HT.sIx xs.length 0 lo = 0 ∧ HT.sIx xs.length xs.length hi = xs.length) : cutV xs lo hi = xs := by
  unfold cutV
  rw [h.1, h.2, List.drop_zero, Nat.sub_zero, List.take_length]
theorem sl_rows {K : PySem.W.Frag} {H : Hp} {a : Addr} {xs : List V} {lo hi : Option Int} (rs : List RW) {R : VK} (hS : SqT K H a xs) (hp : Paired (RowAt K H) (cutV xs lo hi) rs) (h : ∀ H' v, Same H H' → RowsAt K H' v rs → R v H') :
    rSlA K (.ref a) lo hi H R := by
  refine ⟨a, xs, rfl, hS, fun w => h H _ (Same.refl _) ⟨a, xs, rfl, hS, ?_⟩, fun _ p np => ?_⟩
  · rw [cut_whole w] at hp
    exact hp
  · have s := same_upd (o := .tup (cutV xs lo hi)) np
    exact h _ _ s ⟨p, _, rfl, .inl (.inl upd_same), Paired.mono hp fun _ _ => RowAt.keep (Same.tk s)⟩
/-! ### windows -/
abbrev MV := Int × Int × Int
def MoveAt (K : PySem.W.Frag) (H : Hp) (v : V) (m : MV) : Prop := ∃ p, v = .ref p ∧ SqT K H p [.int m.1, .int m.2.1, .int m.2.2]
def MovesAt (K : PySem.W.Frag) (H : Hp) (v : V) (ms : List MV) : Prop := ∃ p vs, v = .ref p ∧ SqT K H p vs ∧ Paired (MoveAt K H) vs ms
def WinAt (K : PySem.W.Frag) (H : Hp) (v : V) (x y : Int) (ms : List MV) : Prop := ∃ p mv, v = .ref p ∧ SqT K H p [.int x, .int y, mv] ∧ MovesAt K H mv ms
def VMove (m : MV) : Prop := (-20 ≤ m.1 ∧ m.1 ≤ 20) ∧ (-20 ≤ m.2.1 ∧ m.2.1 ≤ 20) ∧ 0 ≤ m.2.2 ∧ m.2.2 ≤ 24
def VWin (x y : Int) (ms : List MV) : Prop := (-20 ≤ x ∧ x ≤ 20) ∧ (-20 ≤ y ∧ y ≤ 20) ∧ ms.length ≤ 8 ∧ ∀ m ∈ ms, VMove m
theorem MoveAt.keep {K : PySem.W.Frag} {H H' : Hp} {v : V} {m : MV} (k : TKeep K H H') : MoveAt K H v m → MoveAt K H' v m := fun ⟨p, e, h⟩ => ⟨p, e, k _ _ h⟩
theorem MovesAt.keep {K : PySem.W.Frag} {H H' : Hp} {v : V} {ms : List MV} (k : TKeep K H H') : MovesAt K H v ms → MovesAt K H' v ms := fun ⟨p, vs, e, h, q⟩ => ⟨p, vs, e, k _ _ h, Paired.mono q fun _ _ => MoveAt.keep k⟩
theorem WinAt.keep {K : PySem.W.Frag} {H H' : Hp} {v : V} {x y : Int} {ms : List MV} (k : TKeep K H H') : WinAt K H v x y ms → WinAt K H' v x y ms := fun ⟨p, mv, e, h, q⟩ => ⟨p, mv, e, k _ _ h, q.keep k⟩
def mtot (ms : List MV) : Int := (ms.map (·.2.2)).sum
/-! ### sheets -/
abbrev LY := List RW × Option Int
def LyAt (K : PySem.W.Frag) (H : Hp) (v : V) (l : LY) : Prop := LayAt K H v l.1 l.2
def LaysAt (K : PySem.W.Frag) (H : Hp) (v : V) (ls : List LY) : Prop := ∃ p vs, v = .ref p ∧ SqT K H p vs ∧ Paired (LyAt K H) vs ls
def VLy (l : LY) : Prop := VRows l.1 ∧ VBack l.1 l.2
def VLays (ls : List LY) : Prop := 1 ≤ ls.length ∧ ls.length ≤ 4 ∧ ∀ l ∈ ls, VLy l
def ShAt (K : PySem.W.Frag) (H : Hp) (v : V) (ls : List LY) (x y : Int) (ms : List MV) : Prop := ∃ p lv wv, v = .ref p ∧ SqT K H p [lv, wv] ∧ LaysAt K H lv ls ∧ WinAt K H wv x y ms
theorem LyAt.keep {K : PySem.W.Frag} {H H' : Hp} {v : V} {l : LY} (k : TKeep K H H') : LyAt K H v l → LyAt K H' v l := LayAt.keep k
theorem LaysAt.keep {K : PySem.W.Frag} {H H' : Hp} {v : V} {ls : List LY} (k : TKeep K H H') : LaysAt K H v ls → LaysAt K H' v ls := fun ⟨p, vs, e, h, q⟩ => ⟨p, vs, e, k _ _ h, Paired.mono q fun _ _ => LyAt.keep k⟩
theorem ShAt.keep {K : PySem.W.Frag} {H H' : Hp} {v : V} {ls : List LY} {x y : Int} {ms : List MV} (k : TKeep K H H') : ShAt K H v ls x y ms → ShAt K H' v ls x y ms := fun ⟨p, lv, wv, e, h, q, r⟩ => ⟨p, lv, wv, e, k _ _ h, q.keep k, r.keep k⟩
/-! ### places -/
def PlAt (K : PySem.W.Frag) (H : Hp) (v : V) (p : RW × RW) : Prop := ∃ a v1 v2, v = .ref a ∧ SqT K H a [v1, v2] ∧ RowAt K H v1 p.1 ∧ RowAt K H v2 p.2
theorem PlAt.keep {K : PySem.W.Frag} {H H' : Hp} {v : V} {p : RW × RW} (k : TKeep K H H') : PlAt K H v p → PlAt K H' v p := fun ⟨a, v1, v2, e, h, r1, r2⟩ => ⟨a, v1, v2, e, k _ _ h, r1.keep k, r2.keep k⟩
/-! ### pictures -/
abbrev PIC := List Int × (RW × RW)
def PicAt (K : PySem.W.Frag) (H : Hp) (v : V) (c : PIC) : Prop := ∃ a b v2, v = .ref a ∧ SqT K H a [.ref b, v2] ∧ SqT K H b (c.1.map V.int) ∧ PlAt K H v2 c.2
theorem PicAt.keep {K : PySem.W.Frag} {H H' : Hp} {v : V} {c : PIC} (k : TKeep K H H') : PicAt K H v c → PicAt K H' v c := fun ⟨a, b, v2, e, h, h1, h2⟩ => ⟨a, b, v2, e, k _ _ h, k _ _ h1, h2.keep k⟩
/-! ### fractions in lowest terms -/
def lo (t b : Int) : RW := (t / ((Nat.gcd t.natAbs b.natAbs : Nat) : Int), b / ((Nat.gcd t.natAbs b.natAbs : Nat) : Int))
theorem gcd_facts {t b : Int} (hb : 0 < b) : ∃ g t' b' : Int, ((Nat.gcd t.natAbs b.natAbs : Nat) : Int) = g ∧ 0 < g ∧ t = g * t' ∧ b = g * b' ∧ 0 < b' ∧ (lo t b) = (t', b') ∧ g ≤ b ∧ Nat.Coprime b'.natAbs t'.natAbs := by
  have g0 : 0 < Nat.gcd t.natAbs b.natAbs := Nat.gcd_pos_of_pos_right _ (by omega)
  obtain ⟨t', ht⟩ : ((Nat.gcd t.natAbs b.natAbs : Nat) : Int) ∣ t := Int.natAbs_dvd_natAbs.mp (by rw [Int.natAbs_natCast]; exact Nat.gcd_dvd_left _ _)
  obtain ⟨b', hb'⟩ : ((Nat.gcd t.natAbs b.natAbs : Nat) : Int) ∣ b := Int.natAbs_dvd_natAbs.mp (by rw [Int.natAbs_natCast]; exact Nat.gcd_dvd_right _ _)
  have gp : (0 : Int) < ((Nat.gcd t.natAbs b.natAbs : Nat) : Int) := by omega
  have bp : 0 < b' := Int.pos_of_mul_pos_left (a := b') (b := ((Nat.gcd t.natAbs b.natAbs : Nat) : Int)) (by rw [Int.mul_comm, ← hb']; exact hb) gp
  have gle : ((Nat.gcd t.natAbs b.natAbs : Nat) : Int) ≤ b := by
    have := Nat.gcd_le_right t.natAbs (show 0 < b.natAbs by omega)
    omega
  have cop : Nat.gcd b'.natAbs t'.natAbs = 1 := by
    have e1 : t.natAbs = Nat.gcd t.natAbs b.natAbs * t'.natAbs := by
      have := congrArg Int.natAbs ht
      rw [Int.natAbs_mul, Int.natAbs_natCast] at this
      exact this
    have e2 : b.natAbs = Nat.gcd t.natAbs b.natAbs * b'.natAbs := by
      have := congrArg Int.natAbs hb'
      rw [Int.natAbs_mul, Int.natAbs_natCast] at this
      exact this
    have e3 : Nat.gcd (Nat.gcd t.natAbs b.natAbs * t'.natAbs) (Nat.gcd t.natAbs b.natAbs * b'.natAbs) = Nat.gcd t.natAbs b.natAbs * Nat.gcd t'.natAbs b'.natAbs := Nat.gcd_mul_left _ _ _
    rw [← e1, ← e2] at e3
    rw [Nat.gcd_comm]
    exact Nat.eq_of_mul_eq_mul_left g0 (by rw [← e3, Nat.mul_one])
  refine ⟨_, t', b', rfl, gp, ht, hb', bp, ?_, gle, cop⟩
  unfold lo
  congr 1
  · conv => lhs; arg 1; rw [ht]
    exact Int.mul_ediv_cancel_left _ (by omega)
  · conv => lhs; arg 1; rw [hb']
    exact Int.mul_ediv_cancel_left _ (by omega)
theorem lo_mem {t b k : Int} (hb : 0 < b) : t * k % b = 0 ↔ (lo t b).2 ∣ k := by
  obtain ⟨g, t', b', _, gp, et, eb, bp, el, _, cop⟩ := gcd_facts (t := t) hb
  rw [el]
  show _ ↔ b' ∣ k
  constructor
  · intro h
    have h1 := Int.dvd_of_emod_eq_zero h
    rw [et, eb, Int.mul_assoc] at h1
    obtain ⟨c, hc⟩ := h1
    rw [Int.mul_assoc] at hc
    have h2 : b' ∣ t' * k := ⟨c, Int.eq_of_mul_eq_mul_left (by omega) hc⟩
    have h3 := Int.natAbs_dvd_natAbs.mpr h2
    rw [Int.natAbs_mul] at h3
    exact Int.natAbs_dvd_natAbs.mp (Nat.Coprime.dvd_of_dvd_mul_left cop h3)
  · rintro ⟨c, hc⟩
    apply Int.emod_eq_zero_of_dvd
    refine ⟨t' * c, ?_⟩
    rw [et, eb, hc]
    rw [Int.mul_assoc, Int.mul_assoc, Int.mul_left_comm t' b' c]
/-- the numbers from 1 to n that the law looks through -/
def ks (t b : Int) (n : Nat) : List Int := ((List.range n).map fun j => 1 + ((j : Nat) : Int)).filter fun k => decide (t * k % b = 0)
theorem ks_head {t b : Int} (hb : 0 < b) : (ks t b b.toNat)[0]? = some (lo t b).2 := by
  obtain ⟨g, t', b', _, gp, et, eb, bp, el, _, cop⟩ := gcd_facts (t := t) hb
  have hm : ∀ k, t * k % b = 0 ↔ b' ∣ k := fun k => by
    have := lo_mem (t := t) (k := k) hb
    rw [el] at this
    exact this
  rw [el]
  show (ks t b b.toNat)[0]? = some b'
  have ble : b' ≤ b := by
    rw [eb]
    have : 1 * b' ≤ g * b' := Int.mul_le_mul_of_nonneg_right (by omega) (by omega)
    omega
  unfold ks
  rw [List.filter_map, List.getElem?_map, ← List.head?_eq_getElem?, List.head?_filter]
  have e : (List.range b.toNat).find? ((fun k : Int => decide (t * k % b = 0)) ∘ fun j : Nat => 1 + (j : Int)) = some (b'.toNat - 1) := by
    rw [List.find?_range_eq_some]
    refine ⟨?_, List.mem_range.mpr (by omega), fun j hj => ?_⟩
    · show decide (t * (1 + ((b'.toNat - 1 : Nat) : Int)) % b = 0) = true
      rw [decide_eq_true_eq, hm, show 1 + ((b'.toNat - 1 : Nat) : Int) = b' by omega]
      exact Int.dvd_refl _
    · show (!decide (t * (1 + (j : Int)) % b = 0)) = true
      rw [Bool.not_eq_true', decide_eq_false_iff_not, hm]
      intro hd
      have := Int.le_of_dvd (by omega) hd
      omega
  rw [e]
  show some (1 + ((b'.toNat - 1 : Nat) : Int)) = some b'
  congr 1
  omega
theorem lo_top {t b : Int} (hb : 0 < b) : t * (lo t b).2 / b = (lo t b).1 := by
  obtain ⟨g, t', b', _, gp, et, eb, bp, el, _, cop⟩ := gcd_facts (t := t) hb
  rw [el]
  show t * b' / b = t'
  rw [et, show g * t' * b' = b * t' by rw [eb, Int.mul_assoc, Int.mul_assoc, Int.mul_comm t' b']]
  exact Int.mul_ediv_cancel_left _ (by omega)
/-! ### where a window stands -/
def plc (x y : Int) : List MV → Int → RW × RW
  | [], _ => ((x, 1), (y, 1))
  | m :: r, t => if t < m.2.2 then (lo (x * m.2.2 + (m.1 - x) * (t + 1)) m.2.2, lo (y * m.2.2 + (m.2.1 - y) * (t + 1)) m.2.2) else plc m.1 m.2.1 r (t - m.2.2)
theorem way_eq (x g n k : Int) : x * (n - k) + g * k = x * n + (g - x) * k := by
  rw [Int.mul_sub, Int.sub_mul]
  omega
theorem plc_nil (x y t : Int) : plc x y [] t = ((x, 1), (y, 1)) := rfl
theorem plc_cons (x y : Int) (m : MV) (r : List MV) (t : Int) : plc x y (m :: r) t = if t < m.2.2 then (lo (x * m.2.2 + (m.1 - x) * (t + 1)) m.2.2, lo (y * m.2.2 + (m.2.1 - y) * (t + 1)) m.2.2) else plc m.1 m.2.1 r (t - m.2.2) := rfl
theorem mtot_cons (m : MV) (r : List MV) : mtot (m :: r) = m.2.2 + mtot r := by
  unfold mtot
  rw [List.map_cons, List.sum_cons]
theorem mtot_nonneg : ∀ {ms : List MV}, (∀ m ∈ ms, VMove m) → 0 ≤ mtot ms ∧ mtot ms ≤ 24 * ms.length
  | [], _ => ⟨Int.le_refl _, Int.le_refl _⟩
  | m :: r, h => by
    have ih := mtot_nonneg (ms := r) fun q hq => h q (List.mem_cons_of_mem _ hq)
    obtain ⟨_, _, h3, h4⟩ := h m (List.mem_cons_self ..)
    rw [mtot_cons, List.length_cons]
    obtain ⟨i1, i2⟩ := ih
    constructor <;> omega
theorem plc_far : ∀ (ms : List MV) (x y a b : Int), (∀ m ∈ ms, VMove m) → mtot ms ≤ a → mtot ms ≤ b → plc x y ms a = plc x y ms b
  | [], _, _, _, _, _, _, _ => rfl
  | m :: r, x, y, a, b, h, ha, hb => by
    have hr : ∀ q ∈ r, VMove q := fun q hq => h q (List.mem_cons_of_mem _ hq)
    have := (mtot_nonneg hr).1
    rw [mtot_cons] at ha hb
    rw [plc_cons, plc_cons, if_neg (by omega), if_neg (by omega)]
    exact plc_far r _ _ _ _ hr (by omega) (by omega)
def pic (ls : List LY) (x y : Int) (ms : List MV) (m : Int) : PIC := (ls.map (fun l => shown l.1 l.2 m), plc x y ms m)
/-! ### the law's own helpers -/
theorem fm {x m : Int} (h : 0 < m) : 0 ≤ x.fmod m ∧ x.fmod m < m := by
  rw [Int.fmod_eq_emod_of_nonneg x (by omega)]
  exact ⟨Int.emod_nonneg _ (by omega), Int.emod_lt_of_pos _ h⟩
theorem tk_updL {K : PySem.W.Frag} {H : Hp} {D : Addr} {xs ys : List V} (h : H D = some (.lst xs)) : TKeep K H (upd H D (.lst ys)) := by
  intro a zs q
  rcases q with (q | ⟨o, q⟩) | q
  · refine .inl (.inl ?_)
    rw [upd_ne (ne_of q h (by intro z; cases z))]
    exact q
  · refine .inl (.inr ⟨o, ?_⟩)
    rw [upd_ne (ne_of q h (by intro z; cases z))]
    exact q
  · exact .inr q
inductive Fl : V → String → Bool → Prop
  | non : Fl .non "NoneType" false
  | bl (b : Bool) : Fl (.bl b) "bool" true
  | int (i : Int) : Fl (.int i) "int" false
theorem Fl.ty {K : PySem.W.Frag} {H : Hp} {x : V} {t : String} {b : Bool} (f : Fl x t b) : TyX K H x (.type t) := by
  cases f with
  | non => exact .base .non
  | bl b => exact .base (.bl b)
  | int i => exact .base (.int i)
theorem Fl.kit {x : V} {t : String} {b : Bool} (f : Fl x t b) : kitB t "bool" = some b := by
  cases f <;> decide +kernel
theorem Fl.kit2 {K : PySem.W.Frag} {x : V} {t : String} {b : Bool} (f : Fl x t b) : PySem.W.kitAny K (.type t) [.type "tuple", .type "list"] = some false := by
  cases f <;> exact kitAny_cons (kit_ty (r := false) (by decide +kernel)) (fun _ => kitAny_cons (kit_ty (r := false) (by decide +kernel)) (fun _ => kitAny_nil) (fun z => nomatch z)) (fun z => nomatch z)
theorem Fl.scal {x y : V} {t u : String} {b : Bool} (f : Fl x t b) (g : Fl y u b) : L2.scal x y = true := by
  cases f <;> cases g <;> rfl
theorem Fl.ne {x y : V} {t u : String} {b c : Bool} (f : Fl x t b) (g : Fl y u c) (h : b ≠ c) : x ≠ y := by
  cases f <;> cases g <;> first | exact absurd rfl h | (intro z; cases z)
theorem st_ne {H : Hp} {st p : Addr} (s : IsSt H st) (h : H p = none) : p ≠ st := by
  obtain ⟨x, y, hx, _⟩ := s
  exact fun z => by rw [z, hx] at h; cases h
theorem st_neT {H : Hp} {st p : Addr} {xs : List V} (s : IsSt H st) (h : H p = some (.tup xs)) : p ≠ st := by
  obtain ⟨x, y, hx, _⟩ := s
  exact ne_of h hx (by intro z; cases z)
/-! ### the law's own comparison, of equal data -/
theorem tyL {K : PySem.W.Frag} {H : Hp} {a : Addr} {xs : List V} (h : SqL K H a xs) : TyX K H (.ref a) (.type "list") := by
  rcases h with (h | ⟨o, h⟩) | ⟨o, its, n, h, c, _⟩
  · exact .base (.lst h)
  · exact .base (.frz h)
  · exact .kList h c
mutual
theorem Dp.sm {K : PySem.W.Frag} {H H' : Hp} (s : Same H H') : ∀ {v : V} {d : PyData}, Dp K H v d → Dp K H' v d
  | _, _, .non => .non
  | _, _, .bl b => .bl b
  | _, _, .int i => .int i
  | _, _, .str x => .str x
  | _, _, .lst h q => .lst (s.seq h) (DpAll.sm s q)
  | _, _, .tup h q => .tup (Same.sqT s h) (DpAll.sm s q)
theorem DpAll.sm {K : PySem.W.Frag} {H H' : Hp} (s : Same H H') : ∀ {v : List V} {d : List PyData}, DpAll K H v d → DpAll K H' v d
  | _, _, .nil => .nil
  | _, _, .cons h q => .cons (Dp.sm s h) (DpAll.sm s q)
end
theorem DpAll.at {K : PySem.W.Frag} {H : Hp} : ∀ {vs : List V} {ds : List PyData} {i : Nat} {v : V}, DpAll K H vs ds → vs[i]? = some v → ∃ d, ds[i]? = some d ∧ Dp K H v d
  | _, _, i, v, .nil, h => by simp at h
  | _, _, 0, v, .cons a t, h => by
    have e : _ = v := Option.some.inj h
    subst e
    exact ⟨_, rfl, a⟩
  | _, _, i + 1, v, .cons a t, h => DpAll.at (i := i) t h
theorem DpAll.len {K : PySem.W.Frag} {H : Hp} : ∀ {vs : List V} {ds : List PyData}, DpAll K H vs ds → vs.length = ds.length
  | _, _, .nil => rfl
  | _, _, .cons _ t => by rw [List.length_cons, List.length_cons, DpAll.len t]
def flD (d : PyData) : Prop := d = .none ∨ (∃ b, d = .bool b) ∨ ∃ i, d = .int i
def dOk : Nat → PyData → Prop
  | 0, d => flD d
  | n + 1, d => flD d ∨ ∃ ds, (d = .list ds ∨ d = .tuple ds) ∧ ds.length ≤ 1000 ∧ ∀ e ∈ ds, dOk n e
theorem flD.fl {K : PySem.W.Frag} {H : Hp} {x y : V} {d : PyData} (f : flD d) (hx : Dp K H x d) (hy : Dp K H y d) : x = y ∧ ∃ t b, Fl x t b := by
  rcases f with rfl | ⟨b, rfl⟩ | ⟨i, rfl⟩
  · cases hx
    cases hy
    exact ⟨rfl, _, _, .non⟩
  · cases hx
    cases hy
    exact ⟨rfl, _, _, .bl b⟩
  · cases hx
    cases hy
    exact ⟨rfl, _, _, .int i⟩
/-- a comprehension over a zip of two that stand still, each item True -/
theorem lc_zip {J : It} {xs ys : List V} {g : TG} {tt : TT} {te : TE} {vs : List Nat} {σ : L2.St} {H1 : Hp} {D : Addr} {Qd : Hp → Prop} (hl : ys.length = xs.length) (hz : xs.length ≤ 1000) (hD : H1 D = none)
    (st : ∀ H, Same H1 H → J.stop xs.length H) (go : ∀ (i : Nat) (H : Hp), Same H1 H → i < xs.length → J.go i H)
    (yl : ∀ (i : Nat) (H : Hp) (v : V) (H' : Hp), Same H1 H → J.yld i H v H' → ∃ T x y, v = .ref T ∧ H T = none ∧ H' = upd H T (.tup [x, y]) ∧ xs[i]? = some x ∧ ys[i]? = some y)
    (hs : ∀ (i : Nat) (x y : V) (T : Addr) (H : Hp) (R : V → Hp → Prop) (Z : Hp → Prop), xs[i]? = some x → ys[i]? = some y → Same H1 H → H T = some (.tup [x, y]) → (∀ H4, Same H H4 → R (.bl true) H4) →
      g (.ref T) (wipe σ vs) H fun σ2 H2 => wipe σ2 vs = wipe σ vs ∧ tt σ2 H2 fun b H3 => if b = true then te σ2 H3 R else Z H3)
    (hd : ∀ H, Same H1 H → H D = some (.lst ((List.replicate xs.length true).map V.bl)) → Qd H) :
    ∃ W : Nat → Nat → Hp → Prop, (∃ m, W 0 m (upd H1 D (.lst []))) ∧ ∀ i m H, W i m H →
      (J.stop i H ∧ Qd H) ∨ (J.go i H ∧ ∃ Nx : Hp → Prop, (∀ H', Nx H' → ∃ m', m' < m ∧ W (i + 1) m' H') ∧ ∀ x H', J.yld i H x H' → g x (wipe σ vs) H' fun σ2 H2 => wipe σ2 vs = wipe σ vs ∧ tt σ2 H2 fun b H3 =>
        if b = true then te σ2 H3 fun y H4 => ∃ acc, H4 D = some (.lst acc) ∧ acc.length < sizeLine ∧ Nx (upd H4 D (.lst (acc ++ [y]))) else Nx H3) := by
  refine ⟨fun i m H => m = xs.length - i ∧ i ≤ xs.length ∧ Same H1 H ∧ H D = some (.lst ((List.replicate i true).map V.bl)), ⟨xs.length, by simp, Nat.zero_le _, same_upd hD, upd_same⟩, ?_⟩
  rintro i m H ⟨rfl, hi, s1, eD⟩
  by_cases hlt : i < xs.length
  · refine .inr ⟨go i H s1 hlt, fun H' => Same H1 H' ∧ H' D = some (.lst ((List.replicate (i + 1) true).map V.bl)), fun H' p => ⟨xs.length - (i + 1), by omega, rfl, hlt, p⟩, fun v H' hy => ?_⟩
    obtain ⟨T, x, y, rfl, nT, rfl, hx, hy⟩ := yl i H v H' s1 hy
    have sT : Same H (upd H T (.tup [x, y])) := same_upd nT
    refine hs i x y T _ _ _ hx hy (s1.trans sT) upd_same (fun H4 s4 => ⟨_, s4 _ _ (sT _ _ eD), ?_, ?_, ?_⟩)
    · rw [List.length_map, List.length_replicate]
      exact small1000 (by omega)
    · intro b o e
      rw [upd_ne (ne_of_none e hD)]
      exact s4 _ _ (sT _ _ (s1 _ _ e))
    · rw [upd_same, List.replicate_succ', List.map_append]
      rfl
  · have e : i = xs.length := by omega
    subst e
    exact .inl ⟨st H s1, hd H s1 eD⟩
/-! ### a def that is entered where nothing is being shown: repr is known there -/
structure FnG (P : Program) (w : World) (K : PySem.W.Frag) (mg : Str → Option Value) (base : Heap) (k : Nat) (f : Addr) (fd : FuncData) (ps : List Str) (sp : Sp) : Prop where
  len : ∀ vs H Q E, sp vs H Q E → vs.length = ps.length
  run : ∀ (A : Around) (outer : List Env) (s : Shared) (H : Hp) (args : Args) (us : List Value) (vs : List V) (Q : VK) (E : XK), A.guards = some [] → Room k A → Env0 P w K mg base A outer s H → BindsTo s fd args (ps.zip us) →
    Vals vs us → sp vs H Q E → codeAny (model P w) A (.call (.ref f) args) (CR CX0 outer P w H s Q E) s
/-! ### a call goes by the def's body, in whatever context the body is read -/
/-- the def st stands at f, its code object is cdv -/
structure DefAt (K : PySem.W.Frag) (x qual : Str) (st : Stmt) (f : Addr) (fd : FuncData) (cdv : Value) : Prop where
  isFn : ∃ (kV doc pm : Value) (an : Option Addr) (ct : Value), fd = PySem.W.fnOf x qual (defArgs st) (defBody st) (defScope st) .none kV doc pm an cdv ct
  there : ∃ (oc : Value) (od : Option Addr) (osl : Array (Option Value)), K.lookup f = some ⟨oc, od, .func fd, osl⟩
  coded : PySem.W.codeIn K cdv qual = true
/-- what a call's value is, told by how the body ends -/
def given : Flow → Value
  | .ret u => u
  | _ => .none
/-- the state in which a body begins whose parameters ps hold us -/
abbrev Begun (qual : Str) (st : Stmt) (f : Addr) (cdv : Value) (ps : List Str) (us : List Value) (s s1 : Shared) : Prop :=
  InCallC s s.heap.objs.size (bindL (envOfC qual (defScope st) s.heap.objs.size f cdv).kindOf (ps.zip us) fun _ => none) (cellsFrom (s.heap.objs.size + 1) (defScope st).names [])
    (bindC (envOfC qual (defScope st) s.heap.objs.size f cdv).kindOf (ps.zip us) fun _ => none) s1
theorem given_by {X : Cx} {Q : VK} {fl : Flow} {s' : Shared} (none : X.ex = []) (h : SP X [] { nx := fun _ H' => Q .non H', rt := Q } fl s') : CE X.outer X.prog X.w X.H_0 X.s_0 Q (given fl) s' := by
  have told : ∀ {σ : L2.St} {H' : Hp} {v : V}, Inv X [] σ H' s' → RelV v (given fl) → Q v H' → CE X.outer X.prog X.w X.H_0 X.s_0 Q (given fl) s' := fun J rv q => ⟨_, _, J.os, J.bare, none ▸ J.base, J.hok, rv, q⟩
  match fl, h with
  | .ret _, ⟨_, _, _, J, rv, q⟩ => exact told J rv q
  | .next, ⟨_, _, J, q⟩ => exact told (v := .non) J rfl q
  | .brk, ⟨_, _, _, q⟩ | .cont, ⟨_, _, _, q⟩ => exact q.elim
section
variable {P : Program} {w : World} {K : PySem.W.Frag} {mg : Str → Option Value} {base : Heap}
theorem defAt_of {x qual : Str} {st : Stmt} {f : Addr} {fd : FuncData} (F : Fun K x qual st f fd) : ∃ cdv, DefAt K x qual st f fd cdv :=
  let ⟨oc, od, kV, doc, pm, an, cdv, ct, osl, e, l, c⟩ := F.ex
  ⟨cdv, ⟨kV, doc, pm, an, ct, e⟩, ⟨oc, od, osl, l⟩, c⟩
theorem DefAt.call {x qual : Str} {st : Stmt} {f : Addr} {fd : FuncData} {cdv : Value} {N ps : List Str} {A : Around} {outer : List Env} {s : Shared} {H : Hp} {args : Args} {us : List Value} {R : Result → Shared → Prop} (D : DefAt K x qual st f fd cdv) (S : FnScope N ps (defScope st))
    (room : A.depth < recursionLimit) (e0 : Env0 P w K mg base A outer s H) (hb : BindsTo s fd args (ps.zip us))
    (body : ∀ s1, Begun qual st f cdv ps us s s1 → wpAny (model P w) (A.deeper (envOfC qual (defScope st) s.heap.objs.size f cdv)) (execs (defBody st) (envOfC qual (defScope st) s.heap.objs.size f cdv)) (fun fl s' => R (.ok (.ret (given fl))) s')
      (fun e s' => wpAny (model P w) (A.deeper (envOfC qual (defScope st) s.heap.objs.size f cdv)) (leaving (envOfC qual (defScope st) s.heap.objs.size f cdv) e) (fun _ z => R (.error e) z) (fun e' z => R (.error e') z) s') s1) :
    codeAny (model P w) A (.call (.ref f) args) R s := by
  obtain ⟨⟨kV, doc, pm, an, ct, rfl⟩, ⟨oc, od, osl, there⟩, coded⟩ := D
  have stands : ∀ b o, base.get? b = some o → s.heap.get? b = some o := fun b o z => (e0.bs b o z).1
  have kin := e0.mod.kin.keeps stands
  apply codeAny_call_function room (kin f _ there) rfl S.co S.gen rfl (PySem.W.codeRec_of kin coded)
  apply hb
  apply wpAny_newFunctionEnv_cells S.kind
  · exact fun y hy => (S.par y.1 (List.of_mem_zip hy).1).imp id fun c => ⟨c, PySem.W.cellsFrom_some _ _ _ (.inl c)⟩
  · rintro _ rfl s1 begun
    exact ⟨(e0.mod.nolimit.keeps stands).keeps begun.toInCall.keep, codeAny_func (wpAny_mono (body s1 begun) (fun fl _ h => by cases fl <;> exact h) fun _ _ h => h)⟩
theorem fun_okG {x qual : Str} {st : Stmt} {f : Addr} {fd : FuncData} {N ps : List Str} {k : Nat} {sp : Sp} (F : Fun K x qual st f fd) (S : FnScope N ps (defScope st)) (ln : ∀ vs H Q E, sp vs H Q E → vs.length = ps.length)
    (hbody : ∀ (cdv : Value) (A : Around) (outer : List Env) (s : Shared) (H : Hp) (vs : List V) (Q : VK) (E : XK), A.guards = some [] → Room k (A.deeper (envOfC qual (defScope st) s.heap.objs.size f cdv)) → sp vs H Q E →
      ∃ t, PSs (cxOf CX0 P w K mg base N qual (defScope st) f cdv A outer s H E).nox (defBody st) t ∧ t { nx := fun _ H' => Q .non H', rt := Q } (L2.start N vs) H) : FnG P w K mg base (k + 1) f fd ps sp := by
  obtain ⟨cdv, D⟩ := defAt_of F
  refine ⟨ln, fun A outer s H args us vs Q E hgu hr e0 hb r hsp => D.call S hr.depth e0 hb fun s1 begun => ?_⟩
  obtain ⟨t, ht, hq⟩ := hbody cdv A outer s H vs Q E hgu (hr.deeper _) hsp
  exact thn (ht.nox.run [] s1 _ H _ (inv_start S hr.hd e0 (ln _ _ _ _ hsp) r begun) hq) fun _ _ h => given_by rfl h
/-- the law's call from such a promise -/
theorem law_callG {mb : Str → Option Value} {k : Nat} {fa a : Addr} {fd : FuncData} {x : Str} {sp : Sp} {s₁ : Shared} {vs : List Value} {ns : List Int}
    (KX : K.In s₁.heap) (hns : s₁.heap.Ns mainGlobals mg) (hb : s₁.heap.Ns builtinsNs mb) (hbb : ∀ x : Str, x ≠ "__name__" → mb x = bootBuiltins x) (hlim : s₁.heap.NoLimit)
    (hge : s₁.gens = #[]) (ha : s₁.heap.get? a = some { cls := .type "list", data := .seq vs.toArray }) (hi : IntsAre vs ns) (hl : ns.length ≤ sizeLine) (hr : Room k callerA)
    (F : ∀ base : Heap, K.In base → base.Ns mainGlobals mg → FnG P w K mg base k fa fd [x] sp)
    (hbind : ∀ (s : Shared) (u : Value), BindsTo s fd ⟨[u], []⟩ [(x, u)])
    (hsp : ∀ H : Hp, SqL K H a (ns.map V.int) → sp [.ref a] H (fun v _ => v = .bl true) fun _ _ _ => False) :
    codeAny (model P w) callerA (.call (.ref fa) ⟨[.ref a], []⟩)
      (fun r s' => r = .ok (.ret (.bool true)) ∧ OldK s₁.heap s'.heap ∧ s'.os = s₁.os ∧ AllBare s'.gens) s₁ := by
  have rv := vals_ints hi
  have lv := hi.length
  obtain ⟨H, hH⟩ : ∃ H : Hp, ∀ b, H b = if b = a ∧ K.lookup a = none then some (.frz { cls := .type "list", data := .seq vs.toArray } (.lst (ns.map V.int))) else none := ⟨fun b => _, fun _ => rfl⟩
  have some_of : ∀ {b u}, H b = some u → b = a ∧ K.lookup a = none ∧ u = .frz { cls := .type "list", data := .seq vs.toArray } (.lst (ns.map V.int)) := by
    intro b u e
    rw [hH b] at e
    by_cases c : b = a ∧ K.lookup a = none
    · rw [if_pos c] at e
      exact ⟨c.1, c.2, (Option.some.inj e).symm⟩
    · rw [if_neg c] at e
      cases e
  have none_of : ∀ {b o} {es : Array DictEntry} {ep : Nat}, s₁.heap.get? b = some o → o.data = .dict es ep → H b = none := by
    intro b o es ep e d
    cases c : H b with
    | none => rfl
    | some u =>
      obtain ⟨rfl, _, _⟩ := some_of c
      rw [ha] at e
      cases e
      cases d
  have hS : SqL K H a (ns.map V.int) := by
    cases hk : K.lookup a with
    | none => exact .inl (.inr ⟨_, by rw [hH a, if_pos ⟨rfl, hk⟩]⟩)
    | some o =>
      have e := KX a o hk
      rw [ha] at e
      cases e
      refine .inr ⟨_, vs.toArray, _, hk, rfl, rfl, rfl, ?_, by simpa using rv⟩
      rw [List.size_toArray, lv]
      exact hl
  have hok : HOk P w H s₁.heap := by
    intro b u e
    obtain ⟨rfl, _, rfl⟩ := some_of e
    refine ⟨ha, ?_, vs, _, rv, ha⟩
    rw [List.length_map]
    exact hl
  have nsB : ∀ {b : Addr} {m : Str → Option Value}, s₁.heap.Ns b m → (hidT s₁.heap H).Ns b m := by
    rintro b m ⟨o, es, ep, e, d, r⟩
    exact ⟨o, es, ep, hidT_get e (none_of e d), d, r⟩
  have kB : K.In (hidT s₁.heap H) := by
    intro b o e
    refine hidT_get (KX b o e) ?_
    cases c : H b with
    | none => rfl
    | some u =>
      obtain ⟨rfl, k0, _⟩ := some_of c
      rw [k0] at e
      cases e
  have md : Mod K mg (hidT s₁.heap H) := by
    obtain ⟨mc, h1, h2⟩ := hlim
    exact ⟨kB, nsB hns, ⟨mb, nsB hb, hbb⟩, ⟨mc, nsB h1, h2⟩⟩
  have e0 : Env0 P w K mg (hidT s₁.heap H) callerA [] s₁ H := by
    refine ⟨rfl, md, fun b o e => of_hidT e, Nat.le_of_eq (hidT_size _ _), trivial, ?_, hok, .of_eq hge⟩
    intro b hb
    exact absurd (show b ∈ ([] : List Addr) from hb) (by simp)
  have go := (F _ kB (nsB hns)).run callerA [] s₁ H ⟨[.ref a], []⟩ [.ref a] [.ref a] _ _ rfl hr e0
    (hbind s₁ (.ref a)) (.cons rfl .nil) (hsp H hS)
  refine codeAny_mono go fun r s' h => ?_
  cases r with
  | error e => exact h.elim
  | ok fl =>
    cases fl with
    | ret u =>
      obtain ⟨v, H', os, bare, un, hok', r', qv⟩ := h
      have qv' : v = .bl true := qv
      subst qv'
      obtain rfl : u = Value.bool true := r'
      refine ⟨rfl, OldK.of_keep fun b o e => ?_, os, bare⟩
      cases c : H b with
      | none =>
        refine un.keep b o e c ?_ (by simp)
        intro z
        exact absurd (show b ∈ ([] : List Addr) from z) (by simp)
      | some u =>
        obtain ⟨_, _, rfl⟩ := some_of c
        have c2 := un.frzs b _ _ c
        obtain ⟨e1, _⟩ := hok b _ c
        obtain ⟨e2, _⟩ := hok' b _ c2
        rw [e] at e1
        cases e1
        exact e2
    | next => exact False.elim h
    | brk => exact False.elim h
    | cont => exact False.elim h
end
theorem walk_ofG {l : PySem.W.OpenLaw} {n k : Nat} {q : Program} {loose : List Str} {XP : (Str → Option Value) → Heap → Prop} {YP : World → Heap → Prop} {d : DefRec} {K : Params → PySem.W.Frag} {sp : World → Sp} {x : Str}
    (hn : l.most = some n) (hn2 : n ≤ sizeLine) (hdf : d.params.defaults = []) (hr : Room k callerA) (hY : ∀ (w : World) (h : Heap), YP w h → (K w.params).In h)
    (F : ∀ (w : World) (mg : Str → Option Value) (fa : Addr) (h : Heap), (K w.params).In h → h.Ns mainGlobals mg → mg d.name = some (.ref fa) →
      ∃ fd : FuncData, (∀ (s : Shared) (u : Value), BindsTo s fd ⟨[u], []⟩ [(x, u)]) ∧
        ∀ base : Heap, (K w.params).In base → base.Ns mainGlobals mg → FnG l.prog w (K w.params) mg base k fa fd [x] (sp w))
    (hsp : ∀ (w : World) (H : Hp) (a : Addr) (ns : List Int), ns.length ≤ n → SqL (K w.params) H a (ns.map V.int) → sp w [.ref a] H (fun v _ => v = .bl true) fun _ _ _ => False) :
    PySem.W.WalkO q loose XP YP l.row.toRowW d [] (fun f vs => PySem.call f vs) := by
  refine Att.attach_call hn hdf fun w s₀ s₁ mg mb fa o pm cd doc a vs ns G Y _ _ _ hmg hobj hints hlen hge => ?_
  have KX := hY w _ Y
  obtain ⟨fd, hb, hF⟩ := F w mg fa _ KX G.T.g hmg
  exact law_callG KX G.T.g G.T.b G.T.builtins G.T.nolimit hge hobj hints (Nat.le_trans hlen hn2) hr hF hb
    (fun H hS => hsp w H a ns hlen hS)
/-! ### repr of data -/
def rRepr (K : PySem.W.Frag) : List V → Hp → VK → Prop := fun xs H Q => ∃ (a : Addr) (d : PyData) (S : Str), xs = [.ref a] ∧ Dp K H (.ref a) d ∧ d.showable = true ∧ d.hasDict = false ∧ d.depth ≤ 30 ∧ d.shown.length ≤ sizeLine ∧ d.shown = S ∧ Q (.str S) H
theorem call_repr {X : Cx} (hg : X.A.guards = some []) (hu : X.A.units + 64 < cLine) : CallR X (.builtin "repr") (rRepr X.K) := by
  intro pins s σ H xs us Q I r h
  obtain ⟨a, d, S, rfl, hd, hs, hnd, hdep, hsz, hS, q⟩ := h
  subst hS
  obtain ⟨u, rfl, rx⟩ := vals1 r
  cases (show u = Value.ref a from rx)
  obtain ⟨as, rd⟩ := Dp.reads I d _ _ hd rfl
  refine repr_of_reads' rd hs (fun z => by rw [hnd] at z; cases z) hg (by omega) (fun _ _ e => e) (fun h' u tk hk => ?_) hsz
  exact ⟨.str d.shown, H, I.kept hk, ⟨_, rfl⟩, q⟩
/-! ### data that can be shown -/
structure RO (k w : Nat) (d : PyData) : Prop where
  sh : d.showable = true
  nd : d.hasDict = false
  dp : d.depth ≤ k
  lv : d.leavesShort 13 = true
  wt : d.weight ≤ w
theorem RO.none {w : Nat} : RO 0 w .none := ⟨rfl, rfl, Nat.le_refl _, rfl, Nat.zero_le _⟩
theorem RO.bool {w : Nat} (b : Bool) : RO 0 w (.bool b) := ⟨rfl, rfl, Nat.le_refl _, rfl, Nat.zero_le _⟩
theorem RO.int {i : Int} (h1 : -999999999999 ≤ i) (h2 : i ≤ 999999999999) : RO 0 41 (.int i) := by
  have hl : i.natAbs.log2 < 41 := by
    rcases Nat.eq_zero_or_pos i.natAbs with e | e
    · rw [e]
      decide
    · exact (Nat.log2_lt (by omega)).mpr (Nat.lt_of_le_of_lt (show i.natAbs ≤ 999999999999 by omega) (by decide))
  refine ⟨decide_eq_true (by omega), rfl, Nat.le_refl _, decide_eq_true (PyData.shown_int_le2 h1 h2), ?_⟩
  show (if i == 0 then 0 else i.natAbs.log2 + 1) ≤ 41
  split <;> omega
theorem RO.more {k w k' w' : Nat} {d : PyData} (h : RO k w d) (h1 : k ≤ k') (h2 : w ≤ w') : RO k' w' d := ⟨h.sh, h.nd, Nat.le_trans h.dp h1, h.lv, Nat.le_trans h.wt h2⟩
theorem ro_all {k w : Nat} : ∀ {ds : List PyData}, (∀ e ∈ ds, RO k w e) → PyData.showableAll ds = true ∧ PyData.hasDictAll ds = false ∧ PyData.depthAll ds ≤ k ∧ PyData.leavesShortAll 13 ds = true ∧ PyData.weightAll ds ≤ ds.length * (w + 1)
  | [], _ => ⟨rfl, rfl, Nat.zero_le _, rfl, Nat.zero_le _⟩
  | d :: t, h => by
    obtain ⟨a, b, c, e, f⟩ := ro_all (ds := t) fun x hx => h x (List.mem_cons_of_mem _ hx)
    have h1 := h d (List.mem_cons_self ..)
    refine ⟨?_, ?_, ?_, ?_, ?_⟩
    · show (d.showable && PyData.showableAll t) = true
      rw [h1.sh, a]
      rfl
    · show (d.hasDict || PyData.hasDictAll t) = false
      rw [h1.nd, b]
      rfl
    · show max d.depth (PyData.depthAll t) ≤ k
      exact Nat.max_le.mpr ⟨h1.dp, c⟩
    · show (d.leavesShort 13 && PyData.leavesShortAll 13 t) = true
      rw [h1.lv, e]
      rfl
    · show d.weight + 1 + PyData.weightAll t ≤ (t.length + 1) * (w + 1)
      have := h1.wt
      rw [Nat.add_mul, Nat.one_mul]
      omega
theorem RO.tup {k w n : Nat} {ds : List PyData} (h : ∀ e ∈ ds, RO k w e) (hn : ds.length * (w + 1) ≤ n) : RO (k + 1) n (.tuple ds) := by
  obtain ⟨a, b, c, e, f⟩ := ro_all h
  exact ⟨a, b, Nat.succ_le_succ c, e, Nat.le_trans f hn⟩
theorem RO.lst {k w n : Nat} {ds : List PyData} (h : ∀ e ∈ ds, RO k w e) (hn : ds.length * (w + 1) ≤ n) : RO (k + 1) n (.list ds) := by
  obtain ⟨a, b, c, e, f⟩ := ro_all h
  exact ⟨a, b, Nat.succ_le_succ c, e, Nat.le_trans f hn⟩
theorem RO.fits {k w : Nat} {d : PyData} (h : RO k w d) (hw : w ≤ 1000000) : d.shown.length ≤ sizeLine := by
  have := PyData.shown_le 13 (by decide) d h.lv
  have := h.wt
  have e : sizeLine = 16777216 := by decide
  omega
/-! ### windows and places as data -/
theorem dpAll_of {K : PySem.W.Frag} {H : Hp} {β : Type} {R : V → β → Prop} {f : β → PyData} (h : ∀ v m, R v m → Dp K H v (f m)) : ∀ {vs : List V} {ms : List β}, Paired R vs ms → DpAll K H vs (ms.map f)
  | _, _, .nil => .nil
  | _, _, .cons r t => .cons (h _ _ r) (dpAll_of h t)
def rwD (r : RW) : PyData := .tuple [.int r.1, .int r.2]
def plD (p : RW × RW) : PyData := .tuple [rwD p.1, rwD p.2]
def mvD (m : MV) : PyData := .tuple [.int m.1, .int m.2.1, .int m.2.2]
def winD (x y : Int) (ms : List MV) : PyData := .tuple [.int x, .int y, .tuple (ms.map mvD)]
theorem RowAt.dp {K : PySem.W.Frag} {H : Hp} {v : V} {r : RW} : RowAt K H v r → Dp K H v (rwD r) := by
  rintro ⟨p, rfl, h⟩
  exact .tup h (.cons (.int _) (.cons (.int _) .nil))
theorem PlAt.dp {K : PySem.W.Frag} {H : Hp} {v : V} {p : RW × RW} : PlAt K H v p → Dp K H v (plD p) := by
  rintro ⟨a, v1, v2, rfl, h, r1, r2⟩
  exact .tup h (.cons r1.dp (.cons r2.dp .nil))
theorem MoveAt.dp {K : PySem.W.Frag} {H : Hp} {v : V} {m : MV} : MoveAt K H v m → Dp K H v (mvD m) := by
  rintro ⟨p, rfl, h⟩
  exact .tup h (.cons (.int _) (.cons (.int _) (.cons (.int _) .nil)))
theorem WinAt.dp {K : PySem.W.Frag} {H : Hp} {v : V} {x y : Int} {ms : List MV} : WinAt K H v x y ms → Dp K H v (winD x y ms) := by
  rintro ⟨p, mv, rfl, h, pm, vs, rfl, hq, pd⟩
  exact .tup h (.cons (.int _) (.cons (.int _) (.cons (.tup hq (dpAll_of (f := mvD) (fun _ _ h => MoveAt.dp h) pd)) .nil)))
theorem mem3 {α : Type} {a b c e : α} (h : e ∈ [a, b, c]) : e = a ∨ e = b ∨ e = c := by
  simpa using h
theorem mvD_ro {m : MV} (h : VMove m) : RO 1 126 (mvD m) := by
  obtain ⟨h1, h2, h3, h4⟩ := h
  refine RO.tup (k := 0) (w := 41) (fun e he => ?_) (by show 3 * 42 ≤ 126; decide)
  rcases mem3 he with rfl | rfl | rfl <;> exact RO.int (by omega) (by omega)
theorem winD_ro {x y : Int} {ms : List MV} (h : VWin x y ms) : RO 3 3051 (winD x y ms) := by
  obtain ⟨h1, h2, h3, h4⟩ := h
  refine RO.tup (k := 2) (w := 1016) (fun e he => ?_) (by show 3 * 1017 ≤ 3051; decide)
  rcases mem3 he with rfl | rfl | rfl
  · exact (RO.int (by omega) (by omega)).more (by omega) (by omega)
  · exact (RO.int (by omega) (by omega)).more (by omega) (by omega)
  · refine RO.tup (k := 1) (w := 126) (fun e he => ?_) ?_
    · obtain ⟨m, hm, rfl⟩ := List.mem_map.mp he
      exact mvD_ro (h4 m hm)
    · rw [List.length_map]
      omega
theorem ro_args {k w : Nat} {d : PyData} (h : RO k w d) (hk : k ≤ 30) (hw : w ≤ 1000000) : d.showable = true ∧ d.hasDict = false ∧ d.depth ≤ 30 ∧ d.shown.length ≤ sizeLine := ⟨h.sh, h.nd, Nat.le_trans h.dp hk, h.fits hw⟩
theorem fl_int (i : Int) : flD (.int i) := .inr (.inr ⟨i, rfl⟩)
theorem dOk_rw (r : RW) : dOk 1 (rwD r) := by
  refine .inr ⟨_, .inr rfl, (by show 2 ≤ 1000; decide), fun e he => ?_⟩
  rcases List.mem_cons.mp he with rfl | he
  · exact fl_int _
  · rw [List.mem_singleton.mp he]
    exact fl_int _
theorem dOk_pl (p : RW × RW) : dOk 2 (plD p) := by
  refine .inr ⟨_, .inr rfl, (by show 2 ≤ 1000; decide), fun e he => ?_⟩
  rcases List.mem_cons.mp he with rfl | he
  · exact dOk_rw _
  · rw [List.mem_singleton.mp he]
    exact dOk_rw _
/-! ### layers, sheets, pictures as data -/
def bkD : Option Int → PyData
  | none => .none
  | some i => .int i
def lyD (l : LY) : PyData := .tuple [.tuple (l.1.map rwD), bkD l.2]
def shD (ls : List LY) (x y : Int) (ms : List MV) : PyData := .tuple [.tuple (ls.map lyD), winD x y ms]
def picD (c : PIC) : PyData := .tuple [.tuple (c.1.map .int), plD c.2]
theorem bkD_dp {K : PySem.W.Frag} {H : Hp} (o : Option Int) : Dp K H (bkV o) (bkD o) := by
  cases o with
  | none => exact .non
  | some i => exact .int i
theorem LyAt.dp {K : PySem.W.Frag} {H : Hp} {v : V} {l : LY} : LyAt K H v l → Dp K H v (lyD l) := by
  rintro ⟨p, rv, rfl, h, pr, vs, rfl, hq, pd⟩
  exact .tup h (.cons (.tup hq (dpAll_of (f := rwD) (fun _ _ h => RowAt.dp h) pd)) (.cons (bkD_dp _) .nil))
theorem ShAt.dp {K : PySem.W.Frag} {H : Hp} {v : V} {ls : List LY} {x y : Int} {ms : List MV} : ShAt K H v ls x y ms → Dp K H v (shD ls x y ms) := by
  rintro ⟨p, lv, wv, rfl, h, ⟨pl, vs, rfl, hq, pd⟩, hw⟩
  exact .tup h (.cons (.tup hq (dpAll_of (f := lyD) (fun _ _ h => LyAt.dp h) pd)) (.cons hw.dp .nil))
theorem ints_dp {K : PySem.W.Frag} {H : Hp} : ∀ ns : List Int, DpAll K H (ns.map V.int) (ns.map .int)
  | [] => .nil
  | n :: r => .cons (.int n) (ints_dp r)
theorem PicAt.dp {K : PySem.W.Frag} {H : Hp} {v : V} {c : PIC} : PicAt K H v c → Dp K H v (picD c) := by
  rintro ⟨a, b, v2, rfl, h, h1, h2⟩
  exact .tup h (.cons (.tup h1 (ints_dp _)) (.cons h2.dp .nil))
theorem mem2 {α : Type} {a b e : α} (h : e ∈ [a, b]) : e = a ∨ e = b := by
  simpa using h
theorem rwD_ro {r : RW} (h : VRow r) : RO 1 84 (rwD r) := by
  obtain ⟨h1, h2, h3, h4⟩ := h
  refine RO.tup (k := 0) (w := 41) (fun e he => ?_) (by show 2 * 42 ≤ 84; decide)
  rcases mem2 he with rfl | rfl <;> exact RO.int (by omega) (by omega)
theorem lyD_ro {l : LY} (h : VLy l) : RO 3 1362 (lyD l) := by
  obtain ⟨⟨h8, hr⟩, hb⟩ := h
  refine RO.tup (k := 2) (w := 680) (fun e he => ?_) (by show 2 * 681 ≤ 1362; decide)
  rcases mem2 he with rfl | rfl
  · refine RO.tup (k := 1) (w := 84) (fun e he => ?_) ?_
    · obtain ⟨r, hm, rfl⟩ := List.mem_map.mp he
      exact rwD_ro (hr r hm)
    · rw [List.length_map]
      omega
  · cases e : l.2 with
    | none => exact RO.none.more (by omega) (Nat.le_refl _)
    | some i =>
      have := hb i e
      exact (RO.int (by omega) (by omega)).more (by omega) (by omega)
theorem shD_ro {ls : List LY} {x y : Int} {ms : List MV} (h : VLays ls) (hw : VWin x y ms) : RO 5 10906 (shD ls x y ms) := by
  obtain ⟨h1, h4, hl⟩ := h
  refine RO.tup (k := 4) (w := 5452) (fun e he => ?_) (by show 2 * 5453 ≤ 10906; decide)
  rcases mem2 he with rfl | rfl
  · refine RO.tup (k := 3) (w := 1362) (fun e he => ?_) ?_
    · obtain ⟨l, hm, rfl⟩ := List.mem_map.mp he
      exact lyD_ro (hl l hm)
    · rw [List.length_map]
      omega
  · exact (winD_ro hw).more (by omega) (by omega)
theorem dOk_up : ∀ {n : Nat} {d : PyData}, dOk n d → dOk (n + 1) d
  | 0, _, h => .inl h
  | n + 1, _, .inl h => .inl h
  | n + 1, _, .inr ⟨ds, h1, h2, h3⟩ => .inr ⟨ds, h1, h2, fun e he => dOk_up (h3 e he)⟩
theorem dOk_pic {c : PIC} (h : c.1.length ≤ 1000) : dOk 3 (picD c) := by
  refine .inr ⟨_, .inr rfl, (by show 2 ≤ 1000; decide), fun e he => ?_⟩
  rcases mem2 he with rfl | rfl
  · refine dOk_up (n := 1) (.inr ⟨_, .inr rfl, by rw [List.length_map]; exact h, fun e he => ?_⟩)
    obtain ⟨i, _, rfl⟩ := List.mem_map.mp he
    exact fl_int i
  · exact dOk_pl _
theorem dOk_pics {cs : List PIC} (h : cs.length ≤ 1000) (hc : ∀ c ∈ cs, c.1.length ≤ 1000) : dOk 4 (.list (cs.map picD)) := by
  refine .inr ⟨_, .inl rfl, by rw [List.length_map]; exact h, fun e he => ?_⟩
  obtain ⟨c, hm, rfl⟩ := List.mem_map.mp he
  exact dOk_pic (hc c hm)
theorem lcmap_list {K : PySem.W.Frag} {a : Addr} {xs : List V} {g : TG} {tt : TT} {te : TE} {vs : List Nat} {σ : L2.St} {H1 : Hp} {D : Addr} {Qd : Hp → Prop} (ys : List V) (hl : ys.length = xs.length) (hz : xs.length ≤ 1000) (hS : SqL K H1 a xs) (hD : H1 D = none)
    (hs : ∀ (i : Nat) (x y : V) (H : Hp) (R : V → Hp → Prop) (Z : Hp → Prop), xs[i]? = some x → ys[i]? = some y → Same H1 H → (∀ H4, Same H H4 → R y H4) → g x (wipe σ vs) H fun σ2 H2 => wipe σ2 vs = wipe σ vs ∧ tt σ2 H2 fun b H3 => if b = true then te σ2 H3 R else Z H3)
    (hd : ∀ H, Same H1 H → H D = some (.lst ys) → Qd H) :
    ∃ W : Nat → Nat → Hp → Prop, (∃ m, W 0 m (upd H1 D (.lst []))) ∧ ∀ i m H, W i m H →
      ((Itl K a).stop i H ∧ Qd H) ∨ ((Itl K a).go i H ∧ ∃ Nx : Hp → Prop, (∀ H', Nx H' → ∃ m', m' < m ∧ W (i + 1) m' H') ∧ ∀ x H', (Itl K a).yld i H x H' → g x (wipe σ vs) H' fun σ2 H2 => wipe σ2 vs = wipe σ vs ∧ tt σ2 H2 fun b H3 =>
        if b = true then te σ2 H3 fun y H4 => ∃ acc, H4 D = some (.lst acc) ∧ acc.length < sizeLine ∧ Nx (upd H4 D (.lst (acc ++ [y]))) else Nx H3) := by
  refine lc_list (K := K) (a := a) (xs := xs) (fun i H => Same H1 H ∧ H D = some (.lst (ys.take i))) ⟨same_upd hD, upd_same⟩ (fun i H _ p => p.1.seq hS) (fun i x H hx p => ?_) (fun H p => ?_)
  · have hi : i < xs.length := (List.getElem?_eq_some_iff.mp hx).1
    obtain ⟨y, hy⟩ : ∃ y, ys[i]? = some y := ⟨_, List.getElem?_eq_getElem (by omega)⟩
    refine hs i x y H _ _ hx hy p.1 (fun H4 s4 => ⟨ys.take i, s4 _ _ p.2, ?_, ?_, ?_⟩)
    · rw [List.length_take]
      exact Nat.lt_of_le_of_lt (Nat.min_le_left _ _) (small1000 (by omega))
    · intro b o e
      rw [upd_ne (ne_of_none e hD)]
      exact s4 _ _ (p.1 _ _ e)
    · rw [upd_same, List.take_add_one, hy]
      rfl
  · refine hd H p.1 ?_
    rw [p.2, List.take_of_length_le (by omega)]
/-! ### laying -/
def rnd (rs : List RW) : Option Int → Int
  | none => 0
  | some b => tot (rs.drop b.toNat)
def lays (rs : List RW) (bk : Option Int) (n : Nat) : List V := (List.range n).map fun i => V.int (shown rs bk (i : Nat))
theorem lays_at {rs : List RW} {bk : Option Int} {n i : Nat} (h : i < n) : (lays rs bk n)[i]? = some (.int (shown rs bk (i : Nat))) := by
  unfold lays
  rw [List.getElem?_map, List.getElem?_range h]
  rfl
theorem lays_len (rs : List RW) (bk : Option Int) (n : Nat) : (lays rs bk n).length = n := by
  unfold lays
  rw [List.length_map, List.length_range]
theorem lays_of {rs : List RW} {bk : Option Int} {n : Nat} {fs : List Int} (hl : n ≤ fs.length) (h : ∀ i, i < fs.length → fs[i]? = some (shown rs bk (i : Nat))) : (fs.map V.int).take n = lays rs bk n := by
  apply List.ext_getElem?
  intro i
  by_cases hi : i < n
  · rw [lays_at hi, List.getElem?_take_of_lt hi, List.getElem?_map, h i (by omega)]
    rfl
  · rw [List.getElem?_eq_none (by rw [List.length_take]; omega), List.getElem?_eq_none (by rw [lays_len]; omega)]
/-! ### laid out, row by row -/
/-- a walk over J: Body tells what is asked of a turn, Qd what is asked at the end -/
abbrev Goes (J : It) (Body : V → Hp → (Hp → Prop) → Prop) (Hs : Hp) (Qd : Hp → Prop) : Prop :=
  ∃ W : Nat → Nat → Hp → Prop, (∃ m, W 0 m Hs) ∧ ∀ i m H, W i m H →
    (J.stop i H ∧ Qd H) ∨ (J.go i H ∧ ∃ Nx : Hp → Prop, (∀ H', Nx H' → ∃ m', m' < m ∧ W (i + 1) m' H') ∧ ∀ x H', J.yld i H x H' → Body x H' Nx)
/-- n turns: Pv i stands when i of them are done -/
theorem goes_by {J : It} {n : Nat} {Body : V → Hp → (Hp → Prop) → Prop} {Hs : Hp} {Qd : Hp → Prop} (Pv : Nat → Hp → Prop) (h0 : Pv 0 Hs) (last : ∀ H, Pv n H → J.stop n H ∧ Qd H)
    (turn : ∀ i H, i < n → Pv i H → J.go i H ∧ ∀ x H', J.yld i H x H' → Body x H' (Pv (i + 1))) : Goes J Body Hs Qd := by
  refine ⟨fun done left H => done + left = n ∧ Pv done H, ⟨n, Nat.zero_add n, h0⟩, fun i left H here => ?_⟩
  cases left with
  | zero =>
    obtain ⟨rfl, p⟩ := here
    exact .inl (last H p)
  | succ less =>
    have now := turn i H (by have := here.1; omega) here.2
    exact .inr ⟨now.1, Pv (i + 1), fun H' p => ⟨less, Nat.lt_succ_self less, by have := here.1; omega, p⟩, now.2⟩
theorem wk_tup {K : PySem.W.Frag} {a : Addr} {xs : List V} {Body : V → Hp → (Hp → Prop) → Prop} {Hs : Hp} {Qd : Hp → Prop} (Pv : Nat → Hp → Prop) (h0 : Pv 0 Hs) (hl : ∀ i H, i ≤ xs.length → Pv i H → SqT K H a xs)
    (hs : ∀ i x H, xs[i]? = some x → Pv i H → Body x H (Pv (i + 1))) (hd : ∀ H, Pv xs.length H → Qd H) : Goes (Itt K a) Body Hs Qd :=
  goes_by (n := xs.length) Pv h0 (fun H p => ⟨⟨xs, hl _ H (Nat.le_refl _) p, Nat.le_refl _⟩, hd H p⟩) fun i H lt p =>
    have stays := hl i H (Nat.le_of_lt lt) p
    ⟨⟨xs, _, stays, List.getElem?_eq_getElem lt⟩, fun x _ y => y.1 ▸ hs i x H (y.2 xs stays) p⟩
theorem wk_list {K : PySem.W.Frag} {a : Addr} {xs : List V} {Body : V → Hp → (Hp → Prop) → Prop} {Hs : Hp} {Qd : Hp → Prop} (Pv : Nat → Hp → Prop) (h0 : Pv 0 Hs) (hl : ∀ i H, i ≤ xs.length → Pv i H → SqL K H a xs)
    (hs : ∀ i x H, xs[i]? = some x → Pv i H → Body x H (Pv (i + 1))) (hd : ∀ H, Pv xs.length H → Qd H) : Goes (Itl K a) Body Hs Qd :=
  goes_by (n := xs.length) Pv h0 (fun H p => ⟨⟨xs, hl _ H (Nat.le_refl _) p, Nat.le_refl _⟩, hd H p⟩) fun i H lt p =>
    have stays := hl i H (Nat.le_of_lt lt) p
    ⟨⟨xs, _, stays, List.getElem?_eq_getElem lt⟩, fun x _ y => y.1 ▸ hs i x H (y.2 xs stays) p⟩
theorem wk_range {lo : Int} {n : Nat} {Body : V → Hp → (Hp → Prop) → Prop} {Hs : Hp} {Qd : Hp → Prop} (Pv : Nat → Hp → Prop) (h0 : Pv 0 Hs)
    (hs : ∀ i H, i < n → Pv i H → Body (.int (lo + i)) H (Pv (i + 1))) (hd : ∀ H, Pv n H → Qd H) : Goes (Itr lo n) Body Hs Qd :=
  goes_by Pv h0 (fun H p => ⟨Nat.le_refl n, hd H p⟩) fun i H lt p => ⟨lt, fun _ _ y => y.1 ▸ y.2 ▸ hs i H lt p⟩
theorem yes_ok2 {σ : L2.St} {H : Hp} {X Z : Hp → Prop} (h : X H) : tYes σ H (fun b H3 => if b = true then X H3 else Z H3) := by
  show if true = true then X H else Z H
  rw [if_pos rfl]
  exact h
def dwg : List RW → List Int
  | [] => []
  | r :: t => List.replicate r.2.toNat r.1 ++ dwg t
theorem dwg_append (a b : List RW) : dwg (a ++ b) = dwg a ++ dwg b := by
  induction a with
  | nil => rfl
  | cons r t ih => rw [List.cons_append, dwg, dwg, ih, List.append_assoc]
theorem dwg_len : ∀ {rs : List RW}, (∀ r ∈ rs, VRow r) → ((dwg rs).length : Int) = tot rs
  | [], _ => rfl
  | r :: t, v => by
    have v1 := v r (List.mem_cons_self ..)
    have ih := dwg_len (rs := t) fun q hq => v q (List.mem_cons_of_mem _ hq)
    rw [dwg, List.length_append, List.length_replicate, tot_cons]
    obtain ⟨_, _, h3, _⟩ := v1
    omega
theorem dwg_at : ∀ {rs : List RW} {i : Nat}, (∀ r ∈ rs, VRow r) → (i : Int) < tot rs → (dwg rs)[i]? = some (walk rs i)
  | [], i, _, h => by
    rw [tot_nil] at h
    omega
  | r :: t, i, v, h => by
    have v1 := v r (List.mem_cons_self ..)
    have vt : ∀ q ∈ t, VRow q := fun q hq => v q (List.mem_cons_of_mem _ hq)
    obtain ⟨_, _, h3, _⟩ := v1
    rw [tot_cons] at h
    rw [dwg]
    unfold walk
    by_cases c : (i : Int) < r.2
    · rw [if_pos c, List.getElem?_append_left (by rw [List.length_replicate]; omega), List.getElem?_replicate, if_pos (by omega)]
    · rw [if_neg c, List.getElem?_append_right (by rw [List.length_replicate]; omega), List.length_replicate]
      have := dwg_at (rs := t) (i := i - r.2.toNat) vt (by omega)
      rw [this]
      congr 2
      omega
theorem walk_cons (r : RW) (t : List RW) (m : Int) : walk (r :: t) m = if m < r.2 then r.1 else walk t (m - r.2) := rfl
theorem walk_append : ∀ {a b : List RW} {m : Int}, (∀ r ∈ a, VRow r) → 0 ≤ m → walk (a ++ b) m = if m < tot a then walk a m else walk b (m - tot a)
  | [], b, m, _, h => by
    rw [tot_nil, if_neg (by omega), List.nil_append, show m - 0 = m by omega]
  | r :: t, b, m, v, h => by
    have v1 := v r (List.mem_cons_self ..)
    have vt : ∀ q ∈ t, VRow q := fun q hq => v q (List.mem_cons_of_mem _ hq)
    have t0 := (tot_nonneg vt).1
    obtain ⟨_, _, h3, _⟩ := v1
    rw [List.cons_append, tot_cons, walk_cons, walk_cons]
    by_cases c : m < r.2
    · rw [if_pos c, if_pos (by omega), if_pos c]
    · rw [if_neg c, walk_append vt (by omega), if_neg c]
      by_cases d : m < r.2 + tot t
      · rw [if_pos d, if_pos (by omega)]
      · rw [if_neg d, if_neg (by omega), show m - r.2 - tot t = m - (r.2 + tot t) by omega]
theorem rep_at {α : Type} {B : List α} (hB : 0 < B.length) : ∀ (t j : Nat), j < t * B.length → (List.replicate t B).flatten[j]? = B[j % B.length]?
  | 0, j, h => by omega
  | t + 1, j, h => by
    rw [List.replicate_succ, List.flatten_cons]
    by_cases c : j < B.length
    · rw [List.getElem?_append_left c, Nat.mod_eq_of_lt c]
    · rw [List.getElem?_append_right (by omega), rep_at hB t (j - B.length) (by rw [Nat.add_mul, Nat.one_mul] at h; omega), ← Nat.mod_eq_sub_mod (by omega)]
/-- what a layer shows: ahead once, around again and again -/
def ahL (rs : List RW) : Option Int → List Int
  | none => dwg rs
  | some b => dwg (rs.take b.toNat)
def arL (rs : List RW) : Option Int → List Int
  | none => [0]
  | some b => dwg (rs.drop b.toNat)
theorem VRows.takeV {rs : List RW} (v : VRows rs) (k : Nat) : VRows (rs.take k) := ⟨by rw [List.length_take]; have := v.1; omega, fun r hr => v.2 r (List.mem_of_mem_take hr)⟩
theorem VRows.dropV {rs : List RW} (v : VRows rs) (k : Nat) : VRows (rs.drop k) := ⟨by rw [List.length_drop]; have := v.1; omega, fun r hr => v.2 r (List.mem_of_mem_drop hr)⟩
theorem ahL_len {rs : List RW} {bk : Option Int} (v : VRows rs) : (ahL rs bk).length ≤ 192 := by
  cases bk with
  | none =>
    have h := dwg_len v.2
    have t := (tot_nonneg v.2).2
    have := v.1
    show (dwg rs).length ≤ 192
    omega
  | some b =>
    have h := dwg_len (v.takeV b.toNat).2
    have t := (tot_nonneg (v.takeV b.toNat).2).2
    have := (v.takeV b.toNat).1
    show (dwg (rs.take b.toNat)).length ≤ 192
    omega
theorem arL_len {rs : List RW} {bk : Option Int} (v : VRows rs) (vb : VBack rs bk) : 1 ≤ (arL rs bk).length ∧ (arL rs bk).length ≤ 192 := by
  cases bk with
  | none => exact ⟨Nat.le_refl _, by show 1 ≤ 192; omega⟩
  | some b =>
    have hb := vb b rfl
    have h := dwg_len (v.dropV b.toNat).2
    have t := tot_nonneg (v.dropV b.toNat).2
    have := v.1
    rw [List.length_drop] at t
    show 1 ≤ (dwg (rs.drop b.toNat)).length ∧ (dwg (rs.drop b.toNat)).length ≤ 192
    omega
theorem shown_lay {rs : List RW} {bk : Option Int} (v : VRows rs) (vb : VBack rs bk) (i : Nat) :
    some (shown rs bk i) = if i < (ahL rs bk).length then (ahL rs bk)[i]? else (arL rs bk)[(i - (ahL rs bk).length) % (arL rs bk).length]? := by
  cases bk with
  | none =>
    have h := dwg_len v.2
    show some (walk rs i) = if i < (dwg rs).length then (dwg rs)[i]? else ([0] : List Int)[(i - (dwg rs).length) % 1]?
    by_cases c : i < (dwg rs).length
    · rw [if_pos c, dwg_at v.2 (by omega)]
    · rw [if_neg c, walk_out rs i (by omega) v.2, Nat.mod_one]
      rfl
  | some b =>
    have hb := vb b rfl
    have h := dwg_len (v.takeV b.toNat).2
    have h2 := dwg_len (v.dropV b.toNat).2
    have t2 := (tot_nonneg (v.dropV b.toNat).2).1
    rw [List.length_drop] at t2
    have cpos : 0 < tot (rs.drop b.toNat) := by omega
    show some (walk rs (if (i : Int) < tot (rs.take b.toNat) then (i : Int) else tot (rs.take b.toNat) + ((i : Int) - tot (rs.take b.toNat)) % tot (rs.drop b.toNat))) = if i < (dwg (rs.take b.toNat)).length then (dwg (rs.take b.toNat))[i]? else (dwg (rs.drop b.toNat))[(i - (dwg (rs.take b.toNat)).length) % (dwg (rs.drop b.toNat)).length]?
    have wa := fun m h0 => walk_append (a := rs.take b.toNat) (b := rs.drop b.toNat) (m := m) (v.takeV b.toNat).2 h0
    rw [List.take_append_drop] at wa
    by_cases c : i < (dwg (rs.take b.toNat)).length
    · rw [if_pos c, if_pos (by omega), wa _ (by omega), if_pos (by omega), dwg_at (v.takeV b.toNat).2 (by omega)]
    · have m0 := Int.emod_nonneg ((i : Int) - tot (rs.take b.toNat)) (show tot (rs.drop b.toNat) ≠ 0 by omega)
      have m1 := Int.emod_lt_of_pos ((i : Int) - tot (rs.take b.toNat)) cpos
      have t1 := (tot_nonneg (v.takeV b.toNat).2).1
      have em : (((i - (dwg (rs.take b.toNat)).length) % (dwg (rs.drop b.toNat)).length : Nat) : Int) = ((i : Int) - tot (rs.take b.toNat)) % tot (rs.drop b.toNat) := by
        rw [Int.natCast_emod, h2, Int.natCast_sub (by omega), h]
      rw [if_neg c, if_neg (by omega), wa _ (by omega), if_neg (by omega), dwg_at (v.dropV b.toNat).2 (by omega), em]
      congr 2
      omega
def laysI (rs : List RW) (bk : Option Int) (n : Nat) : List Int := (List.range n).map fun i => shown rs bk (i : Nat)
theorem laysI_map (rs : List RW) (bk : Option Int) (n : Nat) : lays rs bk n = (laysI rs bk n).map V.int := by
  unfold lays laysI
  rw [List.map_map]
  rfl
theorem first_lay {rs : List RW} {bk : Option Int} (v : VRows rs) (vb : VBack rs bk) {n t : Nat} (ht : n ≤ (ahL rs bk).length + t * (arL rs bk).length) :
    ((ahL rs bk) ++ (List.replicate t (arL rs bk)).flatten).take n = laysI rs bk n := by
  have hp := (arL_len v vb).1
  apply List.ext_getElem?
  intro i
  unfold laysI
  by_cases hi : i < n
  · rw [List.getElem?_take_of_lt hi, List.getElem?_map, List.getElem?_range hi]
    show _ = some (shown rs bk (i : Nat))
    rw [shown_lay v vb]
    by_cases c : i < (ahL rs bk).length
    · rw [if_pos c, List.getElem?_append_left c]
    · rw [if_neg c, List.getElem?_append_right (by omega), rep_at (by omega) t _ (by omega)]
  · rw [List.getElem?_eq_none (by rw [List.length_take]; omega), List.getElem?_eq_none (by rw [List.length_map, List.length_range]; omega)]
/-! ### data that is compared -/
mutual
def nb : PyData → Bool
  | .none => true
  | .int _ => true
  | .str x => PyData.strOk x
  | .bool _ => false
  | .list xs => nbs xs
  | .tuple xs => nbs xs
  | .dict _ => false
def nbs : List PyData → Bool
  | [] => true
  | x :: xs => nb x && nbs xs
end
theorem nbs_all : ∀ {xs : List PyData}, (∀ x ∈ xs, nb x = true) → nbs xs = true
  | [], _ => rfl
  | x :: xs, h => by
    show (nb x && nbs xs) = true
    rw [h x (List.mem_cons_self ..), nbs_all fun y hy => h y (List.mem_cons_of_mem _ hy)]
    rfl
mutual
theorem nb_can : ∀ d : PyData, nb d = true → d.canLay0 = true
  | .none, _ => rfl
  | .int _, _ => rfl
  | .str x, h => h
  | .bool _, h => nomatch h
  | .list xs, h => nbs_can xs h
  | .tuple xs, h => nbs_can xs h
  | .dict _, h => nomatch h
theorem nbs_can : ∀ xs : List PyData, nbs xs = true → PyData.canLayAll0 xs = true
  | [], _ => rfl
  | x :: xs, h => by
    have h' : (nb x && nbs xs) = true := h
    rw [Bool.and_eq_true] at h'
    show (x.canLay0 && PyData.canLayAll0 xs) = true
    rw [nb_can x h'.1, nbs_can xs h'.2]
    rfl
end
mutual
theorem nb_eq : ∀ d e : PyData, nb d = true → nb e = true → (PyData.eqv d e = true → d = e)
  | .none, e, _, h => by cases e <;> first | (intro _; rfl) | (intro z; cases z) | (cases h)
  | .int i, e, _, h => by
    cases e <;> first | (intro z; cases z) | (cases h) | skip
    intro z
    rw [PyData.eqv] at z
    rw [eq_of_beq z]
  | .str x, e, _, h => by
    cases e <;> first | (intro z; cases z) | (cases h) | skip
    intro z
    rw [PyData.eqv] at z
    rw [eq_of_beq z]
  | .bool _, _, h, _ => nomatch h
  | .list xs, e, h0, h => by
    cases e <;> first | (intro z; cases z) | (cases h) | skip
    intro z
    rw [PyData.eqv] at z
    rw [nbs_eq xs _ h0 h z]
  | .tuple xs, e, h0, h => by
    cases e <;> first | (intro z; cases z) | (cases h) | skip
    intro z
    rw [PyData.eqv] at z
    rw [nbs_eq xs _ h0 h z]
  | .dict _, _, h, _ => nomatch h
theorem nbs_eq : ∀ xs ys : List PyData, nbs xs = true → nbs ys = true → (PyData.eqvAll xs ys = true → xs = ys)
  | [], [], _, _ => fun _ => rfl
  | [], _ :: _, _, _ => fun z => nomatch z
  | _ :: _, [], _, _ => fun z => nomatch z
  | x :: xs, y :: ys, h0, h => by
    intro z
    have h0' : (nb x && nbs xs) = true := h0
    have h' : (nb y && nbs ys) = true := h
    rw [Bool.and_eq_true] at h0' h'
    rw [PyData.eqvAll, Bool.and_eq_true] at z
    rw [nb_eq x y h0'.1 h'.1 z.1, nbs_eq xs ys h0'.2 h'.2 z.2]
end
theorem nb_eqv {d e : PyData} (h0 : nb d = true) (h : nb e = true) : PyData.eqv d e = true ↔ d = e :=
  ⟨nb_eq d e h0 h, fun z => by rw [z]; exact SeqAt.eqv_refl e (nb_can e h)⟩
/-- may be compared: depth at most k -/
structure Sd (k : Nat) (d : PyData) : Prop where
  nb : nb d = true
  dp : d.depth ≤ k
theorem Sd.int {k : Nat} (i : Int) : Sd k (.int i) := ⟨rfl, Nat.zero_le _⟩
theorem Sd.none {k : Nat} : Sd k .none := ⟨rfl, Nat.zero_le _⟩
theorem Sd.more {k k' : Nat} {d : PyData} (h : Sd k d) (h1 : k ≤ k') : Sd k' d := ⟨h.nb, Nat.le_trans h.dp h1⟩
theorem sd_all {k : Nat} : ∀ {ds : List PyData}, (∀ e ∈ ds, Sd k e) → PyData.depthAll ds ≤ k
  | [], _ => Nat.zero_le _
  | d :: t, h => Nat.max_le.mpr ⟨(h d (List.mem_cons_self ..)).dp, sd_all fun x hx => h x (List.mem_cons_of_mem _ hx)⟩
theorem Sd.tup {k : Nat} {ds : List PyData} (h : ∀ e ∈ ds, Sd k e) : Sd (k + 1) (.tuple ds) := ⟨nbs_all fun x hx => (h x hx).nb, Nat.succ_le_succ (sd_all h)⟩
theorem Sd.lst {k : Nat} {ds : List PyData} (h : ∀ e ∈ ds, Sd k e) : Sd (k + 1) (.list ds) := ⟨nbs_all fun x hx => (h x hx).nb, Nat.succ_le_succ (sd_all h)⟩
theorem Sd.sh {k : Nat} {d : PyData} (h : Sd k d) (hk : k ≤ 64) : SeqAt.shaped d = true := by
  show (d.canLay0 && decide (d.depth ≤ 64)) = true
  rw [nb_can d h.nb, decide_eq_true (Nat.le_trans h.dp hk)]
  rfl
theorem Sd.ints {ns : List Int} : Sd 1 (.list (ns.map .int)) := Sd.lst fun e he => by
  obtain ⟨i, _, rfl⟩ := List.mem_map.mp he
  exact Sd.int i
theorem Sd.intsT {ns : List Int} : Sd 1 (.tuple (ns.map .int)) := Sd.tup fun e he => by
  obtain ⟨i, _, rfl⟩ := List.mem_map.mp he
  exact Sd.int i
theorem ints_inj {ns ms : List Int} : ns.map PyData.int = ms.map PyData.int ↔ ns = ms :=
  ⟨fun h => List.map_inj_right (fun _ _ e => PyData.int.inj e) |>.mp h, fun h => by rw [h]⟩
theorem eqv_ints (ns ms : List Int) : PyData.eqv (.list (ns.map .int)) (.list (ms.map .int)) = decide (ns = ms) := by
  have h := nb_eqv (Sd.ints (ns := ns)).nb (Sd.ints (ns := ms)).nb
  by_cases e : ns = ms
  · rw [decide_eq_true e]
    exact h.mpr (by rw [e])
  · rw [decide_eq_false e]
    exact Bool.eq_false_iff.mpr fun z => e (ints_inj.mp (PyData.list.inj (h.mp z)))
/-- x != y of data: the readings -/
theorem ne_data {K : PySem.W.Frag} {H : Hp} {x y : V} {d e : PyData} {k : Nat} {Q : VK} (hx : Dp K H x d) (hy : Dp K H y e) (sd : Sd k d) (se : Sd k e) (hk : k ≤ 64) (q : ∀ b : Bool, (b = true ↔ d = e) → Q (.bl (!b)) H) : rNeD K x y H Q :=
  ⟨d, e, hx, hy, sd.sh hk, se.sh hk, q _ (nb_eqv sd.nb se.nb)⟩
theorem ne_same {K : PySem.W.Frag} {H : Hp} {x y : V} {d : PyData} {k : Nat} {Q : VK} (hx : Dp K H x d) (hy : Dp K H y d) (sd : Sd k d) (hk : k ≤ 64) (q : Q (.bl false) H) : rNeD K x y H Q :=
  ⟨d, d, hx, hy, sd.sh hk, sd.sh hk, by rw [(nb_eqv sd.nb sd.nb).mpr rfl]; exact q⟩
theorem eq_data {K : PySem.W.Frag} {H : Hp} {x y : V} {d e : PyData} {k : Nat} {Q : VK} (hx : Dp K H x d) (hy : Dp K H y e) (sd : Sd k d) (se : Sd k e) (hk : k ≤ 64) (q : ∀ b : Bool, (b = true ↔ d = e) → Q (.bl b) H) : rEqD K x y H Q :=
  ⟨d, e, hx, hy, sd.sh hk, se.sh hk, q _ (nb_eqv sd.nb se.nb)⟩
theorem ne_ints {K : PySem.W.Frag} {H : Hp} {x y : Addr} {ns ms : List Int} {Q : VK} (hx : SqL K H x (ns.map V.int)) (hy : SqL K H y (ms.map V.int)) (q : Q (.bl (!decide (ns = ms))) H) : rNeD K (.ref x) (.ref y) H Q :=
  ⟨_, _, .lst hx (ints_dp _), .lst hy (ints_dp _), Sd.ints.sh (by decide), Sd.ints.sh (by decide), by rw [eqv_ints]; exact q⟩
theorem ints_dpl {K : PySem.W.Frag} {H : Hp} {p : Addr} {ns : List Int} (h : SqL K H p (ns.map V.int)) : Dp K H (.ref p) (.list (ns.map .int)) := .lst h (ints_dp _)
theorem while_R {c : TT} {tb : TS} {D : Ends} {σ : L2.St} {H : Hp} (Pv : L2.St → Hp → Prop) (μ : L2.St → Hp → Nat) (h0 : Pv σ H)
    (hs : ∀ σ H, Pv σ H → ∀ R : Bool → Hp → Prop, (∀ H1, tb { D with nx := fun σ' H' => Pv σ' H' ∧ μ σ' H' < μ σ H, ct := fun σ' H' => Pv σ' H' ∧ μ σ' H' < μ σ H, bk := D.nx } σ H1 → R true H1) → (∀ H1, D.nx σ H1 → R false H1) → c σ H R) : tWhile c tb D σ H := by
  refine ⟨fun m σ H => m = μ σ H ∧ Pv σ H, ⟨_, rfl, h0⟩, ?_⟩
  rintro m σ H ⟨rfl, p⟩
  refine hs σ H p _ (fun H1 h => ?_) (fun H1 h => ?_)
  · show if true = true then _ else _
    rw [if_pos rfl]
    exact ⟨_, fun σ' H' ⟨p', l⟩ => ⟨_, l, rfl, p'⟩, h⟩
  · show if false = true then _ else _
    rw [if_neg (by decide)]
    exact h
/-! ### what comes again and again -/
section
variable {f : Nat → Int}
theorem per_mul {A m : Nat} (h : ∀ t, A ≤ t → f (t + m) = f t) : ∀ (k t : Nat), A ≤ t → f (t + m * k) = f t
  | 0, t, _ => by rw [Nat.mul_zero, Nat.add_zero]
  | k + 1, t, ht => by rw [Nat.mul_succ, ← Nat.add_assoc, h _ (by omega), per_mul h k t ht]
theorem per_mod {A m n : Nat} (h : ∀ t, A ≤ t → f (t + m) = f t) (h' : ∀ t, A ≤ t → f (t + n) = f t) : ∀ t, A ≤ t → f (t + n % m) = f t := fun t ht => by
  rw [← per_mul h (n / m) _ (show A ≤ t + n % m by omega), Nat.add_assoc, Nat.mod_add_div, h' t ht]
theorem per_ev {A c m B : Nat} (hc : 1 ≤ c) (hp : ∀ t, A ≤ t → f (t + c) = f t) (h : ∀ t, B ≤ t → f (t + m) = f t) : ∀ t, A ≤ t → f (t + m) = f t := fun t ht => by
  have hb : B ≤ c * B := Nat.le_mul_of_pos_left B hc
  rw [← per_mul hp B t ht, ← h (t + c * B) (by omega), ← per_mul hp B (t + m) (by omega)]
  congr 1
  omega
/-- the least round -/
structure Lst (f : Nat → Int) (a m : Nat) : Prop where
  m1 : 1 ≤ m
  per : ∀ t, a ≤ t → f (t + m) = f t
  dvd : ∀ n B, (∀ t, B ≤ t → f (t + n) = f t) → m ∣ n
  fst : ∀ b, b + 1 = a → f (b + m) ≠ f b
theorem ex_least {A c : Nat} (hc : 1 ≤ c) (hp : ∀ t, A ≤ t → f (t + c) = f t) : ∃ m, 1 ≤ m ∧ m ≤ c ∧ (∀ t, A ≤ t → f (t + m) = f t) ∧ ∀ k, 1 ≤ k → (∀ t, A ≤ t → f (t + k) = f t) → m ≤ k := by
  induction c using Nat.strongRecOn with
  | ind c ih =>
    by_cases h : ∃ k, 1 ≤ k ∧ k < c ∧ ∀ t, A ≤ t → f (t + k) = f t
    · obtain ⟨k, k1, kc, kp⟩ := h
      obtain ⟨m, m1, mk, r⟩ := ih k kc k1 kp
      exact ⟨m, m1, by omega, r⟩
    · refine ⟨c, hc, Nat.le_refl _, hp, fun k k1 kp => ?_⟩
      exact Nat.le_of_not_lt fun z => h ⟨k, k1, z, kp⟩
/-- the least many, then the least ahead -/
theorem lst_of {A c m a : Nat} (hc : 1 ≤ c) (hp : ∀ t, A ≤ t → f (t + c) = f t) (m1 : 1 ≤ m) (hm : ∀ t, A ≤ t → f (t + m) = f t) (least : ∀ k, 1 ≤ k → k < m → c % k = 0 → ¬ ∀ t, A ≤ t → f (t + k) = f t)
    (ha : a ≤ A) (hb : ∀ t, a ≤ t → t < A → f (t + m) = f t) (hf : ∀ b, b + 1 = a → f (b + m) ≠ f b) : Lst f a m := by
  obtain ⟨n, n1, nc, np, nl⟩ := ex_least hc hp
  have div : ∀ k, (∀ t, A ≤ t → f (t + k) = f t) → n ∣ k := fun k kp => by
    apply Nat.dvd_of_mod_eq_zero
    rcases Nat.eq_zero_or_pos (k % n) with z | z
    · exact z
    · have := nl (k % n) z (per_mod np kp)
      have := Nat.mod_lt k (show 0 < n by omega)
      omega
  have e : m = n := by
    have h1 := Nat.le_of_dvd (by omega) (div m hm)
    rcases Nat.lt_or_ge n m with z | z
    · exact absurd np (least n n1 z (Nat.mod_eq_zero_of_dvd (div c hp)))
    · omega
  subst e
  refine ⟨m1, fun t ht => ?_, fun k B h => div k (per_ev hc hp h), hf⟩
  rcases Nat.lt_or_ge t A with z | z
  · exact hb t ht z
  · exact hm t z
theorem Lst.uniq {a m a' m' : Nat} (h : Lst f a m) (h' : Lst f a' m') : a = a' ∧ m = m' := by
  have e : m = m' := Nat.dvd_antisymm (h.dvd m' a' h'.per) (h'.dvd m a h.per)
  subst e
  refine ⟨?_, rfl⟩
  rcases Nat.lt_trichotomy a a' with z | z | z
  · exact absurd (h.per (a' - 1) (by omega)) (h'.fst (a' - 1) (by omega))
  · exact z
  · exact absurd (h'.per (a - 1) (by omega)) (h.fst (a - 1) (by omega))
/-- rounds by the least one -/
theorem Lst.iff {a m : Nat} (h : Lst f a m) (b n : Nat) (n1 : 1 ≤ n) : (∀ t, b ≤ t → f (t + n) = f t) ↔ a ≤ b ∧ m ∣ n := by
  constructor
  · intro hp
    have d := h.dvd n b hp
    refine ⟨?_, d⟩
    rcases Nat.lt_or_ge b a with z | z
    · obtain ⟨k, rfl⟩ := d
      have k1 : 1 ≤ k := by
        rcases Nat.eq_zero_or_pos k with z | z
        · rw [z] at n1
          omega
        · exact z
      exfalso
      refine h.fst (a - 1) (by omega) ?_
      have e := hp (a - 1) (by omega)
      have e2 := per_mul h.per (k - 1) (a - 1 + m) (by have := h.m1; omega)
      rw [show a - 1 + m + m * (k - 1) = a - 1 + m * k by
        obtain ⟨j, rfl⟩ : ∃ j, k = j + 1 := ⟨k - 1, by omega⟩
        rw [Nat.add_sub_cancel, Nat.mul_succ]
        omega, e] at e2
      exact e2.symm
    · exact z
  · rintro ⟨z, k, rfl⟩ t ht
    exact per_mul h.per k t (by omega)
def seg (f : Nat → Int) (A c : Nat) : List Int := (List.range c).map fun j => f (A + j)
theorem seg_len (A c : Nat) : (seg f A c).length = c := by
  unfold seg
  rw [List.length_map, List.length_range]
theorem seg_at {A c i : Nat} (h : i < c) : (seg f A c)[i]? = some (f (A + i)) := by
  unfold seg
  rw [List.getElem?_map, List.getElem?_range h]
  rfl
theorem rot_at {A c m j : Nat} (hp : ∀ t, A ≤ t → f (t + c) = f t) (hm : m ≤ c) (hj : j < c) : ((seg f A c).drop m ++ (seg f A c).take m)[j]? = some (f (A + j + m)) := by
  by_cases h : j < c - m
  · rw [List.getElem?_append_left (by rw [List.length_drop, seg_len]; exact h), List.getElem?_drop, seg_at (by omega)]
    congr 2
    omega
  · rw [List.getElem?_append_right (by rw [List.length_drop, seg_len]; omega), List.length_drop, seg_len, List.getElem?_take_of_lt (by omega), seg_at (by omega), ← hp _ (by omega)]
    congr 2
    omega
theorem rot_iff {A c m : Nat} (hc : 1 ≤ c) (hp : ∀ t, A ≤ t → f (t + c) = f t) (hm : m ≤ c) : (seg f A c).drop m ++ (seg f A c).take m = seg f A c ↔ ∀ t, A ≤ t → f (t + m) = f t := by
  constructor
  · intro h t ht
    have l := Nat.mod_lt (t - A) (show 0 < c by omega)
    have e := rot_at hp hm l
    rw [h, seg_at l] at e
    have e1 := Option.some.inj e
    have q := Nat.mod_add_div (t - A) c
    have e2 := per_mul hp ((t - A) / c) (A + (t - A) % c) (by omega)
    have e3 := per_mul hp ((t - A) / c) (A + (t - A) % c + m) (by omega)
    rw [show A + (t - A) % c + c * ((t - A) / c) = t by omega] at e2
    rw [show A + (t - A) % c + m + c * ((t - A) / c) = t + m by omega] at e3
    rw [e2, e3]
    exact e1.symm
  · intro h
    apply List.ext_getElem?
    intro i
    by_cases hi : i < c
    · rw [rot_at hp hm hi, seg_at hi, h _ (by omega)]
    · rw [List.getElem?_eq_none (by rw [List.length_append, List.length_drop, List.length_take, seg_len]; omega), List.getElem?_eq_none (by rw [seg_len]; omega)]
end
/-- what a layer shows, by the moment -/
def shN (rs : List RW) (bk : Option Int) (t : Nat) : Int := shown rs bk (t : Nat)
theorem shN_per {rs : List RW} {bk : Option Int} (v : VRows rs) (vb : VBack rs bk) : ∀ t, (ahL rs bk).length ≤ t → shN rs bk (t + (arL rs bk).length) = shN rs bk t := fun t ht => by
  have e1 := shown_lay v vb t
  have e2 := shown_lay v vb (t + (arL rs bk).length)
  rw [if_neg (by omega)] at e1 e2
  rw [show t + (arL rs bk).length - (ahL rs bk).length = t - (ahL rs bk).length + (arL rs bk).length by omega, Nat.add_mod_right] at e2
  exact Option.some.inj (e2.trans e1.symm)
theorem arL_seg {rs : List RW} {bk : Option Int} (v : VRows rs) (vb : VBack rs bk) : arL rs bk = seg (shN rs bk) (ahL rs bk).length (arL rs bk).length := by
  apply List.ext_getElem?
  intro i
  by_cases hi : i < (arL rs bk).length
  · rw [seg_at hi]
    show _ = some (shown rs bk (((ahL rs bk).length + i : Nat) : Int))
    rw [shown_lay v vb, if_neg (by omega), Nat.add_sub_cancel_left, Nat.mod_eq_of_lt hi]
  · rw [List.getElem?_eq_none (by omega), List.getElem?_eq_none (by rw [seg_len]; omega)]
theorem aa_at {rs : List RW} {bk : Option Int} (v : VRows rs) (vb : VBack rs bk) {i : Nat} (h : i < (ahL rs bk).length + (arL rs bk).length) : (ahL rs bk ++ arL rs bk)[i]? = some (shN rs bk i) := by
  show _ = some (shown rs bk (i : Nat))
  rw [shown_lay v vb]
  by_cases c : i < (ahL rs bk).length
  · rw [if_pos c, List.getElem?_append_left c]
  · rw [if_neg c, List.getElem?_append_right (by omega), Nat.mod_eq_of_lt (by omega)]
/-! ### helpers of the laws over rounds -/
theorem Paired.appP {α β : Type} {F : α → β → Prop} : ∀ {l₁ m₁ : List α} {l₂ m₂ : List β}, Paired F l₁ l₂ → Paired F m₁ m₂ → Paired F (l₁ ++ m₁) (l₂ ++ m₂)
  | _, _, _, _, .nil, h => h
  | _, _, _, _, .cons r t, h => .cons r (Paired.appP t h)
theorem Paired.repP {α β : Type} {F : α → β → Prop} {l₁ : List α} {l₂ : List β} (h : Paired F l₁ l₂) : ∀ n, Paired F (List.replicate n l₁).flatten (List.replicate n l₂).flatten
  | 0 => .nil
  | n + 1 => by
    rw [List.replicate_succ, List.replicate_succ, List.flatten_cons, List.flatten_cons]
    exact Paired.appP h (Paired.repP h n)
theorem mem_rep {α : Type} {l : List α} {x : α} {n : Nat} (h : x ∈ (List.replicate n l).flatten) : x ∈ l := by
  obtain ⟨m, hm, hx⟩ := List.mem_flatten.mp h
  rw [(List.mem_replicate.mp hm).2] at hx
  exact hx
theorem len_rep {α : Type} {l : List α} {n : Nat} : (List.replicate n l).flatten.length = n * l.length := by
  rw [List.length_flatten, List.map_replicate, List.sum_replicate_nat]
theorem cut_mid {xs : List V} {a b : Nat} (h : a ≤ b) (h2 : b ≤ xs.length) : cutV xs (some (a : Int)) (some (b : Int)) = (xs.drop a).take (b - a) := by
  unfold cutV
  rw [HT.sIx_nat, HT.sIx_nat, Nat.min_eq_left h2, Nat.min_eq_left (show a ≤ xs.length by omega)]
theorem lays_cut {rs : List RW} {bk : Option Int} {n a b : Nat} (h : a ≤ b) (h2 : b ≤ n) : cutV (lays rs bk n) (some (a : Int)) (some (b : Int)) = (seg (shN rs bk) a (b - a)).map V.int := by
  rw [cut_mid h (by rw [lays_len]; exact h2)]
  apply List.ext_getElem?
  intro i
  by_cases hi : i < b - a
  · rw [List.getElem?_take_of_lt hi, List.getElem?_drop, lays_at (by omega), List.getElem?_map, seg_at hi]
    rfl
  · rw [List.getElem?_eq_none (by rw [List.length_take]; omega), List.getElem?_eq_none (by rw [List.length_map, seg_len]; omega)]
theorem cut_opt {rs : List RW} {bk : Option Int} (vb : VBack rs bk) (xs : List V) : cutV xs none bk = match bk with | none => xs | some b => xs.take b.toNat := by
  cases bk with
  | none => exact cut_all xs
  | some b =>
    have hb := vb b rfl
    obtain ⟨k, rfl⟩ : ∃ k : Nat, b = (k : Int) := ⟨b.toNat, by omega⟩
    exact cut_to xs k
def ahd (rs : List RW) : Option Int → List RW
  | none => rs
  | some b => rs.take b.toNat
def siz (rs : List RW) : Option Int → Int
  | none => 1
  | some b => tot (rs.drop b.toNat)
theorem siz_pos {rs : List RW} {bk : Option Int} (v : VRows rs) (vb : VBack rs bk) : 1 ≤ siz rs bk ∧ siz rs bk ≤ 192 := by
  obtain ⟨v8, vr⟩ := v
  cases bk with
  | none => exact ⟨by show (1 : Int) ≤ 1; omega, by show (1 : Int) ≤ 192; omega⟩
  | some b =>
    have hb := vb b rfl
    have := tot_nonneg (rs := rs.drop b.toNat) fun q hq => vr q (List.mem_of_mem_drop hq)
    rw [List.length_drop] at this
    obtain ⟨t1, t2⟩ := this
    constructor
    · show 1 ≤ tot (rs.drop b.toNat)
      omega
    · show tot (rs.drop b.toNat) ≤ 192
      omega
theorem siz_len {rs : List RW} {bk : Option Int} (v : VRows rs) : siz rs bk = ((arL rs bk).length : Int) := by
  cases bk with
  | none => rfl
  | some b => exact (dwg_len (v.dropV b.toNat).2).symm
theorem ahL_tot {rs : List RW} {bk : Option Int} (v : VRows rs) : ((ahL rs bk).length : Int) ≤ tot rs := by
  cases bk with
  | none => exact Int.le_of_eq (dwg_len v.2)
  | some b =>
    show ((dwg (rs.take b.toNat)).length : Int) ≤ tot rs
    have h := dwg_len (v.takeV b.toNat).2
    have s := tot_split rs b.toNat
    have t := (tot_nonneg (v.dropV b.toNat).2).1
    omega
/-- by the whole length and the round's size -/
theorem per_whole {rs : List RW} {bk : Option Int} (v : VRows rs) (vb : VBack rs bk) {W c : Nat} (hW : (W : Int) = tot rs) (hc : (c : Int) = siz rs bk) : ∀ t, W ≤ t → shN rs bk (t + c) = shN rs bk t := fun t ht => by
  have e := siz_len (bk := bk) v
  have a := ahL_tot (bk := bk) v
  rw [show c = (arL rs bk).length by omega]
  exact shN_per v vb t (by omega)
theorem Gr.keepRow {st : Addr} {K : PySem.W.Frag} {H H' : Hp} (g : Gr st H H') (s : IsSt H st) {vs : List V} {rs : List RW} (p : Paired (RowAt K H) vs rs) : Paired (RowAt K H') vs rs := Paired.mono p fun _ _ => RowAt.keep (g.tk s)
theorem gr_upd {st D : Addr} {H0 H : Hp} {o : HO} (g : Gr st H0 H) (n0 : H0 D = none) (nD : D ≠ st) : Gr st H0 (upd H D o) :=
  ⟨fun b x nb e => by rw [upd_ne (ne_of_none e n0)]; exact g.1 b x nb e, fun hz => by
    obtain ⟨x, y, hx, hxy⟩ := g.2 hz
    exact ⟨x, y, by rw [upd_ne (Ne.symm nD)]; exact hx, hxy⟩⟩
/-! ### rounds of sheets -/
def plN (x y : Int) (ms : List MV) (t : Nat) : RW × RW := plc x y ms (t : Int)
theorem rwD_inj {r s : RW} (h : rwD r = rwD s) : r = s := by
  have e := PyData.tuple.inj h
  injection e with e1 e2
  injection e2 with e2 _
  exact Prod.ext (PyData.int.inj e1) (PyData.int.inj e2)
theorem plD_inj {p q : RW × RW} (h : plD p = plD q) : p = q := by
  have e := PyData.tuple.inj h
  injection e with e1 e2
  injection e2 with e2 _
  exact Prod.ext (rwD_inj e1) (rwD_inj e2)
theorem picD_inj {c d : PIC} (h : picD c = picD d) : c = d := by
  have e := PyData.tuple.inj h
  injection e with e1 e2
  injection e2 with e2 _
  exact Prod.ext (ints_inj.mp (PyData.tuple.inj e1)) (plD_inj e2)
theorem sd_rw (r : RW) : Sd 1 (rwD r) := Sd.tup fun e he => by
  rcases mem2 he with rfl | rfl <;> exact Sd.int _
theorem sd_pl (p : RW × RW) : Sd 2 (plD p) := Sd.tup fun e he => by
  rcases mem2 he with rfl | rfl <;> exact sd_rw _
theorem sd_pic (c : PIC) : Sd 3 (picD c) := Sd.tup fun e he => by
  rcases mem2 he with rfl | rfl
  · exact Sd.intsT.more (by decide)
  · exact sd_pl _
structure WinR (x y : Int) (ms : List MV) (b : Nat) : Prop where
  per : ∀ t, b ≤ t → plN x y ms (t + 1) = plN x y ms t
  fst : ∀ c, c + 1 = b → plN x y ms (c + 1) ≠ plN x y ms c
structure ShR (ls : List LY) (x y : Int) (ms : List MV) (a m : Nat) : Prop where
  m1 : 1 ≤ m
  perL : ∀ l ∈ ls, ∀ t, a ≤ t → shN l.1 l.2 (t + m) = shN l.1 l.2 t
  perW : ∀ t, a ≤ t → plN x y ms (t + 1) = plN x y ms t
  dvd : ∀ n, (∀ l ∈ ls, ∀ a' m', Lst (shN l.1 l.2) a' m' → m' ∣ n) → m ∣ n
  fst : ∀ b, b + 1 = a → (∃ l ∈ ls, shN l.1 l.2 (b + m) ≠ shN l.1 l.2 b) ∨ plN x y ms (b + 1) ≠ plN x y ms b
theorem ShR.uniq {ls : List LY} {x y : Int} {ms : List MV} {a m a' m' : Nat} (h : ShR ls x y ms a m) (h' : ShR ls x y ms a' m') : a = a' ∧ m = m' := by
  have e : m = m' := Nat.dvd_antisymm (h.dvd m' fun l hl b n hb => hb.dvd m' a' (h'.perL l hl)) (h'.dvd m fun l hl b n hb => hb.dvd m a (h.perL l hl))
  subst e
  refine ⟨?_, rfl⟩
  rcases Nat.lt_trichotomy a a' with z | z | z
  · rcases h'.fst (a' - 1) (by omega) with ⟨l, hl, hn⟩ | hn
    · exact absurd (h.perL l hl (a' - 1) (by omega)) hn
    · exact absurd (h.perW (a' - 1) (by omega)) hn
  · exact z
  · rcases h.fst (a - 1) (by omega) with ⟨l, hl, hn⟩ | hn
    · exact absurd (h'.perL l hl (a - 1) (by omega)) hn
    · exact absurd (h'.perW (a - 1) (by omega)) hn
theorem Paired.mem2 {α β : Type} {F : α → β → Prop} {l₁ : List α} {l₂ : List β} (p : Paired F l₁ l₂) {y : β} (h : y ∈ l₂) : ∃ x ∈ l₁, F x y := by
  obtain ⟨i, hi⟩ := List.mem_iff_getElem?.mp h
  obtain ⟨x, hx, f⟩ := Paired.at2 p hi
  exact ⟨x, List.mem_of_getElem? hx, f⟩
theorem Paired.mem1 {α β : Type} {F : α → β → Prop} {l₁ : List α} {l₂ : List β} (p : Paired F l₁ l₂) {x : α} (h : x ∈ l₁) : ∃ y ∈ l₂, F x y := by
  obtain ⟨i, hi⟩ := List.mem_iff_getElem?.mp h
  obtain ⟨y, hy, f⟩ := Paired.at p hi
  exact ⟨y, List.mem_of_getElem? hy, f⟩
abbrev RdOf (r : Nat × Nat) (l : LY) : Prop := Lst (shN l.1 l.2) r.1 r.2 ∧ r.1 ≤ 192 ∧ r.2 ≤ 192
theorem shR_mk {ls : List LY} {rd : List (Nat × Nat)} {x y : Int} {ms : List MV} {a b m : Nat} (hp : Paired RdOf rd ls) (hw : WinR x y ms b) (ha : ∀ r ∈ rd, r.1 ≤ a) (hb : b ≤ a) (hm : a = b ∨ ∃ r ∈ rd, r.1 = a) (m1 : 1 ≤ m)
    (hd : ∀ r ∈ rd, r.2 ∣ m) (hl : ∀ n, (∀ r ∈ rd, r.2 ∣ n) → m ∣ n) : ShR ls x y ms a m := by
  refine ⟨m1, fun l hl t ht => ?_, fun t ht => hw.per t (by omega), fun n hn => hl n fun r hr => ?_, fun c hc => ?_⟩
  · obtain ⟨r, hr, f, _⟩ := Paired.mem2 hp hl
    obtain ⟨k, rfl⟩ := hd r hr
    exact per_mul f.per k t (by have := ha r hr; omega)
  · obtain ⟨l, hl', f, _⟩ := Paired.mem1 hp hr
    exact hn l hl' r.1 r.2 f
  · rcases hm with e | ⟨r, hr, e⟩
    · exact .inr (hw.fst c (by omega))
    · obtain ⟨l, hl', f, _⟩ := Paired.mem1 hp hr
      refine .inl ⟨l, hl', fun z => f.fst c (by omega) ?_⟩
      obtain ⟨k, hk⟩ := hd r hr
      obtain ⟨j, rfl⟩ : ∃ j, k = j + 1 := ⟨k - 1, by
        rcases Nat.eq_zero_or_pos k with z | z
        · rw [z] at hk
          omega
        · omega⟩
      have e2 := per_mul f.per j (c + r.2) (by have := f.m1; omega)
      rw [show c + r.2 + r.2 * j = c + m by rw [hk, Nat.mul_succ]; omega, z] at e2
      exact e2.symm
theorem ShR.pic_eq {ls : List LY} {x y : Int} {ms : List MV} {a m : Nat} (h : ShR ls x y ms a m) {t : Nat} (ht : a ≤ t) (k : Nat) : pic ls x y ms ((t + m * k : Nat) : Int) = pic ls x y ms (t : Int) := by
  refine Prod.ext ?_ ?_
  · exact List.map_congr_left fun l hl => per_mul (h.perL l hl) k t ht
  · have := per_mul (f := fun t => (0 : Int)) (A := 0) (m := 1) (fun _ _ => rfl)
    have e : ∀ n, plN x y ms (t + n) = plN x y ms t := fun n => by
      induction n with
      | zero => rfl
      | succ n ih => rw [← Nat.add_assoc, h.perW _ (by omega), ih]
    exact e (m * k)
theorem ShR.pic_ne {ls : List LY} {x y : Int} {ms : List MV} {a m : Nat} (h : ShR ls x y ms a m) {b : Nat} (hb : b + 1 = a) : pic ls x y ms (b : Int) ≠ pic ls x y ms ((b + m : Nat) : Int) := fun e => by
  rcases h.fst b hb with ⟨l, hl, hn⟩ | hn
  · exact hn (List.map_inj_left.mp (congrArg Prod.fst e) l hl).symm
  · refine hn ?_
    have e1 : plN x y ms b = plN x y ms (b + m) := congrArg Prod.snd e
    have e2 : ∀ n, plN x y ms (b + 1 + n) = plN x y ms (b + 1) := fun n => by
      induction n with
      | zero => rfl
      | succ n ih => rw [← Nat.add_assoc, h.perW _ (by omega), ih]
    have m1 := h.m1
    have e3 := e2 (m - 1)
    rw [show b + 1 + (m - 1) = b + m by omega] at e3
    rw [e1, e3]
theorem winR_of {x y : Int} {ms : List MV} {L b : Nat} (vm : ∀ m ∈ ms, VMove m) (hL : (L : Int) = mtot ms) (hb : b ≤ L) (hp : ∀ t, b ≤ t → t < L → plN x y ms (t + 1) = plN x y ms t) (hf : ∀ c, c + 1 = b → plN x y ms (c + 1) ≠ plN x y ms c) : WinR x y ms b := by
  refine ⟨fun t ht => ?_, hf⟩
  rcases Nat.lt_or_ge t L with z | z
  · exact hp t ht z
  · exact plc_far ms x y _ _ vm (by omega) (by omega)
/-- the step of the law's own reckoning of a common multiple -/
theorem lcm_step {s z k : Nat} (s1 : 1 ≤ s) (z1 : 1 ≤ z) (k1 : 1 ≤ k) (hd : z ∣ s * k) (hmin : ∀ j, 1 ≤ j → j < k → ¬ z ∣ s * j) : s * k = Nat.lcm s z := by
  obtain ⟨j, hj⟩ := Nat.dvd_lcm_left s z
  have lp : 0 < Nat.lcm s z := Nat.lcm_pos (by omega) (by omega)
  have j1 : 1 ≤ j := by
    rcases Nat.eq_zero_or_pos j with e | e
    · rw [e] at hj
      omega
    · exact e
  have h1 : Nat.lcm s z ∣ s * k := Nat.lcm_dvd (Nat.dvd_mul_right s k) hd
  have h2 : k ≤ j := Nat.le_of_not_lt fun lt => hmin j j1 lt (by rw [← hj]; exact Nat.dvd_lcm_right s z)
  have h3 := Nat.le_of_dvd (Nat.mul_pos (by omega) (by omega)) h1
  have h4 : s * k ≤ s * j := Nat.mul_le_mul_left s h2
  omega
theorem lcm_le {s z : Nat} (h : 0 < Nat.gcd s z) : Nat.lcm s z ≤ s * z := by
  unfold Nat.lcm
  exact Nat.div_le_self _ _

/-! ### defs called where an error is handled -/
/-- f, called while the error at a (class cls, dict d) is handled, keeps sp -/
structure FnE (P : Program) (w : World) (K : PySem.W.Frag) (mg : Str → Option Value) (base : Heap) (k : Nat) (f : Addr) (fd : FuncData) (ps : List Str) (sp : Addr → Value → Option Addr → Sp) : Prop where
  len : ∀ a cls d vs H Q E, sp a cls d vs H Q E → vs.length = ps.length
  run : ∀ (A : Around) (outer : List Env) (s : Shared) (H : Hp) (args : Args) (us : List Value) (vs : List V) (Q : VK) (E : XK) (a : Addr) (oe : Obj) (cls : Value) (d : Option Addr), L2H.RoomH k A → Zc cls d oe → (∃ z, oe.data = .fields z) → L2H.PinOk outer H s (a, oe) →
    Env0 P w K mg base A outer s H → BindsTo s fd args (ps.zip us) → Vals vs us → sp a cls d vs H Q E → codeAny (model P w) A (.call (.ref f) args) (CR CX0 outer P w H s Q E) s
section
variable {P : Program} {w : World} {K : PySem.W.Frag} {mg : Str → Option Value} {base : Heap}
theorem fun_okE {x qual : Str} {st : Stmt} {f : Addr} {fd : FuncData} {N ps : List Str} {k : Nat} {sp : Addr → Value → Option Addr → Sp} (F : Fun K x qual st f fd) (S : FnScope N ps (defScope st)) (ln : ∀ a cls d vs H Q E, sp a cls d vs H Q E → vs.length = ps.length)
    (hbody : ∀ (cdv : Value) (A : Around) (outer : List Env) (s : Shared) (H : Hp) (vs : List V) (Q : VK) (E : XK) (a : Addr) (oe : Obj) (cls : Value) (d : Option Addr), Zc cls d oe → (∃ z, oe.data = .fields z) → L2H.RoomH k (A.deeper (envOfC qual (defScope st) s.heap.objs.size f cdv)) → sp a cls d vs H Q E →
      ∃ t, PSs (L2H.cxH CX0 P w K mg base N qual (defScope st) f cdv A outer s H E (a, oe)) (defBody st) t ∧ t { nx := fun _ H' => Q .non H', rt := Q } (L2.start N vs) H) : FnE P w K mg base (k + 1) f fd ps sp := by
  obtain ⟨cdv, D⟩ := defAt_of F
  refine ⟨ln, fun A outer s H args us vs Q E a oe cls d hr hz hfs hpin e0 hb r hsp => D.call S hr.depth e0 hb fun s1 begun => ?_⟩
  obtain ⟨t, ht, hq⟩ := hbody cdv A outer s H vs Q E a oe cls d hz hfs (hr.deeper _) hsp
  exact thn (ht.run [] s1 _ H _ (L2H.inv_startH S hpin e0 (ln _ _ _ _ _ _ _ hsp) r begun) hq) fun _ _ h => given_by rfl h
end
section
variable {X : Cx}
/-- what is pinned in the context may be pinned in a body that it calls -/
theorem pinned {pins : List (Addr × Obj)} {σ : L2.St} {H : Hp} {s : Shared} {p : Addr × Obj} (I : Inv X pins σ H s) (hpn : p ∈ X.pn) : L2H.PinOk X.stack H s p := by
  obtain ⟨get, free, low, far, flat⟩ := I.pin p (List.mem_append_left pins hpn)
  refine ⟨get, free, fun on => ?_, flat⟩
  rcases List.mem_cons.mp (I.stkSub p.1 on) with z | z
  · exact low z
  · exact far z
/-- a call of a global name: T tells what is asked of its arguments -/
theorem pe_named {f : Addr} {x : Str} {q pos : Pos} {e : Expr} {es : List Expr} {t : TA} {T : List V → Hp → VK → Prop} (hg : Gl X x) (hm : X.mg x = some (.ref f)) (hk : PySem.W.keepIn X.K (.ref f) = true) (ha : PA X (e :: es) t)
    (run : ∀ (pins : List (Addr × Obj)) (s : Shared) (σ : L2.St) (H : Hp) (us : List Value) (vs : List V) (Q : VK), Inv X pins σ H s → Vals vs us → T vs H Q → wpAny (model X.prog X.w) X.A (call (.ref f) us) (EP X pins σ Q) X.xe s)
    (plain : (x == ("__debug__" : Str)) = false) (first : starEach (e :: es) X.env = (false, eval e X.env) :: starEach es X.env) (noStar : (backTo pos (starEach es X.env)).any (·.1) = false) :
    PE X (.Call (.Name x q) (e :: es) [] pos) (fun σ H Q => t σ H fun vs H1 => T vs H1 Q) :=
  ⟨fun pins s σ H Q I h => wpAny_Call_Name_kw (ld_glob I hg hm (PySem.W.callWith_K (h₀ := X.base) I.ok.mod.kin hk
    (thn (ha.run pos pins s σ H _ I h) fun us s1 ⟨vs, H1, I1, r, due⟩ => ⟨I1.kIn, run pins s1 σ H1 us vs Q I1 r due⟩) first noStar) plain)⟩
/-- f(e, ..), the error at a being handled -/
theorem pe_callE {k : Nat} {f a : Addr} {oe : Obj} {cls : Value} {d : Option Addr} {fd : FuncData} {ps : List Str} {sp : Addr → Value → Option Addr → Sp} {x : Str} {q pos : Pos} {e : Expr} {es : List Expr} {t : TA} (F : FnE X.prog X.w X.K X.mg X.base k f fd ps sp) (hr : L2H.RoomH k X.A) (hpn : (a, oe) ∈ X.pn)
    (hz : Zc cls d oe) (hfs : ∃ z, oe.data = .fields z) (hg : Gl X x) (hm : X.mg x = some (.ref f)) (hk : PySem.W.keepIn X.K (.ref f) = true) (hb : Binds X.K fd ps []) (ha : PA X (e :: es) t)
    (hdb : (x == ("__debug__" : Str)) = false := by decide) (he : starEach (e :: es) X.env = (false, eval e X.env) :: starEach es X.env := by rfl) (hpl : (backTo pos (starEach es X.env)).any (·.1) = false := by rfl) :
    PE X (.Call (.Name x q) (e :: es) [] pos) (fun σ H Q => t σ H fun vs H1 => sp a cls d vs H1 Q E0) := by
  refine pe_named (T := fun vs H Q => sp a cls d vs H Q E0) hg hm hk ha (fun pins s σ H us vs Q I r due => ?_) hdb he hpl
  have binds : BindsTo s fd ⟨us, []⟩ (ps.zip us) := by
    simpa only [List.append_nil] using hb s us I.kIn (by rw [List.append_nil, ← r.length]; exact F.len _ _ _ _ _ _ _ due)
  refine wpAny_call (codeAny_mono (F.run X.A X.stack s H ⟨us, []⟩ us vs Q E0 a oe cls d hr hz hfs (pinned I hpn) I.env0 binds r due) fun res s' left => ?_)
  match res, left with
  | .ok (.ret _), left => exact I.after left
  | .ok .next, left | .ok .brk, left | .ok .cont, left | .error _, left => exact False.elim left
/-- isinstance(e, c), e a handled error -/
def rIsP (K : PySem.W.Frag) (D a : Addr) (d : Option Addr) : List V → Hp → VK → Prop := fun xs H Q => ∃ (c : V) (cv : Value) (b : Bool), xs = [.ref a, c] ∧ (∀ u, RelV c u → u = cv) ∧ PySem.W.kitOne K (.ref D) cv = some b ∧
  (∀ dd, d = some dd → ∃ fs, H dd = some (.xd fs)) ∧ Q (.bl b) H
theorem call_isP {a D : Addr} {oe : Obj} {d : Option Addr} (hpn : (a, oe) ∈ X.pn) (C : ExcC X.K D) (hz : Zc (.ref D) d oe) (hfs : ∃ z, oe.data = .fields z) : CallR X (.builtin "isinstance") (rIsP X.K D a d) := by
  intro pins s σ H xs us Q I r h
  obtain ⟨c, cv, b, rfl, hcv, e, hd, q⟩ := h
  obtain ⟨u1, u2, rfl, r1, r2⟩ := vals2 r
  have ec := hcv _ r2
  subst ec
  cases (show u1 = Value.ref a from r1)
  obtain ⟨hget, _⟩ := I.pin (a, oe) (List.mem_append_left _ hpn)
  obtain ⟨z, hv⟩ := hfs
  have hno : PySem.W.notCls oe = true := by
    unfold PySem.W.notCls
    rw [hv]
  obtain ⟨od, J⟩ : ∃ od, PySem.W.InstAt s.heap a oe D od := by
    cases d with
    | none => exact ⟨none, hget, hz.1, hno, by rw [hz.2]; trivial⟩
    | some dd =>
      obtain ⟨fs, hfs⟩ := hd dd rfl
      obtain ⟨mA, hns, hr⟩ := (show ObjOk X.prog X.w H s.heap dd (.xd fs) from I.hok dd _ hfs)
      obtain ⟨od, ho, hl⟩ := lookIn_ns hns
      exact ⟨some od, hget, hz.1, hno, by rw [hz.2]; exact ho⟩
  have hcl : (PySem.W.clsIn X.K D).isSome = true := by
    obtain ⟨cd, hc, _⟩ := PySem.W.any_some C.hd
    rw [hc]
    rfl
  exact PySem.W.kia_one (PySem.W.kitx_exc hcl C.hg C.hk C.hs C.ha C.hn C.ht C.hm) I.kIn J e (fun z => nomatch z) fun tk => ⟨.bl b, H, I.tok tk, rfl, q⟩
end

/-! ### what the written part says of the refusals -/
def excCB (K : PySem.W.Frag) (D : Addr) : Bool :=
  decide (PySem.W.findIn K (.ref D) "__getattribute__" = some (some (.builtin "BaseException.__getattribute__"))) && (decide (PySem.W.findIn K (.ref D) "__getattr__" = some none) && (decide (PySem.W.subIn K (.ref D) (.type "BaseException") = some true) &&
    (PySem.W.hasDictIn K D && (decide (PySem.W.findIn K (.ref D) "__class__" = some (some (.builtin "object.__class__"))) && (decide (PySem.W.specialIn K (.builtin "object.__class__") "__get__" = some (some (.builtin "getset_descriptor.__get__"))) &&
      (decide (PySem.W.takesIn K (.builtin "object.__class__") = some true) && decide (PySem.W.mroIn K D (.type "object") = some true)))))))
theorem excC_of {K : PySem.W.Frag} {D : Addr} (h : excCB K D = true) : ExcC K D := by
  unfold excCB at h
  simp only [Bool.and_eq_true, decide_eq_true_eq] at h
  obtain ⟨h1, h2, h3, h4, h5, h6, h7, h8⟩ := h
  exact ⟨h1, h2, h3, h4, h5, h6, h7, h8⟩
def excTB (K : PySem.W.Frag) (c : Nat → Addr) (LE : Addr) : Bool :=
  (List.range 16).all fun i => excCB K (c i) && (decide (PySem.W.kitOne K (.ref (c i)) (.type "ValueError") = some true) && (decide (PySem.W.exmOne K (.ref (c i)) (.ref LE) = some true) &&
    ((decide (14 ≤ i) || PySem.W.excIn K (c i) PySem.HandSPX.veTail "ValueError.__new__") && (PySem.W.keepIn K (.ref (c i)) && (decide (PySem.W.typeIn K (.ref (c i)) = some (.type "type")) &&
      (List.range 16).all fun j => decide (PySem.W.kitOne K (.ref (c i)) (.ref (c j)) = some (decide (i = j))))))))
/-- the sixteen refusals stand at c 0 .. c 15, LanternError at LE -/
structure ExcT (K : PySem.W.Frag) (c : Nat → Addr) (LE : Addr) : Prop where
  e : ∀ i, i < 16 → ExcC K (c i)
  kv : ∀ i, i < 16 → PySem.W.kitOne K (.ref (c i)) (.type "ValueError") = some true
  ex : ∀ i, i < 16 → PySem.W.exmOne K (.ref (c i)) (.ref LE) = some true
  nw : ∀ i, i < 14 → PySem.W.excIn K (c i) PySem.HandSPX.veTail "ValueError.__new__" = true
  kp : ∀ i, i < 16 → PySem.W.keepIn K (.ref (c i)) = true
  ty : ∀ i, i < 16 → PySem.W.typeIn K (.ref (c i)) = some (.type "type")
  ko : ∀ i, i < 16 → ∀ j, j < 16 → PySem.W.kitOne K (.ref (c i)) (.ref (c j)) = some (decide (i = j))
theorem excT_of {K : PySem.W.Frag} {c : Nat → Addr} {LE : Addr} (h : excTB K c LE = true) : ExcT K c LE := by
  have key : ∀ i, i < 16 → excCB K (c i) = true ∧ PySem.W.kitOne K (.ref (c i)) (.type "ValueError") = some true ∧ PySem.W.exmOne K (.ref (c i)) (.ref LE) = some true ∧ (14 ≤ i ∨ PySem.W.excIn K (c i) PySem.HandSPX.veTail "ValueError.__new__" = true) ∧ PySem.W.keepIn K (.ref (c i)) = true ∧
      PySem.W.typeIn K (.ref (c i)) = some (.type "type") ∧ ∀ j, j < 16 → PySem.W.kitOne K (.ref (c i)) (.ref (c j)) = some (decide (i = j)) := fun i hi => by
    have z := List.all_eq_true.mp h i (List.mem_range.mpr hi)
    simp only [Bool.and_eq_true, Bool.or_eq_true, decide_eq_true_eq] at z
    obtain ⟨z1, z2, z3, z4, z5, z6, z7⟩ := z
    exact ⟨z1, z2, z3, z4, z5, z6, fun j hj => of_decide_eq_true (List.all_eq_true.mp z7 j (List.mem_range.mpr hj))⟩
  exact ⟨fun i hi => excC_of (key i hi).1, fun i hi => (key i hi).2.1, fun i hi => (key i hi).2.2.1, fun i hi => (key i (by omega)).2.2.2.1.elim (fun z => absurd z (by omega)) id, fun i hi => (key i hi).2.2.2.2.1, fun i hi => (key i hi).2.2.2.2.2.1, fun i hi => (key i hi).2.2.2.2.2.2⟩
theorem ExcT.rs {X : Cx} {c : Nat → Addr} {LE : Addr} (T : ExcT X.K c LE) {i : Nat} (hi : i < 16) : Raises X (.ref (c i)) := raises_own (T.e i hi).hs (T.ty i hi)
/-! ### xs.count(True) -/
def rCntB (K : PySem.W.Frag) : V → List V → Hp → VK → Prop := fun x xs H Q => ∃ (p : Addr) (bs : List Bool), x = .ref p ∧ xs = [.bl true] ∧ SqL K H p (bs.map V.bl) ∧ Q (.int (bs.count true : Nat)) H
theorem bl_flat : ∀ bs : List Bool, (bs.map V.bl).all flatV = true
  | [] => rfl
  | b :: r => by
    rw [List.map_cons, List.all_cons, bl_flat r]
    rfl
theorem cnt_bl : ∀ {bs : List Bool} {us : List Value}, Vals (bs.map V.bl) us → us.countP (eqU (.bl true)) = bs.count true
  | [], _, .nil => rfl
  | b :: r, _, .cons (b := u) (l₂ := us) ru rt => by
    have e : eqU (.bl true) u = eqV (.bl b) (.bl true) := eqU_of ru rfl
    rw [List.countP_cons, cnt_bl rt, List.count_cons, e]
    cases b <;> rfl
theorem mt_bcount {X : Cx} : MtR X "list.count" (rCntB X.K) := by
  intro pins s σ H x xs v us Q I rx rxs h
  obtain ⟨p, bs, rfl, rfl, hs, q⟩ := h
  cases rx
  obtain ⟨u, rfl, ru⟩ := rxs.one
  obtain ⟨its, rv, ⟨⟨cls, dd, data, sl⟩, n, ho, hc, hdn, hd⟩, hlen⟩ := I.list hs
  simp only at hc hd
  subst hc hd
  refine call_meets PySem.F.slot_list_count ⟨_, ho, rfl⟩ PySem.F.entry_list_count
    (PySem.F.args_list_count_2 _ _) (SeqAt.list_countAt p its.toArray n dd sl u (eqU (.bl true)))
    ⟨ho, fun y hy => mem_eqAt ru rfl rv (bl_flat bs) y (by simpa using hy), ?_⟩
  refine ⟨.int (bs.count true : Nat), H, I.tok _, ⟨s.toks, ?_⟩, q⟩
  show Value.int ((its.toArray.toList.countP (eqU (.bl true)) : Nat) : Int) s.toks = Value.int ((bs.count true : Nat) : Int) s.toks
  rw [List.toList_toArray, cnt_bl rv]
/-! ### what is told of a call -/
def bits (i : Nat) : List Bool := (List.range 16).map fun j => decide (i = j)
def HasXd (d : Option Addr) (H : Hp) : Prop := ∀ dd, d = some dd → ∃ fs, H dd = some (.xd fs)
def spCls (c : Nat → Addr) : Addr → Value → Option Addr → Sp := fun a cls d vs H Q _ => ∃ i, i < 16 ∧ vs = [.ref a] ∧ cls = .ref (c i) ∧ HasXd d H ∧ ∀ H' p, Same H H' → H p = none → H' p = some (.lst ((bits i).map V.bl)) → Q (.ref p) H'
/-- what is wished of a refusal that met catches: told are 'refused' and its number, 'many' and both fields, 'leaned' and the numbers -/
def EMet (c : Nat → Addr) (Q : VK) : XK := fun cls d H => ∃ i, i < 16 ∧ cls = .ref (c i) ∧ HasXd d H ∧
  (i < 14 → ∀ H' p, Same H H' → H p = none → H' p = some (.tup [.str "refused", .int (i : Nat)]) → Q (.ref p) H') ∧
  (i = 14 → ∃ dd fs m n, d = some dd ∧ H dd = some (.xd fs) ∧ fs.lookup ("many" : Str) = some m ∧ fs.lookup ("most" : Str) = some n ∧ ∀ H' p q, Same H H' → H p = none → H' q = some (.tup [m, n]) → H' p = some (.tup [.str "many", .ref q]) → Q (.ref p) H') ∧
  (i = 15 → ∃ dd fs m, d = some dd ∧ H dd = some (.xd fs) ∧ fs.lookup ("numbers" : Str) = some m ∧ ∀ H' p, Same H H' → H p = none → H' p = some (.tup [.str "leaned", m]) → Q (.ref p) H')
/-- what met makes of the lambda's reading -/
def TMet (c : Nat → Addr) : (XK → Hp → VK → Prop) → Hp → VK → Prop := fun tl H Q =>
  tl (EMet c Q) H fun v H1 => 2 ≤ sizeLine ∧ ∀ p, H1 p = none → Q (.ref p) (upd H1 p (.tup [.str "told", v]))

def clsN : List Str := ["NoLayer", "NoWindow", "NoSheet", "NoMoment", "NoRow", "NoNumber", "NoDrawings", "Unlike", "Endless", "Squeezed", "NoPaper", "NoDeed", "NoText", "NoWords", "TooMany", "Leaned"]
structure ExcN (K : PySem.W.Frag) (mg : Str → Option Value) (c : Nat → Addr) (LE : Addr) : Prop extends ExcT K c LE where
  g : ∀ i n, clsN[i]? = some n → mg n = some (.ref (c i))
  gL : mg "LanternError" = some (.ref LE)
  n1 : PySem.W.findIn K (.ref (c 14)) "many" = some none
  n2 : PySem.W.findIn K (.ref (c 14)) "most" = some none
  n3 : PySem.W.findIn K (.ref (c 15)) "numbers" = some none
theorem ExcN.xf {K : PySem.W.Frag} {mg : Str → Option Value} {c : Nat → Addr} {LE : Addr} (T : ExcN K mg c LE) {i : Nat} (hi : i < 16) : XfC K (c i) := ⟨(T.e i hi).hg, (T.e i hi).hk, (T.e i hi).hs, (T.e i hi).hd⟩
structure ClE (P : Program) (w : World) (K : PySem.W.Frag) (mg : Str → Option Value) (base : Heap) (k : Nat) (x : Str) (ps : List Str) (sp : Addr → Value → Option Addr → Sp) : Prop where
  ex : ∃ (f : Addr) (fd : FuncData), FnE P w K mg base k f fd ps sp ∧ PySem.W.keepIn K (.ref f) = true ∧ Binds K fd ps [] ∧ mg x = some (.ref f)
/-- a def that may refuse -/
structure ClX (P : Program) (w : World) (K : PySem.W.Frag) (mg : Str → Option Value) (base : Heap) (k : Nat) (x : Str) (ps : List Str) (sp : Sp) : Prop where
  ex : ∃ (f : Addr) (fd : FuncData), FnOk P w K mg base (L2.CX P w) k f fd ps sp ∧ PySem.W.keepIn K (.ref f) = true ∧ Binds K fd ps [] ∧ mg x = some (.ref f)
section
variable {X : Cx}
theorem pe_gref {x : Str} {pos : Pos} {C : Addr} (hg : Gl X x) (h : X.mg x = some (.ref C)) (hd : (x == ("__debug__" : Str)) = false := by decide) : PE X (.Name x pos) (tC (.ref C)) := pe_glob hg h rfl hd
/-- a built-in's method, the written part told by its letter -/
theorem pe_bmK {K : PySem.W.Frag} {T : String} {name : Str} {id : String} {r : V → List V → Hp → VK → Prop} {o e : Expr} {es : List Expr} {to : TE} {t : TA} {apos cpos : Pos} (pa : PlainAttrs T) (slot : Slot T name id) (hty : typeOf (.builtin id) = pure (.type "method_descriptor")) (hm : MtR X id r) (ho : PE X o to) (ha : PA X (e :: es) t) (hK : X.K = K := by rfl)
    (hbase : attributeBase o name X.env (eval o X.env) = eval o X.env := by rfl)
    (hfew : ((backTo cpos (starEach (e :: es) X.env)).all (fun x => !x.1) && (backToKw cpos (keywordEach [] X.env)).all (fun x => x.1.isSome) && decide ((e :: es).length + ([] : List Keyword).length + (if ([] : List Keyword).isEmpty then 0 else 1) < 30)) = true := by rfl)
    (hline : (apos.endLine == cpos.line) = true := by rfl) (hs : starEach (e :: es) X.env = (false, eval e X.env) :: starEach es X.env := by rfl)
    (hplain : (backTo cpos (starEach es X.env)).any (·.1) = false := by rfl) : PE X (.Call (.Attribute o name apos) (e :: es) [] cpos) (tBM K T r to t) := by
  subst hK
  exact pe_bm pa slot hty hm ho ha hbase hfew hline hs hplain
theorem pe_ownE {k : Nat} {x : Str} {ps : List Str} {sp : Addr → Value → Option Addr → Sp} {a : Addr} {oe : Obj} {cls : Value} {d : Option Addr} {e : Expr} {es : List Expr} {t : TA} {p pos : Pos} (C : ClE X.prog X.w X.K X.mg X.base k x ps sp) (hr : L2H.RoomH k X.A) (hpn : (a, oe) ∈ X.pn) (hz : Zc cls d oe)
    (hfs : ∃ z, oe.data = .fields z) (hg : Gl X x) (ha : PA X (e :: es) t)
    (hdb : (x == ("__debug__" : Str)) = false := by decide) (he : starEach (e :: es) X.env = (false, eval e X.env) :: starEach es X.env := by rfl) (hpl : (backTo pos (starEach es X.env)).any (·.1) = false := by rfl) :
    PE X (.Call (.Name x p) (e :: es) [] pos) (fun σ H Q => t σ H fun vs H1 => sp a cls d vs H1 Q E0) := by
  obtain ⟨f, fd, F, hk, hb, hm⟩ := C.ex
  exact pe_callE F hr hpn hz hfs hg hm hk hb ha hdb he hpl
/-- f(e, ..), f may refuse: E is wished of what it lets out -/
theorem pe_ownX {k : Nat} {x : Str} {ps : List Str} {sp : Sp} {W : WX} {e : Expr} {es : List Expr} {t : TA} {p pos : Pos} (C : ClX X.prog X.w X.K X.mg X.base k x ps sp) (hr : Room k X.A) (tk : Takes X W) (hg : Gl X x) (ha : PA X (e :: es) t)
    (hdb : (x == ("__debug__" : Str)) = false := by decide) (he : starEach (e :: es) X.env = (false, eval e X.env) :: starEach es X.env := by rfl) (hpl : (backTo pos (starEach es X.env)).any (·.1) = false := by rfl) :
    PE X (.Call (.Name x p) (e :: es) [] pos) (tCallS sp (WE W) t) := by
  obtain ⟨f, fd, F, hk, hb, hm⟩ := C.ex
  exact pe_callS F hr hg hm hk hb (fun σ => passAt tk σ) ha hdb he hpl
def rIsQ (K : PySem.W.Frag) (c : Nat → Addr) (a : Addr) (cls : Value) (d : Option Addr) : List V → Hp → VK → Prop := fun xs H Q => ∃ i, i < 16 ∧ cls = .ref (c i) ∧ rIsP K (c i) a d xs H Q
theorem call_isQ {K : PySem.W.Frag} {c : Nat → Addr} {LE a : Addr} {oe : Obj} {cls : Value} {d : Option Addr} (T : ExcT K c LE) (hpn : (a, oe) ∈ X.pn) (hz : Zc cls d oe) (hfs : ∃ z, oe.data = .fields z) (hK : X.K = K := by rfl) : CallR X (.builtin "isinstance") (rIsQ K c a cls d) := by
  subst hK
  intro pins s σ H xs us Q I r h
  obtain ⟨i, hi, rfl, h⟩ := h
  exact call_isP hpn (T.e i hi) hz hfs pins s σ H xs us Q I r h
/-- what a met def must have: its place, its text -/
structure MetF (X : Cx) (x a : Str) (TT : (XK → Hp → VK → Prop) → Hp → VK → Prop) : Prop where
  ex : ∃ (g : Addr) (pg : Arguments) (bg : List Stmt) (sg : Scope) (kV doc pm cdv ct oc : Value) (an od : Option Addr) (osl : Array (Option Value)) (Ng : List Str), X.mg x = some (.ref g) ∧ PySem.W.keepIn X.K (.ref g) = true ∧
    X.K.lookup g = some ⟨oc, od, .func (PySem.W.fnOf x x pg bg sg .none kV doc pm an cdv ct), osl⟩ ∧ PySem.W.codeIn X.K cdv x = true ∧ L2.Binds X.K (PySem.W.fnOf x x pg bg sg .none kV doc pm an cdv ct) [a] [] ∧ FnScope Ng [a] sg ∧ Ng[0]? = some a ∧ Vis sg a ∧
    LamX.GivesTo X Ng x sg g cdv bg a (X.env.qual ++ "<lambda>") TT
/-- x(lambda: body) -/
theorem pe_met {T : List (Addr × Str)} {TT : (XK → Hp → VK → Prop) → Hp → VK → Prop} {x a : Str} {c P : Addr} {k : Nat} {params : Arguments} {body : Expr} {scope : Scope} {t : XK → TE} {p lpos pos : Pos} (M : MetF X x a TT) (hg : Gl X x)
    (TB : LamX.TabB X.base X.mg c P) (hcode : X.env.code = .ref c) (hmT : (P, X.env.qual ++ "<lambda>") ∈ T) (hu : ∀ p ∈ T, p.1 = P → p.2 = X.env.qual ++ "<lambda>") (hr : Room (k + 2) X.A) (L : LamX.LamS X.env.scope scope)
    (hbody : ∀ (A : Around) (outer : List Env) (s : Shared) (H : Hp) (E : XK) (f c' : Addr), Room k (A.deeper (LamX.lamEnv X scope s.heap.objs.size f c')) → PE (LamX.lamCx X A outer s H E scope f c') body (t E))
    (hdef : defaultsOf params X.env = ([], []) := by rfl)
    (hbind : ∀ (q : Str) (cl : List (Str × Addr)) (pm cv ctv : Value), bindArgs (PySem.W.kla_fn "<lambda>" q params body scope cl pm cv ctv) ⟨[], []⟩ = pure [] := by intros; rfl)
    (hdb : (x == ("__debug__" : Str)) = false := by decide) (hd : (a == ("__debug__" : Str)) = false := by decide) (hcd : (a == ("__classdict__" : Str)) = false := by decide) :
    PE X (.Call (.Name x p) [.Lambda params body scope lpos] [] pos) (LamX.tLam T TT t) := by
  obtain ⟨g, pg, bg, sg, kV, doc, pm, cdv, ct, oc, an, od, osl, Ng, hm, hk, lk, hcg, hb, Sg, hNg, hva, hG⟩ := M.ex
  exact LamX.pe_lamcall hg hm hk lk hcg hb Sg hNg hva hG TB hcode hmT hu hr L hdef hbind hbody hdb hd hcd
end
/-! ### the end of a law that makes lambdas -/
def TabsIn (q : Program) (K : PySem.W.Frag) (h : Heap) : Prop := ∀ (x : Str) (c P : Addr), ((recsOf q).find? fun e => e.name == x).isSome = true → PySem.W.tabIn K x = some (c, P) → PySem.W.CodeHd h c P ∧ h.get? P = some { cls := .none, data := .fields #[] }
theorem walk_ofL {l : PySem.W.OpenLaw} {n k : Nat} {q : Program} {loose : List Str} {XP : (Str → Option Value) → Heap → Prop} {YP : World → Heap → Prop} {d : DefRec} {K : Params → PySem.W.Frag} {x : Str}
    (hn : l.most = some n) (hn2 : n ≤ sizeLine) (hdf : d.params.defaults = []) (hr : Room k callerA) (hY : ∀ (w : World) (h : Heap), YP w h → (K w.params).In h)
    (F : ∀ (w : World) (mg : Str → Option Value) (fa : Addr) (h : Heap), (K w.params).In h → h.Ns mainGlobals mg → mg d.name = some (.ref fa) → TabsIn q (K w.params) h → LamX.LawAtS l w (K w.params) CX0 k n x mg fa h) :
    PySem.W.WalkO q loose XP YP l.row.toRowW d [] (fun f vs => PySem.call f vs) := by
  refine Att.attach_callB hn hdf
    fun w s₀ s₁ mg mb fa o pm cd doc a vs ns G Y ho hd hcd hmg hobj hints hlen hbits hg => ?_
  have hK := hY w _ Y
  have tabs : TabsIn q (K w.params) s₁.heap := fun y c P hf ht => by
    obtain ⟨dL, hfd⟩ := Option.isSome_iff_exists.mp hf
    exact PySem.W.tab_of G.T hK hfd ht
  obtain ⟨fd, cs, sp, hT, nT, C, hb, hsp, hF⟩ := F w mg fa _ hK G.T.g hmg tabs
  exact LamX.law_callTs hK G.T.g G.T.b G.T.builtins G.T.nolimit hg hT nT C G.T.bmain hobj hints
    (Nat.le_trans hlen hn2) hr hF hb (fun H hH hS => hsp H a ns hlen hbits hH hS) fun H e s' z => z

def qLam (x : Str) : Str := x ++ ".<locals>." ++ "<lambda>"
/-- as Fun, its code object told -/
structure FunC (K : PySem.W.Frag) (x qual : Str) (st : Stmt) (f : Addr) (fd : FuncData) (cc : Addr) : Prop where
  ex : ∃ (oc : Value) (od : Option Addr) (kV doc pm : Value) (an : Option Addr) (ct : Value) (osl : Array (Option Value)),
    fd = PySem.W.fnOf x qual (defArgs st) (defBody st) (defScope st) .none kV doc pm an (.ref cc) ct ∧ K.lookup f = some ⟨oc, od, .func fd, osl⟩ ∧ PySem.W.codeIn K (.ref cc) qual = true
theorem funC_mk {K : PySem.W.Frag} {x qual : Str} {st : Stmt} {f cc : Addr} {oc : Value} {od an : Option Addr} {osl : Array (Option Value)} {kV doc pm ct : Value} (l : K.lookup f = some ⟨oc, od, .func (PySem.W.fnOf x qual (defArgs st) (defBody st) (defScope st) .none kV doc pm an (.ref cc) ct), osl⟩)
    (c : PySem.W.codeIn K (.ref cc) qual = true) : FunC K x qual st f (PySem.W.fnOf x qual (defArgs st) (defBody st) (defScope st) .none kV doc pm an (.ref cc) ct) cc := ⟨⟨oc, od, kV, doc, pm, an, ct, osl, rfl, l, c⟩⟩
/-- what a maker of lambdas has: its table at PP among the tables TS -/
structure Mkr (base : Heap) (mg : Str → Option Value) (cc PP : Addr) (x : Str) (TS : List (Addr × Str)) : Prop where
  tb : LamX.TabB base mg cc PP
  hm : (PP, qLam x) ∈ TS
  hu : ∀ p ∈ TS, p.1 = PP → p.2 = qLam x
section
variable {P : Program} {w : World} {K : PySem.W.Frag} {mg : Str → Option Value} {base : Heap}
theorem fun_okL {x qual : Str} {st : Stmt} {f cc : Addr} {fd : FuncData} {N ps : List Str} {k : Nat} {sp : Sp} (F : FunC K x qual st f fd cc) (S : FnScope N ps (defScope st)) (ln : ∀ vs H Q E, sp vs H Q E → vs.length = ps.length)
    (hbody : ∀ (A : Around) (outer : List Env) (s : Shared) (H : Hp) (vs : List V) (Q : VK) (E : XK), Room k (A.deeper (envOfC qual (defScope st) s.heap.objs.size f (.ref cc))) → sp vs H Q E →
      ∃ t, PSs (cxOf CX0 P w K mg base N qual (defScope st) f (.ref cc) A outer s H E).nox (defBody st) t ∧ t { nx := fun _ H' => Q .non H', rt := Q } (L2.start N vs) H) : FnOk P w K mg base CX0 (k + 1) f fd ps sp := by
  obtain ⟨oc, od, kV, doc, pm, an, ct, osl, rfl, lk, hcd⟩ := F.ex
  refine fn_of lk hcd S ln fun A outer s H vs Q E hr hsp => ?_
  obtain ⟨t, ht, hq⟩ := hbody A outer s H vs Q E hr hsp
  exact ⟨t, ht.nox, hq⟩
end
/-! ### the state of the later laws; what stands but the state and the tables -/
def IsSx (H : Hp) (st : Addr) : Prop := ∃ (a : Int) (b : Bool), H st = some (.lst [.int a, .bl b]) ∧ 0 ≤ a ∧ (b = false → a < 2147483647)
def Gx (st : Addr) (H H' : Hp) : Prop := (∀ b o, b ≠ st → (∀ ps, o ≠ .tbl ps) → H b = some o → H' b = some o) ∧ (IsSx H st → IsSx H' st) ∧ ∀ T, LamX.Tabs T H → LamX.Tabs T H'
theorem Gx.refl {st : Addr} {H : Hp} : Gx st H H := ⟨fun _ _ _ _ h => h, id, fun _ h => h⟩
theorem Gx.trans {st : Addr} {H H1 H2 : Hp} (a : Gx st H H1) (b : Gx st H1 H2) : Gx st H H2 := ⟨fun c o n z h => b.1 c o n z (a.1 c o n z h), fun h => b.2.1 (a.2.1 h), fun T h => b.2.2 T (a.2.2 T h)⟩
theorem gx_same {st : Addr} {H H' : Hp} (s : Same H H') : Gx st H H' := ⟨fun b o _ _ h => s b o h, fun ⟨a, b, h, r⟩ => ⟨a, b, s _ _ h, r⟩, fun T h => h.ext s⟩
theorem lst_tbl {xs : List V} : ∀ ps, HO.lst xs ≠ .tbl ps := fun ps z => by cases z
theorem tup_tbl {xs : List V} : ∀ ps, HO.tup xs ≠ .tbl ps := fun ps z => by cases z
theorem tabs_lst {T : List (Addr × Str)} {H : Hp} {D : Addr} {xs ys : List V} (e : H D = some (.lst xs)) (h : LamX.Tabs T H) : LamX.Tabs T (upd H D (.lst ys)) := fun p hp => by
  obtain ⟨ps, h1, h2, h3⟩ := h p hp
  refine ⟨ps, ?_, h2, fun pos cv hc => ?_⟩
  · rw [upd_ne (ne_of h1 e (by intro z; cases z))]
    exact h1
  · obtain ⟨c0, e1, e2⟩ := h3 pos cv hc
    refine ⟨c0, e1, ?_⟩
    rw [upd_ne (ne_of e2 e (by intro z; unfold LamX.CodeO at z; cases z))]
    exact e2
theorem gx_ext {st : Addr} {H H' : Hp} (e : LamX.ExtN H H') (t : ∀ T, LamX.Tabs T H → LamX.Tabs T H') : Gx st H H' := ⟨fun b o _ z h => e b o h z, fun ⟨a, b, h, r⟩ => ⟨a, b, e _ _ h lst_tbl, r⟩, t⟩
theorem Gx.sqT {st : Addr} {K : PySem.W.Frag} {H H' : Hp} {a : Addr} {xs : List V} (g : Gx st H H') (s : IsSx H st) (h : SqT K H a xs) : SqT K H' a xs := by
  obtain ⟨u, v, hs, _⟩ := s
  rcases h with (h | ⟨o, h⟩) | h
  · exact .inl (.inl (g.1 _ _ (ne_of h hs (by intro z; cases z)) tup_tbl h))
  · exact .inl (.inr ⟨o, g.1 _ _ (ne_of h hs (by intro z; cases z)) (fun ps z => by cases z) h⟩)
  · exact .inr h
theorem Gx.tk {st : Addr} {K : PySem.W.Frag} {H H' : Hp} (g : Gx st H H') (s : IsSx H st) : TKeep K H H' := fun _ _ h => g.sqT s h
/-- what stood before the law's state was made -/
theorem Gx.sqL {st : Addr} {K : PySem.W.Frag} {H H' : Hp} {a : Addr} {xs : List V} (g : Gx st H H') (n : a ≠ st) (h : SqL K H a xs) : SqL K H' a xs := by
  rcases h with (h | ⟨o, h⟩) | h
  · exact .inl (.inl (g.1 _ _ n lst_tbl h))
  · exact .inl (.inr ⟨o, g.1 _ _ n (fun ps z => by cases z) h⟩)
  · exact .inr h
theorem sx_ne {H : Hp} {st p : Addr} (s : IsSx H st) (h : H p = none) : p ≠ st := by
  obtain ⟨a, b, e, _⟩ := s
  exact fun z => by rw [z, e] at h; cases h
theorem gx_set {st : Addr} {H : Hp} {a : Int} {b : Bool} {xs : List V} (e : H st = some (.lst xs)) (h0 : 0 ≤ a) (h1 : b = false → a < 2147483647) : Gx st H (upd H st (.lst [.int a, .bl b])) :=
  ⟨fun c o n _ h => by rw [upd_ne n]; exact h, fun _ => ⟨a, b, upd_same, h0, h1⟩, fun T h => tabs_lst e h⟩
theorem gx_upd {st D : Addr} {H0 H : Hp} {xs : List V} (g : Gx st H0 H) (n0 : H0 D = none) (nD : D ≠ st) (eD : H D = some (.lst xs)) (ys : List V) : Gx st H0 (upd H D (.lst ys)) :=
  ⟨fun b o n z h => by rw [upd_ne (ne_of_none h n0)]; exact g.1 b o n z h, fun s => by
    obtain ⟨a, b, e, r⟩ := g.2.1 s
    exact ⟨a, b, by rw [upd_ne (Ne.symm nD)]; exact e, r⟩, fun T h => tabs_lst eD (g.2.2 T h)⟩
/-- the same with the law's own tables alone -/
def Gw (TS : List (Addr × Str)) (st : Addr) (H H' : Hp) : Prop := (∀ b o, b ≠ st → (∀ ps, o ≠ .tbl ps) → H b = some o → H' b = some o) ∧ (IsSx H st → IsSx H' st) ∧ (LamX.Tabs TS H → LamX.Tabs TS H')
theorem Gw.refl {TS : List (Addr × Str)} {st : Addr} {H : Hp} : Gw TS st H H := ⟨fun _ _ _ _ h => h, id, id⟩
theorem Gw.trans {TS : List (Addr × Str)} {st : Addr} {H H1 H2 : Hp} (a : Gw TS st H H1) (b : Gw TS st H1 H2) : Gw TS st H H2 := ⟨fun c o n z h => b.1 c o n z (a.1 c o n z h), fun h => b.2.1 (a.2.1 h), fun h => b.2.2 (a.2.2 h)⟩
theorem Gx.l {TS : List (Addr × Str)} {st : Addr} {H H' : Hp} (g : Gx st H H') : Gw TS st H H' := ⟨g.1, g.2.1, g.2.2 TS⟩
theorem gw_same {TS : List (Addr × Str)} {st : Addr} {H H' : Hp} (s : Same H H') : Gw TS st H H' := (gx_same s).l
theorem gw_ext {TS : List (Addr × Str)} {st : Addr} {H H' : Hp} (e : LamX.ExtN H H') (t : LamX.Tabs TS H') : Gw TS st H H' := ⟨fun b o _ z h => e b o h z, fun ⟨a, b, h, r⟩ => ⟨a, b, e _ _ h lst_tbl, r⟩, fun _ => t⟩
theorem Gw.tk {TS : List (Addr × Str)} {st : Addr} {K : PySem.W.Frag} {H H' : Hp} (g : Gw TS st H H') (s : IsSx H st) : TKeep K H H' := fun a xs h => by
  obtain ⟨u, v, hs, _⟩ := s
  rcases h with (h | ⟨o, h⟩) | h
  · exact .inl (.inl (g.1 _ _ (ne_of h hs (by intro z; cases z)) tup_tbl h))
  · exact .inl (.inr ⟨o, g.1 _ _ (ne_of h hs (by intro z; cases z)) (fun ps z => by cases z) h⟩)
  · exact .inr h
theorem ExtN.tk {K : PySem.W.Frag} {H H' : Hp} (e : LamX.ExtN H H') : TKeep K H H' := fun a xs h => by
  rcases h with (h | ⟨o, h⟩) | h
  · exact .inl (.inl (e _ _ h tup_tbl))
  · exact .inl (.inr ⟨o, e _ _ h (fun ps z => by cases z)⟩)
  · exact .inr h
/-- what stands in a law between two of its states -/
structure Go (TS : List (Addr × Str)) (H H' : Hp) : Prop where
  e : LamX.ExtN H H'
  t : LamX.Tabs TS H'
theorem Go.sqL {TS : List (Addr × Str)} {K : PySem.W.Frag} {H H' : Hp} {a : Addr} {xs : List V} (g : Go TS H H') (h : SqL K H a xs) : SqL K H' a xs := by
  rcases h with (h | ⟨o, h⟩) | h
  · exact .inl (.inl (g.e _ _ h lst_tbl))
  · exact .inl (.inr ⟨o, g.e _ _ h (fun ps z => by cases z)⟩)
  · exact .inr h
theorem Gw.go {TS : List (Addr × Str)} {st : Addr} {H0 H H1 H2 : Hp} (g : Gw TS st H1 H2) (o : Go TS H0 H) (s : Same H H1) (n : H st = none) : Go TS H0 H2 :=
  ⟨fun b u h z => g.1 b u (ne_of_none (o.e b u h z) n) z (s _ _ (o.e b u h z)), g.2.2 (o.t.ext s)⟩

/-! ### refusals with fields -/
def clsB (s : Stmt) (i : Nat) : Stmt := match s with
  | .ClassDef _ _ _ b _ _ _ _ _ _ _ => b.getD i (.Pass ⟨0, 0, 0, 0⟩)
  | _ => .Pass ⟨0, 0, 0, 0⟩
/-- the class at C is made by its own __init__, which keeps sp -/
structure IniT (P : Program) (w : World) (K : PySem.W.Frag) (mg : Str → Option Value) (base : Heap) (C : Addr) (n : Nat) (sp : Sp) : Prop where
  ex : ∃ (fI : Addr) (fd : FuncData) (ps : List Str), OexC K C ∧ PySem.W.findIn K (.ref C) "__init__" = some (some (.ref fI)) ∧ PySem.W.typeIn K (.ref fI) = some (.type "function") ∧ FnOk P w K mg base CX0 1 fI fd ps sp ∧ Binds K fd ps []
theorem pmk_init {X : Cx} {C : Addr} {n : Nat} {sp : Sp} {x : Str} {e : Expr} {es : List Expr} {ta : TA} {p pos : Pos} (I : IniT X.prog X.w X.K X.mg X.base C n sp) (hr : Room 2 X.A) (hg : Gl X x) (hm : X.mg x = some (.ref C)) (ha : PA X (e :: es) ta)
    (hdb : (x == ("__debug__" : Str)) = false := by decide) (he : starEach (e :: es) X.env = (false, eval e X.env) :: starEach es X.env := by rfl) (hpl : (backTo pos (starEach es X.env)).any (·.1) = false := by rfl) :
    PMk X (.Call (.Name x p) (e :: es) [] pos) (tMkO C sp [] ta) := by
  obtain ⟨fI, fd, ps, o, i, t, F, b⟩ := I.ex
  exact pmk_oex o i t F hr b .nil pass0 hg hm ha hdb he hpl
/-- a wish may lean on how many slots there are -/
theorem takes_len {X : Cx} {W : WX} (tk : Takes X W) : Takes X (fun cls d σ H => σ.length = X.N.length → W cls d σ H) := fun u s' ⟨a, B, sI, pins, σ, H, cls, d, e, I, nb, up, sky, na, os, ag, hw⟩ =>
  tk u s' ⟨a, B, sI, pins, σ, H, cls, d, e, I, nb, up, sky, na, os, ag, hw I.len⟩
theorem HasXd.sm {d : Option Addr} {H H' : Hp} (h : HasXd d H) (s : Same H H') : HasXd d H' := fun dd e => by
  obtain ⟨fs, hf⟩ := h dd e
  exact ⟨fs, s _ _ hf⟩
theorem bits_count (i : Nat) (h : i < 16) : (bits i).count true = 1 := by
  have : ∀ i, i < 16 → (bits i).count true = 1 := by decide
  exact this i h
theorem bits_at (i j : Nat) (h : j < 16) : ((bits i).map V.bl)[j]? = some (.bl (decide (i = j))) := by
  unfold bits
  rw [List.map_map, List.getElem?_map, List.getElem?_range h]
  rfl
theorem run_ex {X : Cx} {st : List Stmt} {pins : List (Addr × Obj)} {s : Shared} {σ : L2.St} {H : Hp} {D : Ends} (h : ∃ t, PSs X st t ∧ t D σ H) (I : Inv X pins σ H s) :
    wpAny (model X.prog X.w) X.A (execs st X.env) (SP X pins D) X.xe s := by
  obtain ⟨t, h1, h2⟩ := h
  exact h1.run pins s σ H D I h2

theorem sl_any {K : PySem.W.Frag} {H : Hp} {a : Addr} {xs : List V} {lo hi : Option Int} {R : VK} (hS : SqT K H a xs) (h : ∀ H' p, Same H H' → SqT K H' p (cutV xs lo hi) → R (.ref p) H') : rSlA K (.ref a) lo hi H R :=
  ⟨a, xs, rfl, hS, fun w => h H a (Same.refl _) (by rw [cut_whole w]; exact hS), fun _ p np => h _ p (same_upd np) (.inl (.inl upd_same))⟩
theorem cat_any {K : PySem.W.Frag} {H : Hp} {a b : Addr} {xs ys : List V} {R : VK} (ha : SqT K H a xs) (hb : SqT K H b ys) (hz : xs.length + ys.length ≤ 1000) (h : ∀ H' p, Same H H' → SqT K H' p (xs ++ ys) → R (.ref p) H') : rCatA K (.ref a) (.ref b) H R :=
  ⟨a, b, xs, ys, rfl, rfl, ha, hb, Nat.le_of_lt (small1000 hz), fun e => h H b (Same.refl _) (by rw [e]; exact hb), fun _ e => h H a (Same.refl _) (by rw [e, List.append_nil]; exact ha), fun _ _ p np => h _ p (same_upd np) (.inl (.inl upd_same))⟩
theorem Sd.st {k : Nat} {x : Str} (h : PyData.strOk x = true) : Sd k (.str x) := ⟨h, Nat.zero_le _⟩
theorem sd_mv (m : MV) : Sd 1 (mvD m) := Sd.tup fun e he => by
  rcases mem3 he with rfl | rfl | rfl <;> exact Sd.int _
theorem sd_bk (o : Option Int) : Sd 0 (bkD o) := by
  cases o with
  | none => exact Sd.none
  | some i => exact Sd.int i
theorem sd_ly (l : LY) : Sd 3 (lyD l) := Sd.tup fun e he => by
  rcases mem2 he with rfl | rfl
  · exact Sd.tup fun z hz => by
      obtain ⟨r, _, rfl⟩ := List.mem_map.mp hz
      exact sd_rw r
  · exact (sd_bk _).more (by omega)
theorem sd_win (x y : Int) (ms : List MV) : Sd 3 (winD x y ms) := Sd.tup fun e he => by
  rcases mem3 he with rfl | rfl | rfl
  · exact Sd.int _
  · exact Sd.int _
  · exact Sd.tup fun z hz => by
      obtain ⟨m, _, rfl⟩ := List.mem_map.mp hz
      exact sd_mv m
theorem sd_sh (ls : List LY) (x y : Int) (ms : List MV) : Sd 5 (shD ls x y ms) := Sd.tup fun e he => by
  rcases mem2 he with rfl | rfl
  · exact Sd.tup fun z hz => by
      obtain ⟨l, _, rfl⟩ := List.mem_map.mp hz
      exact sd_ly l
  · exact (sd_win x y ms).more (by omega)
/-- what met tells, as data -/
def toldD (d : PyData) : PyData := .tuple [.str "told", d]
def refD (i : Int) : PyData := .tuple [.str "refused", .int i]
def manyD (m n : Int) : PyData := .tuple [.str "many", .tuple [.int m, .int n]]
theorem sd_told {k : Nat} {d : PyData} (h : Sd k d) : Sd (k + 1) (toldD d) := Sd.tup fun e he => by
  rcases mem2 he with rfl | rfl
  · exact Sd.st (by decide +kernel)
  · exact h
theorem sd_ref (i : Int) : Sd 1 (refD i) := Sd.tup fun e he => by
  rcases mem2 he with rfl | rfl
  · exact Sd.st (by decide +kernel)
  · exact Sd.int i
theorem sd_many (m n : Int) : Sd 2 (manyD m n) := Sd.tup fun e he => by
  rcases mem2 he with rfl | rfl
  · exact Sd.st (by decide +kernel)
  · exact Sd.tup fun z hz => by rcases mem2 hz with rfl | rfl <;> exact Sd.int _
theorem told_dp {K : PySem.W.Frag} {H : Hp} {p : Addr} {v : V} {d : PyData} (h : SqT K H p [.str "told", v]) (hv : Dp K H v d) : Dp K H (.ref p) (toldD d) := .tup h (.cons (.str _) (.cons hv .nil))
theorem ref_dp {K : PySem.W.Frag} {H : Hp} {p : Addr} {i : Int} (h : SqT K H p [.str "refused", .int i]) : Dp K H (.ref p) (refD i) := .tup h (.cons (.str _) (.cons (.int i) .nil))
theorem many_dp {K : PySem.W.Frag} {H : Hp} {p q : Addr} {m n : Int} (h : SqT K H p [.str "many", .ref q]) (hq : SqT K H q [.int m, .int n]) : Dp K H (.ref p) (manyD m n) := .tup h (.cons (.str _) (.cons (.tup hq (.cons (.int m) (.cons (.int n) .nil))) .nil))
/-- != of two things of the same data -/
theorem ne_eqd {K : PySem.W.Frag} {H : Hp} {x y : V} {d : PyData} {Q : VK} (hx : Dp K H x d) (hy : Dp K H y d) (sd : ∃ k, Sd k d ∧ k ≤ 64) (q : Q (.bl false) H) : rNeD K x y H Q := by
  obtain ⟨k, s, hk⟩ := sd
  exact ne_same hx hy s hk q
/-- data that stands as long as the tuples do -/
def Dk (K : PySem.W.Frag) (H : Hp) (v : V) (d : PyData) : Prop := ∀ H', TKeep K H H' → Dp K H' v d
theorem Dk.keep {K : PySem.W.Frag} {H H' : Hp} {v : V} {d : PyData} (h : Dk K H v d) (k : TKeep K H H') : Dk K H' v d := fun H2 k2 => h H2 fun a xs z => k2 _ _ (k _ _ z)
theorem Dk.dp {K : PySem.W.Frag} {H : Hp} {v : V} {d : PyData} (h : Dk K H v d) : Dp K H v d := h H fun _ _ z => z
theorem ShAt.dk {K : PySem.W.Frag} {H : Hp} {v : V} {ls : List LY} {x y : Int} {ms : List MV} (h : ShAt K H v ls x y ms) : Dk K H v (shD ls x y ms) := fun H' k => (h.keep k).dp
theorem LyAt.dk {K : PySem.W.Frag} {H : Hp} {v : V} {l : LY} (h : LyAt K H v l) : Dk K H v (lyD l) := fun H' k => (LyAt.keep k h).dp
theorem told_dk {K : PySem.W.Frag} {H : Hp} {p : Addr} {v : V} {d : PyData} (h : SqT K H p [.str "told", v]) (hv : Dk K H v d) : Dk K H (.ref p) (toldD d) := fun H' k => told_dp (k _ _ h) (hv H' k)
theorem ref_dk {K : PySem.W.Frag} {H : Hp} {p : Addr} {i : Int} (h : SqT K H p [.str "refused", .int i]) : Dk K H (.ref p) (refD i) := fun H' k => ref_dp (k _ _ h)
theorem many_dk {K : PySem.W.Frag} {H : Hp} {p q : Addr} {m n : Int} (h : SqT K H p [.str "many", .ref q]) (hq : SqT K H q [.int m, .int n]) : Dk K H (.ref p) (manyD m n) := fun H' k => many_dp (k _ _ h) (k _ _ hq)
theorem pi_listK {X : Cx} {K : PySem.W.Frag} {tg l : Expr} {tl : TE} (hl : PE X l tl) (hK : X.K = K := by rfl) : PI X tg l (iList K tl) := by
  subst hK
  exact pi_list hl
theorem pi_tupK {X : Cx} {K : PySem.W.Frag} {tg l : Expr} {tl : TE} (hl : PE X l tl) (hK : X.K = K := by rfl) : PI X tg l (iTup K tl) := by
  subst hK
  exact pi_tup hl
/-- is not, of two truths -/
theorem op_notB {X : Cx} : OpR X (compareOp .IsNot) (fun x y H Q => ∃ a b, x = .bl a ∧ y = .bl b ∧ Q (.bl (!decide (a = b))) H) := by
  intro pins s σ H x y v u Q I rx ry h
  obtain ⟨a, b, rfl, rfl, q⟩ := h
  cases rx
  cases ry
  show wpAny _ _ ((isSame (Value.bool a) (Value.bool b)) >>= fun z => pure (Value.bool (!z))) _ _ s
  exact wpAny_bind (wpAny_isSame_plain rfl (wpAny_pure (fin_bl I q (by cases a <;> cases b <;> rfl))))

/-! ### a try whose body always refuses, the caught error kept in a name beyond the clause -/
/-- the context with one more thing that stands still -/
abbrev pnd (X : Cx) (p : Addr × Obj) : Cx := { X with pn := p :: X.pn }
theorem pnd_ok {X : Cx} {p : Addr × Obj} (ok : X.Ok) : (pnd X p).Ok := ok.toTry (p :: X.pn) X.xe
theorem inv_pnd {X : Cx} {p : Addr × Obj} {pins : List (Addr × Obj)} {σ : L2.St} {H : Hp} {s : Shared} (I : Inv X (p :: pins) σ H s) : Inv (pnd X p) pins σ H s :=
  ⟨pnd_ok I.ok, I.os, I.bare, I.base, I.loc, I.cell, I.free, I.freeC, fun q hq => I.pin q (by
    rcases List.mem_append.mp hq with h | h
    · rcases List.mem_cons.mp h with e | h
      · exact List.mem_append_right _ (by rw [e]; exact List.mem_cons_self)
      · exact List.mem_append_left _ h
    · exact List.mem_append_right _ (List.mem_cons_of_mem _ h)), I.hok, I.len⟩
theorem inv_unpnd {X : Cx} {p : Addr × Obj} {pins : List (Addr × Obj)} {σ : L2.St} {H : Hp} {s : Shared} (ok : X.Ok) (I : Inv (pnd X p) pins σ H s) : Inv X pins σ H s :=
  ⟨ok, I.os, I.bare, I.base, I.loc, I.cell, I.free, I.freeC, fun q hq => I.pin q (by
    rcases List.mem_append.mp hq with h | h
    · exact List.mem_append_left _ (List.mem_cons_of_mem _ h)
    · exact List.mem_append_right _ h), I.hok, I.len⟩
/-- behind the clause the caught one still stands -/
theorem inv_behind {X : Cx} {a : Addr} {oe : Obj} {pins pn' : List (Addr × Obj)} {σ : L2.St} {H : Hp} {s : Shared} (ok : X.Ok) (I : Inv (X.suite a ((a, oe) :: (X.pn ++ pins))) pn' σ H s) : Inv X ((a, oe) :: pins) σ H s :=
  ⟨ok, I.os, I.bare, I.base, I.loc, I.cell, I.free, I.freeC, fun q hq => I.pin q (List.mem_append_left _ (by
    rcases List.mem_append.mp hq with h | h
    · exact List.mem_cons_of_mem _ (List.mem_append_left _ h)
    · rcases List.mem_cons.mp h with e | h
      · rw [e]
        exact List.mem_cons_self
      · exact List.mem_cons_of_mem _ (List.mem_append_right _ h))), I.hok, I.len⟩
/-- no way goes on but by what is caught -/
def noEnds : Ends := { nx := fun _ _ => False, rt := fun _ _ => False, bk := fun _ _ => False, ct := fun _ _ => False }
/-- what is wished of a refusal: the clause takes it, its suite ends, and the rest is read with it -/
def wKeep (K : PySem.W.Frag) (c : Value) (i : Nat) (ts tr : Addr → Value → Option Addr → TS) (D : Ends) : WX := fun cls d σ H =>
  PySem.W.exmOne K cls c = some true ∧ ∀ a, H a = none → ts a cls d { noEnds with nx := fun σ' H' => tr a cls d D (σ'.set i none) H' } (σ.set i (some (.ref a))) H
section
variable {X : Cx} {x n : Str} {c : Value} {i : Nat} {body suite rest : List Stmt} {b₀ : Stmt} {np pos pos' : Pos} {tb : WX → TS} {ts tr : Addr → Value → Option Addr → TS}
theorem pss_keep (hs : X.stack = X.env :: X.outer) (hf : X.env.frame = some X.env.locals) (hN : X.N.Nodup) (hi : X.N[i]? = some n) (hln : X.env.kindOf n = some .local) (hc : Names X x c)
    (hb : ∀ (W : WX) (pn : List (Addr × Obj)) (xe : Value → Shared → Prop), Takes (X.tr pn xe) W → PSs (X.tr pn xe) body (tb W))
    (hsu : ∀ (a : Addr) (oe : Obj) (cls : Value) (d : Option Addr) (pn : List (Addr × Obj)), Zc cls d oe → (∃ vs, oe.data = .fields vs) → PSs (X.suite a ((a, oe) :: pn)) (b₀ :: suite) (ts a cls d))
    (hre : ∀ (a : Addr) (oe : Obj) (cls : Value) (d : Option Addr), Zc cls d oe → (∃ vs, oe.data = .fields vs) → PSs (pnd X (a, oe)) rest (tr a cls d)) :
    PSs X (.Try body [.ExceptHandler (some (.Name x np)) (some n) (b₀ :: suite) pos'] [] [] pos :: rest) (fun D σ H => tb (wKeep X.K c i ts tr D) noEnds σ H) := by
  refine ⟨fun pins s σ H D I h => wpAny_execs_cons (wpAny_Try_except ?_)⟩
  have ok := I.ok
  have frm : X.A.frames = some (X.env :: X.outer) := ok.frames.trans (congrArg some hs)
  refine wpAny_mono ((hb (wKeep X.K c i ts tr D) (X.pn ++ pins) _ fun u s' xx => ?_).run [] s σ H noEnds (I.toTry _) h) (fun f s1 z => ?_) (fun _ _ z => z)
  · obtain ⟨a, B, sI, _, σ1, H1, cls, d, rfl, J0, nb, up, sky, na, os, ag, take, go⟩ := xx
    have J : Inv X pins σ1 H1 sI := J0.ofTry ok
    rw [show (X.tr (X.pn ++ pins) _).stack = X.env :: X.outer from hs] at sky
    refine Sky.land Zc.steady frm hf sky fun hA flA upA => ?_
    have off : ∀ {hh : Heap}, HandSPX.FlyingZ B (X.env :: X.outer) a (Zc cls d) hh → a ≠ X.env.locals ∧ a ∉ X.fs ∧ ∃ oe, hh.get? a = some oe ∧ Zc cls d oe ∧ ∃ vs, oe.data = .fields vs := fun {hh} fl => by
      obtain ⟨oe, vs, e1, e2, e3⟩ := fl.there
      have nf : a ∉ frs (X.env :: X.outer) := fun m => by
        obtain ⟨_, o2, q1, q2⟩ := fl.2.2.1.mem m
        cases e1.symm.trans q1
        exact q2 _ e3
      refine ⟨fun q => nf (List.mem_filterMap.mpr ⟨X.env, List.mem_cons_self, hf.trans (congrArg some q.symm)⟩), fun m => nf ?_, oe, e1, e2, vs, e3⟩
      obtain ⟨en, m1, m2⟩ := List.mem_filterMap.mp m
      exact List.mem_filterMap.mpr ⟨en, List.mem_cons_of_mem _ m1, m2⟩
    obtain ⟨nL, nF, oA, eA, zA, vA, dA⟩ := off flA
    have JA : Inv X pins σ1 H1 { s' with heap := hA } := J.landed nb flA.1 (up.trans upA) os ag
    have SA := JA.suite eA dA na nL nF
    have tells : PySem.W.Looks (model X.prog X.w) hA (typeOf (.ref a)) cls := fun A Q E s k q => wpAny_typeOf_ref (k _ _ eA) (by rw [zA.1]; exact q)
    refine wpAny_handleBy_cons (codeAny_handlers_test ?_) (fun q => nomatch q)
    have named : ∀ {Q E : Value → Shared → Prop}, Q c { s' with heap := hA } → wpAny (model X.prog X.w) (X.A.mark (some (.ref a))) (eval (.Name x np) X.env) Q E { s' with heap := hA } := fun {Q E} q => by
      obtain ⟨g1, g2, g3⟩ := hc
      rcases g3 with m | ⟨m, b1, b2⟩
      · exact ld_glob (X := X.suite a ((a, oA) :: (X.pn ++ pins))) SA g1 m q g2
      · exact ld_blt (X := X.suite a ((a, oA) :: (X.pn ++ pins))) SA g1 m b1 q b2 g2
    refine named ((PySem.W.exm_one (M := model X.prog X.w) JA.kIn tells take).here ?_)
    refine codeAny_handlers_suite_as (HandSPX.lands_againZ flA fun hB flB upB => ?_)
    obtain ⟨_, _, oB, eB, zB, vB, dB⟩ := off flB
    have SB := (J.landed (s' := { s' with heap := hB }) nb flB.1 ((up.trans upA).trans upB) os ag).suite eB dB na nL nF
    refine store_ok (X := X.suite a ((a, oB) :: (X.pn ++ pins))) (v := .ref a) SB hN hi (.inl hln) rfl (fun sC SC => ?_) (.inr hln)
    refine wpAny_mono ((hsu a oB cls d (X.pn ++ pins) zB ⟨vB, dB⟩).run [] sC _ H1 _ SC (go a na)) (fun f sD z => ?_) (fun _ _ z => False.elim z)
    cases f with
    | next =>
      obtain ⟨σD, HD, ID, q⟩ := z
      refine gone_ok (inv_behind ok ID) hN hi hln fun sE IE => ?_
      refine wpAny_mono ((hre a oB cls d zB ⟨vB, dB⟩).run pins sE _ HD D (inv_pnd IE) q) (fun f sF z => ?_) (fun _ _ z => z)
      cases f with
      | next => exact z.imp fun _ z => z.imp fun _ z => ⟨inv_unpnd ok z.1, z.2⟩
      | brk => exact z.imp fun _ z => z.imp fun _ z => ⟨inv_unpnd ok z.1, z.2⟩
      | cont => exact z.imp fun _ z => z.imp fun _ z => ⟨inv_unpnd ok z.1, z.2⟩
      | ret u => exact z.imp fun _ z => z.imp fun _ z => z.imp fun _ z => ⟨inv_unpnd ok z.1, z.2⟩
    | brk => exact z.elim fun _ z => z.elim fun _ z => z.2.elim
    | cont => exact z.elim fun _ z => z.elim fun _ z => z.2.elim
    | ret u => exact z.elim fun _ z => z.elim fun _ z => z.elim fun _ z => z.2.2.elim
  · cases f with
    | next => exact z.elim fun _ z => z.elim fun _ z => z.2.elim
    | brk => exact z.elim fun _ z => z.elim fun _ z => z.2.elim
    | cont => exact z.elim fun _ z => z.elim fun _ z => z.2.elim
    | ret u => exact z.elim fun _ z => z.elim fun _ z => z.elim fun _ z => z.2.2.elim
end

/-! ### the end of a law that makes lambdas and calls repr -/
section
variable {P : Program} {w : World} {K : PySem.W.Frag} {mg : Str → Option Value}
theorem fun_okLG {base : Heap} {x qual : Str} {st : Stmt} {f cc : Addr} {fd : FuncData} {N ps : List Str} {k : Nat} {sp : Sp} (F : FunC K x qual st f fd cc) (S : FnScope N ps (defScope st)) (ln : ∀ vs H Q E, sp vs H Q E → vs.length = ps.length)
    (hbody : ∀ (A : Around) (outer : List Env) (s : Shared) (H : Hp) (vs : List V) (Q : VK) (E : XK), A.guards = some [] → Room k (A.deeper (envOfC qual (defScope st) s.heap.objs.size f (.ref cc))) → sp vs H Q E →
      ∃ t, PSs (cxOf CX0 P w K mg base N qual (defScope st) f (.ref cc) A outer s H E).nox (defBody st) t ∧ t { nx := fun _ H' => Q .non H', rt := Q } (L2.start N vs) H) : FnG P w K mg base (k + 1) f fd ps sp := by
  obtain ⟨oc, od, kV, doc, pm, an, ct, osl, e, l, c⟩ := F.ex
  have D : DefAt K x qual st f fd (.ref cc) := ⟨⟨kV, doc, pm, an, ct, e⟩, ⟨oc, od, osl, l⟩, c⟩
  refine ⟨ln, fun A outer s H args us vs Q E hgu hr e0 hb r hsp => D.call S hr.depth e0 hb fun s1 begun => ?_⟩
  obtain ⟨t, ht, hq⟩ := hbody A outer s H vs Q E hgu (hr.deeper _) hsp
  exact thn (ht.nox.run [] s1 _ H _ (inv_start S hr.hd e0 (ln _ _ _ _ hsp) r begun) hq) fun _ _ h => given_by rfl h
/-- the law's call from such a promise, the tables of its code objects told -/
theorem law_callGT {mb : Str → Option Value} {k : Nat} {fa a : Addr} {cs : List (Addr × Addr)} {fd : FuncData} {x : Str} {sp : Sp} {s₁ : Shared} {vs : List Value} {ns : List Int}
    (KX : K.In s₁.heap) (hns : s₁.heap.Ns mainGlobals mg) (hb : s₁.heap.Ns builtinsNs mb) (hbb : ∀ x : Str, x ≠ "__name__" → mb x = bootBuiltins x) (hlim : s₁.heap.NoLimit) (hge : s₁.gens = #[])
    (hT : ∀ p ∈ cs, s₁.heap.get? p.2 = some { cls := .none, data := .fields #[] }) (nT : ∀ p ∈ cs, K.lookup p.2 = none) (hC : ∀ p ∈ cs, PySem.W.CodeHd s₁.heap p.1 p.2)
    (hbm : ∃ (bm : Addr) (ob : Obj), mg "__builtins__" = some (.ref bm) ∧ bm ≠ builtinsNs ∧ s₁.heap.get? bm = some ob ∧ ob.cls = .type "module" ∧ ob.dict = some builtinsNs ∧ ob.data = .plain)
    (ha : s₁.heap.get? a = some { cls := .type "list", data := .seq vs.toArray }) (hi : IntsAre vs ns) (hl : ns.length ≤ sizeLine) (hr : Room k callerA)
    (F : ∀ base : Heap, K.In base → base.Ns mainGlobals mg → (∀ p ∈ cs, LamX.TabB base mg p.1 p.2) → FnG P w K mg base k fa fd [x] sp)
    (hbind : ∀ (s : Shared) (u : Value), BindsTo s fd ⟨[u], []⟩ [(x, u)])
    (hsp : ∀ H : Hp, (∀ p ∈ cs, H p.2 = some (.tbl #[])) → SqL K H a (ns.map V.int) → sp [.ref a] H (fun v _ => v = .bl true) fun _ _ _ => False) :
    codeAny (model P w) callerA (.call (.ref fa) ⟨[.ref a], []⟩)
      (fun r s' => r = .ok (.ret (.bool true)) ∧ OldK s₁.heap s'.heap ∧ s'.os = s₁.os ∧ AllBare s'.gens) s₁ := by
  have rv := vals_ints hi
  have lv := hi.length
  have tab : ∀ {b : Addr}, (∃ p ∈ cs, p.2 = b) → s₁.heap.get? b = some { cls := .none, data := .fields #[] } := fun {b} ⟨p, hp, e⟩ => e ▸ hT p hp
  have atab : ¬ ∃ p ∈ cs, p.2 = a := fun z => by
    have e := (tab z).symm.trans ha
    cases e
  have hex : ∃ H : Hp, (∀ b, (∃ p ∈ cs, p.2 = b) → H b = some (.tbl #[])) ∧ (K.lookup a = none → H a = some (.frz { cls := .type "list", data := .seq vs.toArray } (.lst (ns.map V.int)))) ∧
      ∀ b u, H b = some u → ((∃ p ∈ cs, p.2 = b) ∧ u = .tbl #[]) ∨ (b = a ∧ K.lookup a = none ∧ u = .frz { cls := .type "list", data := .seq vs.toArray } (.lst (ns.map V.int))) := by
    refine ⟨fun b => (open Classical in if ∃ p ∈ cs, p.2 = b then some (.tbl #[]) else if b = a ∧ K.lookup a = none then some (.frz { cls := .type "list", data := .seq vs.toArray } (.lst (ns.map V.int))) else none), fun b z => if_pos z, fun z => (if_neg atab).trans (if_pos ⟨rfl, z⟩), fun b u e => ?_⟩
    by_cases c1 : ∃ p ∈ cs, p.2 = b
    · exact .inl ⟨c1, (Option.some.inj ((if_pos c1).symm.trans e)).symm⟩
    · have e := (if_neg c1).symm.trans e
      by_cases c2 : b = a ∧ K.lookup a = none
      · exact .inr ⟨c2.1, c2.2, (Option.some.inj ((if_pos c2).symm.trans e)).symm⟩
      · cases (if_neg c2).symm.trans e
  obtain ⟨H, hHt, hHa, some_of⟩ := hex
  have none_of : ∀ {b o}, s₁.heap.get? b = some o → (∀ q n, o.data ≠ .seq q n) → o.data ≠ .fields #[] → H b = none := by
    intro b o e d1 d2
    cases c : H b with
    | none => rfl
    | some u =>
      rcases some_of b u c with ⟨z, _⟩ | ⟨z, _, _⟩
      · cases (tab z).symm.trans e
        exact absurd rfl d2
      · rw [z, ha] at e
        cases e
        exact absurd rfl (d1 _ _)
  have hS : SqL K H a (ns.map V.int) := by
    cases hk : K.lookup a with
    | none => exact .inl (.inr ⟨_, hHa hk⟩)
    | some o =>
      have e := KX a o hk
      rw [ha] at e
      cases e
      refine .inr ⟨_, vs.toArray, _, hk, rfl, rfl, rfl, ?_, by simpa using rv⟩
      rw [List.size_toArray, lv]
      exact hl
  have hok : HOk P w H s₁.heap := by
    intro b u e
    rcases some_of b u e with ⟨z, rfl⟩ | ⟨rfl, _, rfl⟩
    · exact tab z
    · refine ⟨ha, ?_, vs, _, rv, ha⟩
      rw [List.length_map]
      exact hl
  have nsB : ∀ {b : Addr} {m : Str → Option Value}, s₁.heap.Ns b m → (hidT s₁.heap H).Ns b m := by
    rintro b m ⟨o, es, ep, e, d, r⟩
    exact ⟨o, es, ep, hidT_get e (none_of e (fun q n z => by rw [d] at z; cases z) (fun z => by rw [d] at z; cases z)), d, r⟩
  have kB : K.In (hidT s₁.heap H) := by
    intro b o e
    refine hidT_get (KX b o e) ?_
    cases c : H b with
    | none => rfl
    | some u =>
      rcases some_of b u c with ⟨⟨p, hp, rfl⟩, _⟩ | ⟨rfl, k0, _⟩
      · rw [nT p hp] at e
        cases e
      · rw [k0] at e
        cases e
  have md : Mod K mg (hidT s₁.heap H) := by
    obtain ⟨mc, h1, h2⟩ := hlim
    exact ⟨kB, nsB hns, ⟨mb, nsB hb, hbb⟩, ⟨mc, nsB h1, h2⟩⟩
  have mainD : ∀ {b o}, s₁.heap.get? b = some o → (∀ es ep, o.data ≠ .dict es ep) → mainGlobals ≠ b := fun {b o} e d z => by
    obtain ⟨o', es, ep, e', d', _⟩ := hns
    rw [z, e] at e'
    cases e'
    exact d es ep d'
  have TB : ∀ p ∈ cs, LamX.TabB (hidT s₁.heap H) mg p.1 p.2 := fun p hp => by
    refine ⟨?_, ?_, mainD (hT p hp) (fun es ep z => nomatch z)⟩
    · obtain ⟨o, us, file, tf, flags, tg, inF, text, tt, e1, e2, e3, e4, e5⟩ := hC p hp
      refine ⟨o, us, file, tf, flags, tg, inF, text, tt, hidT_get e1 (none_of e1 (fun q n z => ?_) fun z => ?_), e2, e3, e4, e5⟩
      · rw [e3] at z
        cases z
      · rw [e3] at z
        cases z
        cases e4
    · obtain ⟨bm, ob, b1, b2, b3, b4, b5, b6⟩ := hbm
      refine ⟨bm, ob, b1, b2, (mainD b3 (fun es ep z => by rw [b6] at z; cases z)).symm, fun z => ?_, hidT_get b3 (none_of b3 (fun q n z => by rw [b6] at z; cases z) (fun z => by rw [b6] at z; cases z)), b4, b5, b6⟩
      rw [z, hT p hp] at b3
      cases b3
      cases b6
  have e0 : Env0 P w K mg (hidT s₁.heap H) callerA [] s₁ H := by
    refine ⟨rfl, md, fun b o e => of_hidT e, Nat.le_of_eq (hidT_size _ _), trivial, ?_, hok, .of_eq hge⟩
    intro b hb
    exact absurd (show b ∈ ([] : List Addr) from hb) (by simp)
  have go := (F _ kB (nsB hns) TB).run callerA [] s₁ H ⟨[.ref a], []⟩ [.ref a] [.ref a] _ _ rfl hr e0
    (hbind s₁ (.ref a)) (.cons rfl .nil) (hsp H (fun p hp => hHt p.2 ⟨p, hp, rfl⟩) hS)
  refine codeAny_mono go fun r s' h => ?_
  cases r with
  | error e => exact h.elim
  | ok fl =>
    cases fl with
    | ret u =>
      obtain ⟨v, H', os, bare, un, hok', r', qv⟩ := h
      have qv' : v = .bl true := qv
      subst qv'
      obtain rfl : u = Value.bool true := r'
      have each : ∀ b o, s₁.heap.get? b = some o → s'.heap.get? b = some o ∨ ((∃ p ∈ cs, p.2 = b) ∧ ∃ more : Array Value, s'.heap.get? b = some { cls := .none, data := .fields more }) := fun b o e => by
        cases c : H b with
        | none =>
          refine .inl (un.keep b o e c ?_ (by simp))
          intro z
          exact absurd (show b ∈ ([] : List Addr) from z) (by simp)
        | some u =>
          rcases some_of b u c with ⟨z, rfl⟩ | ⟨_, _, rfl⟩
          · obtain ⟨more, q⟩ := un.tbls b #[] c
            exact .inr ⟨z, _, hok' b _ q⟩
          · have c2 := un.frzs b _ _ c
            obtain ⟨e1, _⟩ := hok b _ c
            obtain ⟨e2, _⟩ := hok' b _ c2
            rw [e] at e1
            cases e1
            exact .inl e2
      refine ⟨rfl, ⟨fun b o e => ?_, fun b o e => ?_⟩, os, bare⟩
      · rcases each b o e with z | ⟨⟨p, hp, rfl⟩, more, z⟩
        · exact .inl z
        · cases e.symm.trans (hT p hp)
          exact .inr (.inl ⟨((hC p hp).tab (hT p hp)).isCodeTable, rfl, #[], more, rfl, by rw [Array.empty_append]; exact z⟩)
      · rcases each b o e with z | ⟨_, more, z⟩
        · exact ⟨_, z⟩
        · exact ⟨_, z⟩
    | next => exact False.elim h
    | brk => exact False.elim h
    | cont => exact False.elim h
end
/-- what is known of such a law at the head's heap -/
def LawAtG (l : PySem.W.OpenLaw) (w : World) (K : PySem.W.Frag) (k n : Nat) (x : Str) (mg : Str → Option Value) (fa : Addr) (h : Heap) : Prop :=
  ∃ (fd : FuncData) (cs : List (Addr × Addr)) (sp : Sp), (∀ p ∈ cs, h.get? p.2 = some { cls := .none, data := .fields #[] }) ∧ (∀ p ∈ cs, K.lookup p.2 = none) ∧ (∀ p ∈ cs, PySem.W.CodeHd h p.1 p.2) ∧ (∀ (s : Shared) (u : Value), BindsTo s fd ⟨[u], []⟩ [(x, u)]) ∧
    (∀ (H : Hp) (a : Addr) (ns : List Int), ns.length ≤ n → (∀ p ∈ cs, H p.2 = some (.tbl #[])) → SqL K H a (ns.map V.int) → sp [.ref a] H (fun v _ => v = .bl true) fun _ _ _ => False) ∧
    ∀ base : Heap, K.In base → base.Ns mainGlobals mg → (∀ p ∈ cs, LamX.TabB base mg p.1 p.2) → FnG l.prog w K mg base k fa fd [x] sp
theorem walk_ofLG {l : PySem.W.OpenLaw} {n k : Nat} {q : Program} {loose : List Str} {XP : (Str → Option Value) → Heap → Prop} {YP : World → Heap → Prop} {d : DefRec} {K : Params → PySem.W.Frag} {x : Str}
    (hn : l.most = some n) (hn2 : n ≤ sizeLine) (hdf : d.params.defaults = []) (hr : Room k callerA) (hY : ∀ (w : World) (h : Heap), YP w h → (K w.params).In h)
    (F : ∀ (w : World) (mg : Str → Option Value) (fa : Addr) (h : Heap), (K w.params).In h → h.Ns mainGlobals mg → mg d.name = some (.ref fa) → TabsIn q (K w.params) h → LawAtG l w (K w.params) k n x mg fa h) :
    PySem.W.WalkO q loose XP YP l.row.toRowW d [] (fun f vs => PySem.call f vs) := by
  refine Att.attach_callB hn hdf
    fun w s₀ s₁ mg mb fa o pm cd doc a vs ns G Y ho hd hcd hmg hobj hints hlen hbits hg => ?_
  have hK := hY w _ Y
  have tabs : TabsIn q (K w.params) s₁.heap := fun y c P hf ht => by
    obtain ⟨dL, hfd⟩ := Option.isSome_iff_exists.mp hf
    exact PySem.W.tab_of G.T hK hfd ht
  obtain ⟨fd, cs, sp, hT, nT, C, hb, hsp, hF⟩ := F w mg fa _ hK G.T.g hmg tabs
  exact law_callGT hK G.T.g G.T.b G.T.builtins G.T.nolimit hg hT nT C G.T.bmain hobj hints
    (Nat.le_trans hlen hn2) hr hF hb fun H hH hS => hsp H a ns hlen hH hS
/-- f(e, ..) where nothing is being shown -/
structure ClG (P : Program) (w : World) (K : PySem.W.Frag) (mg : Str → Option Value) (base : Heap) (k : Nat) (x : Str) (ps : List Str) (sp : Sp) : Prop where
  ex : ∃ (f : Addr) (fd : FuncData), FnG P w K mg base k f fd ps sp ∧ PySem.W.keepIn K (.ref f) = true ∧ Binds K fd ps [] ∧ mg x = some (.ref f)

/-! ### lengths of texts put together -/
theorem js_len {a b : Str} {m n : Nat} (ha : a.length ≤ m) (hb : b.length ≤ n) : (a ++ b).length ≤ m + n := by
  rw [strLen_append]
  omega
theorem js_ok {a : Str} {m : Nat} (ha : a.length ≤ m) (h : m ≤ 1000) : a.length ≤ sizeLine := Nat.le_trans ha (Nat.le_of_lt (small1000 h))
theorem it_len {i : Int} (h : i.natAbs ≤ 1000000000) : (Str.ofString (toString i)).length ≤ 60 ∧ i.natAbs.log2 < 1920 := by
  have hl : i.natAbs.log2 < 41 := by
    rcases Nat.eq_zero_or_pos i.natAbs with e | e
    · rw [e]
      decide
    · exact (Nat.log2_lt (by omega)).mpr (Nat.lt_of_le_of_lt h (by decide))
  have := int_text_length_le (a := i) (k := 41) (by decide) hl
  rw [PySem.ofString_length]
  omega

/-! ### texts of small numbers -/
open TL in
def tlS (x : Str) : List Nat := tl x
def nT (i : Int) : Str := Str.ofString (toString i)
def figs (z : Str) : Str := if Txt.startswith z "-" = true then cutS z (some 1) none else z
def numOk (i : Int) : Bool :=
  decide ((nT i).length ≤ 3) && (decide (intText? (nT i) = some i) && (((nT i).cps.toList.all fun c => c != 32 && (c != 44 && (c != 120 && c != 10))) && (Txt.isascii (figs (nT i)) && (Txt.isdigit (figs (nT i)) && (decide ((figs (nT i)).length ≤ 3) &&
    ((decide (nT i = "0") || (match atI (figs (nT i)).cps.toList 0 with | some c => decide ((⟨#[c]⟩ : Str) ≠ "0") | none => false)) && decide (nT i ≠ "-")))))))
theorem num_all : ∀ k : Nat, k < 45 → numOk ((k : Int) - 20) = true := by decide +kernel
structure NumF (i : Int) : Prop where
  len : (nT i).length ≤ 3
  int : intText? (nT i) = some i
  free : ∀ c ∈ TL.tl (nT i), c ≠ 32 ∧ c ≠ 44 ∧ c ≠ 120 ∧ c ≠ 10
  asc : Txt.isascii (figs (nT i)) = true
  dig : Txt.isdigit (figs (nT i)) = true
  flen : (figs (nT i)).length ≤ 3
  last : nT i = "0" ∨ ∃ c, atI (figs (nT i)).cps.toList 0 = some c ∧ (⟨#[c]⟩ : Str) ≠ "0"
  nd : nT i ≠ "-"
def Sm (i : Int) : Prop := -20 ≤ i ∧ i ≤ 24
theorem Sm.f {i : Int} (h : Sm i) : NumF i := by
  obtain ⟨h0, h1⟩ := h
  have e := num_all (i + 20).toNat (by omega)
  rw [show (((i + 20).toNat : Nat) : Int) - 20 = i by omega] at e
  unfold numOk at e
  simp only [Bool.and_eq_true, decide_eq_true_eq, List.all_eq_true, bne_iff_ne, Bool.or_eq_true] at e
  obtain ⟨e1, e2, e3, e4, e5, e6, e7, e8⟩ := e
  refine ⟨e1, e2, e3, e4, e5, e6, ?_, e8⟩
  rcases e7 with z | z
  · exact .inl z
  · right
    split at z
    · rename_i c hc
      exact ⟨c, hc, of_decide_eq_true z⟩
    · cases z
theorem log_small {i : Int} (h : Sm i) : i.natAbs.log2 < 1920 := (it_len (i := i) (by obtain ⟨a, b⟩ := h; omega)).2
/-! ### joined texts -/
def Free (c : Nat) (z : Str) : Prop := c ∉ TL.tl z
theorem mem_joinL {S : List Nat} {c : Nat} : ∀ {ps : List (List Nat)}, c ∈ TL.joinL S ps → c ∈ S ∨ ∃ p ∈ ps, c ∈ p
  | [], h => nomatch h
  | [p], h => .inr ⟨p, by simp, h⟩
  | p :: q :: r, h => by
    rcases List.mem_append.mp (show c ∈ p ++ (S ++ TL.joinL S (q :: r)) from h) with z | z
    · exact .inr ⟨p, by simp, z⟩
    · rcases List.mem_append.mp z with z | z
      · exact .inl z
      · rcases mem_joinL z with z | ⟨p', hp, hc⟩
        · exact .inl z
        · exact .inr ⟨p', List.mem_cons_of_mem _ hp, hc⟩
theorem tl_txt (y : Str) (ps : List Str) : TL.tl (Txt.join y ps) = TL.joinL (TL.tl y) (ps.map TL.tl) := by rw [TL.join_eq, TL.tl_join]
theorem free_join {c : Nat} {y : Str} {ps : List Str} (hy : Free c y) (h : ∀ p ∈ ps, Free c p) : Free c (Txt.join y ps) := fun z => by
  rw [tl_txt] at z
  rcases mem_joinL z with z | ⟨p, hp, hc⟩
  · exact hy z
  · obtain ⟨q, hq, rfl⟩ := List.mem_map.mp hp
    exact h q hq hc
theorem joinL_len {S : List Nat} : ∀ ps : List (List Nat), (TL.joinL S ps).length ≤ (ps.map (·.length)).sum + ps.length * S.length
  | [] => Nat.zero_le _
  | [p] => by
    show p.length ≤ _
    simp
  | p :: q :: r => by
    show (p ++ (S ++ TL.joinL S (q :: r))).length ≤ _
    have ih := joinL_len (S := S) (q :: r)
    rw [List.length_append, List.length_append, List.map_cons, List.sum_cons, List.length_cons, Nat.succ_mul]
    omega
theorem sum_le {B n : Nat} : ∀ {l : List Nat}, (∀ x ∈ l, x ≤ B) → l.sum ≤ l.length * B
  | [], _ => Nat.zero_le _
  | a :: t, h => by
    have ih := sum_le (B := B) (n := n) (l := t) fun x hx => h x (List.mem_cons_of_mem _ hx)
    have := h a (List.mem_cons_self ..)
    rw [List.sum_cons, List.length_cons, Nat.succ_mul]
    omega
theorem join_bound {y : Str} {ps : List Str} {B n : Nat} (hy : y.length ≤ 1) (hB : ∀ p ∈ ps, p.length ≤ B) (hn : ps.length ≤ n) : (ps.map (·.length)).sum + ps.length * y.length ≤ n * (B + 1) := by
  have s := sum_le (B := B) (n := n) (l := ps.map (·.length)) fun x hx => by
    obtain ⟨p, hp, rfl⟩ := List.mem_map.mp hx
    exact hB p hp
  rw [List.length_map] at s
  have a1 : ps.length * B ≤ n * B := Nat.mul_le_mul_right B hn
  have a2 : ps.length * y.length ≤ n * 1 := Nat.mul_le_mul hn hy
  rw [Nat.mul_add]
  omega
theorem join_len {y : Str} {ps : List Str} {B n : Nat} (hy : y.length ≤ 1) (hB : ∀ p ∈ ps, p.length ≤ B) (hn : ps.length ≤ n) : (Txt.join y ps).length ≤ n * (B + 1) := by
  refine Nat.le_trans ?_ (join_bound hy hB hn)
  rw [TL.len_tl, tl_txt]
  refine Nat.le_trans (joinL_len _) ?_
  rw [List.map_map, List.length_map, ← TL.len_tl]
  exact Nat.le_refl _
/-! ### a sheet's text -/
def mvT (m : MV) : Str := Txt.join "," [nT m.1, nT m.2.1, nT m.2.2]
def rwT (r : RW) : Str := Txt.join "x" [nT r.1, nT r.2]
def bkT : Option Int → Str
  | none => "-"
  | some b => nT b
def winW (x y : Int) (ms : List MV) : List Str := [("window" : Str), nT x, nT y] ++ ms.map mvT
def layW (l : LY) : List Str := [("layer" : Str), bkT l.2] ++ l.1.map rwT
def winT (x y : Int) (ms : List MV) : Str := Txt.join " " (winW x y ms)
def layT (l : LY) : Str := Txt.join " " (layW l)
def linT (ls : List LY) (x y : Int) (ms : List MV) : List Str := [winT x y ms] ++ ls.map layT
def shT (ls : List LY) (x y : Int) (ms : List MV) : Str := Txt.join "" ((linT ls x y ms).map fun z => z ++ "\n")
theorem vm_sm {m : MV} (h : VMove m) : Sm m.1 ∧ Sm m.2.1 ∧ Sm m.2.2 := by
  obtain ⟨⟨a, b⟩, ⟨c, d⟩, e, f⟩ := h
  exact ⟨⟨by omega, by omega⟩, ⟨by omega, by omega⟩, ⟨by omega, by omega⟩⟩
theorem vr_sm {r : RW} (h : VRow r) : Sm r.1 ∧ Sm r.2 := by
  obtain ⟨a, b, c, d⟩ := h
  exact ⟨⟨by omega, by omega⟩, ⟨by omega, by omega⟩⟩
theorem vb_sm {l : LY} (h : VLy l) {b : Int} (e : l.2 = some b) : Sm b := by
  have := h.2 b e
  have := h.1.1
  exact ⟨by omega, by omega⟩
theorem mv_parts {m : MV} (h : VMove m) : ∀ p ∈ [nT m.1, nT m.2.1, nT m.2.2], p.length ≤ 3 ∧ ∀ c ∈ TL.tl p, c ≠ 32 ∧ c ≠ 44 ∧ c ≠ 120 ∧ c ≠ 10 := fun p hp => by
  obtain ⟨a, b, c⟩ := vm_sm h
  rcases mem3 hp with rfl | rfl | rfl
  · exact ⟨a.f.len, a.f.free⟩
  · exact ⟨b.f.len, b.f.free⟩
  · exact ⟨c.f.len, c.f.free⟩
theorem rw_parts {r : RW} (h : VRow r) : ∀ p ∈ [nT r.1, nT r.2], p.length ≤ 3 ∧ ∀ c ∈ TL.tl p, c ≠ 32 ∧ c ≠ 44 ∧ c ≠ 120 ∧ c ≠ 10 := fun p hp => by
  obtain ⟨a, b⟩ := vr_sm h
  rcases mem2 hp with rfl | rfl
  · exact ⟨a.f.len, a.f.free⟩
  · exact ⟨b.f.len, b.f.free⟩
theorem free_of {z : Str} {c : Nat} (h : ∀ d ∈ TL.tl z, d ≠ 32 ∧ d ≠ 44 ∧ d ≠ 120 ∧ d ≠ 10) (hc : c = 32 ∨ c = 44 ∨ c = 120 ∨ c = 10) : Free c z := fun z => by
  obtain ⟨a, b, d, e⟩ := h c z
  omega
theorem mvT_f {m : MV} (h : VMove m) : (mvT m).length ≤ 12 ∧ Free 32 (mvT m) ∧ Free 10 (mvT m) :=
  ⟨join_len (n := 3) (B := 3) (by decide) (fun p hp => (mv_parts h p hp).1) (by show 3 ≤ 3; decide), free_join (by unfold Free; decide +kernel) fun p hp => free_of (mv_parts h p hp).2 (by omega), free_join (by unfold Free; decide +kernel) fun p hp => free_of (mv_parts h p hp).2 (by omega)⟩
theorem rwT_f {r : RW} (h : VRow r) : (rwT r).length ≤ 8 ∧ Free 32 (rwT r) ∧ Free 10 (rwT r) :=
  ⟨join_len (n := 2) (B := 3) (by decide) (fun p hp => (rw_parts h p hp).1) (by show 2 ≤ 2; decide), free_join (by unfold Free; decide +kernel) fun p hp => free_of (rw_parts h p hp).2 (by omega), free_join (by unfold Free; decide +kernel) fun p hp => free_of (rw_parts h p hp).2 (by omega)⟩
theorem bkT_f {l : LY} (h : VLy l) : (bkT l.2).length ≤ 3 ∧ Free 32 (bkT l.2) ∧ Free 10 (bkT l.2) := by
  cases e : l.2 with
  | none => exact ⟨by show ("-" : Str).length ≤ 3; decide, by show Free 32 "-"; unfold Free; decide +kernel, by show Free 10 "-"; unfold Free; decide +kernel⟩
  | some b =>
    have s := vb_sm h e
    exact ⟨s.f.len, free_of s.f.free (by omega), free_of s.f.free (by omega)⟩
theorem winW_f {x y : Int} {ms : List MV} (h : VWin x y ms) : ∀ p ∈ winW x y ms, p.length ≤ 12 ∧ Free 32 p ∧ Free 10 p := fun p hp => by
  rcases List.mem_append.mp hp with z | z
  · have sx : Sm x := ⟨by have := h.1; omega, by have := h.1; omega⟩
    have sy : Sm y := ⟨by have := h.2.1; omega, by have := h.2.1; omega⟩
    rcases mem3 z with rfl | rfl | rfl
    · exact ⟨by decide, by unfold Free; decide +kernel, by unfold Free; decide +kernel⟩
    · exact ⟨Nat.le_trans sx.f.len (by decide), free_of sx.f.free (by omega), free_of sx.f.free (by omega)⟩
    · exact ⟨Nat.le_trans sy.f.len (by decide), free_of sy.f.free (by omega), free_of sy.f.free (by omega)⟩
  · obtain ⟨m, hm, rfl⟩ := List.mem_map.mp z
    exact mvT_f (h.2.2.2 m hm)
theorem layW_f {l : LY} (h : VLy l) : ∀ p ∈ layW l, p.length ≤ 12 ∧ Free 32 p ∧ Free 10 p := fun p hp => by
  rcases List.mem_append.mp hp with z | z
  · rcases mem2 z with rfl | rfl
    · exact ⟨by decide, by unfold Free; decide +kernel, by unfold Free; decide +kernel⟩
    · exact ⟨Nat.le_trans (bkT_f h).1 (by decide), (bkT_f h).2⟩
  · obtain ⟨r, hr, rfl⟩ := List.mem_map.mp z
    have := rwT_f (h.1.2 r hr)
    exact ⟨Nat.le_trans this.1 (by decide), this.2⟩
theorem winW_len {x y : Int} {ms : List MV} (h : VWin x y ms) : (winW x y ms).length ≤ 11 := by
  unfold winW
  rw [List.length_append, List.length_map]
  have := h.2.2.1
  show 3 + ms.length ≤ 11
  omega
theorem layW_len {l : LY} (h : VLy l) : (layW l).length ≤ 11 := by
  unfold layW
  rw [List.length_append, List.length_map]
  have := h.1.1
  show 2 + l.1.length ≤ 11
  omega
theorem winT_f {x y : Int} {ms : List MV} (h : VWin x y ms) : (winT x y ms).length ≤ 143 ∧ Free 10 (winT x y ms) :=
  ⟨join_len (n := 11) (B := 12) (by decide) (fun p hp => (winW_f h p hp).1) (winW_len h), free_join (by unfold Free; decide +kernel) fun p hp => (winW_f h p hp).2.2⟩
theorem layT_f {l : LY} (h : VLy l) : (layT l).length ≤ 143 ∧ Free 10 (layT l) :=
  ⟨join_len (n := 11) (B := 12) (by decide) (fun p hp => (layW_f h p hp).1) (layW_len h), free_join (by unfold Free; decide +kernel) fun p hp => (layW_f h p hp).2.2⟩
theorem linT_f {ls : List LY} {x y : Int} {ms : List MV} (hl : VLays ls) (h : VWin x y ms) : ∀ p ∈ linT ls x y ms, p.length ≤ 143 ∧ Free 10 p := fun p hp => by
  rcases List.mem_append.mp hp with z | z
  · rw [List.mem_singleton.mp z]
    exact winT_f h
  · obtain ⟨l, hm, rfl⟩ := List.mem_map.mp z
    exact layT_f (hl.2.2 l hm)
theorem linT_len {ls : List LY} {x y : Int} {ms : List MV} (hl : VLays ls) : (linT ls x y ms).length ≤ 5 := by
  unfold linT
  rw [List.length_append, List.length_map]
  have := hl.2.1
  show 1 + ls.length ≤ 5
  omega
theorem win_split {x y : Int} {ms : List MV} (h : VWin x y ms) : Txt.split (winT x y ms) " " = winW x y ms :=
  TL.split_join (s := 32) (S := []) (by decide +kernel) (by decide +kernel) (by unfold winW; simp) fun p hp => (winW_f h p hp).2.1
theorem lay_split {l : LY} (h : VLy l) : Txt.split (layT l) " " = layW l :=
  TL.split_join (s := 32) (S := []) (by decide +kernel) (by decide +kernel) (by unfold layW; simp) fun p hp => (layW_f h p hp).2.1
theorem mv_split {m : MV} (h : VMove m) : Txt.split (mvT m) "," = [nT m.1, nT m.2.1, nT m.2.2] :=
  TL.split_join (s := 44) (S := []) (by decide +kernel) (by decide +kernel) (by simp) fun p hp => free_of (mv_parts h p hp).2 (by omega)
theorem rw_split {r : RW} (h : VRow r) : Txt.split (rwT r) "x" = [nT r.1, nT r.2] :=
  TL.split_join (s := 120) (S := []) (by decide +kernel) (by decide +kernel) (by simp) fun p hp => free_of (rw_parts h p hp).2 (by omega)
/-- each line with its end -/
theorem lines_end : ∀ {zs : List Str}, zs ≠ [] → Txt.join "" (zs.map fun z => z ++ "\n") = Txt.join "\n" zs ++ "\n" := fun {zs} hz => by
  refine TL.ext_tl ?_
  rw [tl_txt, TL.tl_append, tl_txt, List.map_map]
  have e : TL.tl ("" : Str) = [] := by decide +kernel
  have e1 : TL.tl ("\n" : Str) = [10] := by decide +kernel
  rw [e, e1]
  have f : (TL.tl ∘ fun z : Str => z ++ "\n") = fun z => TL.tl z ++ [10] := by
    funext z
    show TL.tl (z ++ "\n") = _
    rw [TL.tl_append, e1]
  rw [f]
  have go : ∀ l : List Str, l ≠ [] → TL.joinL [] (l.map fun z => TL.tl z ++ [10]) = TL.joinL [10] (l.map TL.tl) ++ [10] := fun l => by
    induction l with
    | nil => intro h; exact absurd rfl h
    | cons a t ih =>
      intro _
      cases t with
      | nil => rfl
      | cons b r =>
        have := ih (by simp)
        show (TL.tl a ++ [10]) ++ ([] ++ TL.joinL [] ((b :: r).map fun z => TL.tl z ++ [10])) = (TL.tl a ++ ([10] ++ TL.joinL [10] ((b :: r).map TL.tl))) ++ [10]
        rw [this]
        simp
  exact go zs hz
theorem ends_nl (z : Str) : Txt.endswith (z ++ "\n") "\n" = true := by
  have hl : (z ++ "\n").length = z.length + 1 := by
    rw [strLen_append]
    rfl
  have e1 : ("\n" : Str) = ⟨#[10]⟩ := by decide +kernel
  have h := (PySem.StrLaws.subAt_one (z ++ "\n") 10 z.length).mpr (by
    show (TL.tl (z ++ "\n"))[z.length]? = some 10
    rw [TL.tl_append, List.getElem?_append_right (by rw [TL.len_tl]; exact Nat.le_refl _), TL.len_tl, Nat.sub_self]
    decide +kernel)
  unfold Txt.endswith
  rw [hl, show (("\n" : Str)).length = 1 by decide, Nat.add_sub_cancel]
  rw [Bool.and_eq_true]
  refine ⟨decide_eq_true (by omega), ?_⟩
  have h2 := h.2
  rw [← e1] at h2
  exact h2
theorem cut_nl (z : Str) : cutS (z ++ "\n") none (some (-1)) = z := by
  refine TL.ext_tl ?_
  have hl : (z ++ "\n").length = z.length + 1 := by
    rw [strLen_append]
    rfl
  unfold cutS
  show ((TL.tl (z ++ "\n")).drop (HT.sIx (z ++ "\n").length 0 none)).take (HT.sIx (z ++ "\n").length (z ++ "\n").length (some (-1)) - HT.sIx (z ++ "\n").length 0 none) = TL.tl z
  rw [hl, TL.tl_append]
  have e1 : HT.sIx (z.length + 1) 0 none = 0 := rfl
  have e2 : HT.sIx (z.length + 1) (z.length + 1) (some (-1)) = z.length := by
    show (if (-1 : Int) < 0 then (-1 + ((z.length + 1 : Nat) : Int)).toNat else min (-1 : Int).toNat (z.length + 1)) = _
    rw [if_pos (by decide)]
    omega
  rw [e1, e2, List.drop_zero, Nat.sub_zero, TL.len_tl, List.take_left]
theorem shT_eq (ls : List LY) (x y : Int) (ms : List MV) : shT ls x y ms = Txt.join "\n" (linT ls x y ms) ++ "\n" := lines_end (by unfold linT; simp)
theorem lin_split {ls : List LY} {x y : Int} {ms : List MV} (hl : VLays ls) (h : VWin x y ms) : Txt.split (Txt.join "\n" (linT ls x y ms)) "\n" = linT ls x y ms :=
  TL.split_join (s := 10) (S := []) (by decide +kernel) (by decide +kernel) (by unfold linT; simp) fun p hp => (linT_f hl h p hp).2
theorem lin_len {ls : List LY} {x y : Int} {ms : List MV} (hl : VLays ls) (h : VWin x y ms) : (Txt.join "\n" (linT ls x y ms)).length ≤ 720 :=
  join_len (n := 5) (B := 143) (by decide) (fun p hp => (linT_f hl h p hp).1) (linT_len hl)

/-! ### things of whatever kind, as data -/
mutual
inductive Dg (K : PySem.W.Frag) (fx : Hp) (H : Hp) : Bool → V → PyData → Prop
  | non {b : Bool} : Dg K fx H b .non .none
  | bl {b : Bool} (x : Bool) : Dg K fx H b (.bl x) (.bool x)
  | int {b : Bool} (i : Int) : Dg K fx H b (.int i) (.int i)
  | str {b : Bool} (x : Str) : Dg K fx H b (.str x) (.str x)
  | tup {b : Bool} {a : Addr} {xs : List V} {ds : List PyData} : SqT K H a xs → DgAll K fx H b xs ds → Dg K fx H b (.ref a) (.tuple ds)
  | lst {a : Addr} {xs : List V} {ds : List PyData} : fx a = none → H a = some (.lst xs) → DgAll K fx H true xs ds → Dg K fx H true (.ref a) (.list ds)
  | dic0 {a : Addr} : fx a = none → H a = some (.dK []) → Dg K fx H false (.ref a) (.dict [])
  | dic1 {a : Addr} {k : Str} {i : Int} : fx a = none → H a = some (.dK [(Sum.inr k, .int i)]) → Dg K fx H false (.ref a) (.dict [(.str k, .int i)])
inductive DgAll (K : PySem.W.Frag) (fx : Hp) (H : Hp) : Bool → List V → List PyData → Prop
  | nil {b : Bool} : DgAll K fx H b [] []
  | cons {b : Bool} {v : V} {vs : List V} {d : PyData} {ds : List PyData} : Dg K fx H b v d → DgAll K fx H b vs ds → DgAll K fx H b (v :: vs) (d :: ds)
end
mutual
theorem Dg.kp {K : PySem.W.Frag} {fx : Hp} {H H' : Hp} (kt : TKeep K H H') (kb : ∀ b o, fx b = none → H b = some o → H' b = some o) : ∀ {b : Bool} {v : V} {d : PyData}, Dg K fx H b v d → Dg K fx H' b v d
  | _, _, _, .non => .non
  | _, _, _, .bl x => .bl x
  | _, _, _, .int i => .int i
  | _, _, _, .str x => .str x
  | _, _, _, .tup h q => .tup (kt _ _ h) (DgAll.kp kt kb q)
  | _, _, _, .lst n h q => .lst n (kb _ _ n h) (DgAll.kp kt kb q)
  | _, _, _, .dic0 n h => .dic0 n (kb _ _ n h)
  | _, _, _, .dic1 n h => .dic1 n (kb _ _ n h)
theorem DgAll.kp {K : PySem.W.Frag} {fx : Hp} {H H' : Hp} (kt : TKeep K H H') (kb : ∀ b o, fx b = none → H b = some o → H' b = some o) : ∀ {b : Bool} {v : List V} {d : List PyData}, DgAll K fx H b v d → DgAll K fx H' b v d
  | _, _, _, .nil => .nil
  | _, _, _, .cons h q => .cons (Dg.kp kt kb h) (DgAll.kp kt kb q)
end
theorem Dg.sm {K : PySem.W.Frag} {fx : Hp} {H H' : Hp} {b : Bool} {v : V} {d : PyData} (s : Same H H') (h : Dg K fx H b v d) : Dg K fx H' b v d := Dg.kp (Same.tk s) (fun a o _ e => s a o e) h
theorem Dg.gr {K : PySem.W.Frag} {fx : Hp} {st : Addr} {H H' : Hp} {b : Bool} {v : V} {d : PyData} (g : Gr st H H') (hs : IsSt H st) (hf : fx st ≠ none) (h : Dg K fx H b v d) : Dg K fx H' b v d := Dg.kp (g.tk hs) (fun b o hb e => g.1 b o (fun z => hf (by rw [← z]; exact hb)) e) h
theorem DgAll.gr {K : PySem.W.Frag} {fx : Hp} {st : Addr} {H H' : Hp} {b : Bool} {v : List V} {d : List PyData} (g : Gr st H H') (hs : IsSt H st) (hf : fx st ≠ none) (h : DgAll K fx H b v d) : DgAll K fx H' b v d := DgAll.kp (g.tk hs) (fun b o hb e => g.1 b o (fun z => hf (by rw [← z]; exact hb)) e) h
theorem Gr.free {st p : Addr} {H H' : Hp} (g : Gr st H H') (hs : IsSt H st) (np : H' p = none) : H p = none := by
  cases e : H p with
  | none => rfl
  | some o =>
    by_cases z : p = st
    · subst z
      obtain ⟨x, y, hx, _⟩ := g.2 hs
      rw [hx] at np
      cases np
    · rw [g.1 p o z e] at np
      cases np
theorem st_some {st : Addr} {H : Hp} (hs : IsSt H st) : H st ≠ none := by
  obtain ⟨x, y, hx, _⟩ := hs
  rw [hx]
  exact fun z => nomatch z
/-- a wider world knows more old places -/
theorem dg_dummy : True := trivial
theorem DgAll.sm {K : PySem.W.Frag} {fx : Hp} {H H' : Hp} {b : Bool} {v : List V} {d : List PyData} (s : Same H H') (h : DgAll K fx H b v d) : DgAll K fx H' b v d := DgAll.kp (Same.tk s) (fun a o _ e => s a o e) h
mutual
theorem Dg.wk {K : PySem.W.Frag} {fx fy H : Hp} (w : ∀ a, fx a = none → fy a = none) : ∀ {b : Bool} {v : V} {d : PyData}, Dg K fx H b v d → Dg K fy H b v d
  | _, _, _, .non => .non
  | _, _, _, .bl x => .bl x
  | _, _, _, .int i => .int i
  | _, _, _, .str x => .str x
  | _, _, _, .tup h q => .tup h (DgAll.wk w q)
  | _, _, _, .lst n h q => .lst (w _ n) h (DgAll.wk w q)
  | _, _, _, .dic0 n h => .dic0 (w _ n) h
  | _, _, _, .dic1 n h => .dic1 (w _ n) h
theorem DgAll.wk {K : PySem.W.Frag} {fx fy H : Hp} (w : ∀ a, fx a = none → fy a = none) : ∀ {b : Bool} {v : List V} {d : List PyData}, DgAll K fx H b v d → DgAll K fy H b v d
  | _, _, _, .nil => .nil
  | _, _, _, .cons h q => .cons (Dg.wk w h) (DgAll.wk w q)
end
theorem DgAll.len {K : PySem.W.Frag} {fx : Hp} {H : Hp} : ∀ {b : Bool} {vs : List V} {ds : List PyData}, DgAll K fx H b vs ds → vs.length = ds.length
  | _, _, _, .nil => rfl
  | _, _, _, .cons _ t => by rw [List.length_cons, List.length_cons, DgAll.len t]
theorem DgAll.at {K : PySem.W.Frag} {fx : Hp} {H : Hp} : ∀ {b : Bool} {vs : List V} {ds : List PyData} {i : Nat} {v : V}, DgAll K fx H b vs ds → vs[i]? = some v → ∃ d, ds[i]? = some d ∧ Dg K fx H b v d
  | _, _, _, i, v, .nil, h => by simp at h
  | _, _, _, 0, v, .cons a t, h => by
    have e : _ = v := Option.some.inj h
    subst e
    exact ⟨_, rfl, a⟩
  | _, _, _, i + 1, v, .cons a t, h => DgAll.at (i := i) t h
theorem DgAll.app {K : PySem.W.Frag} {fx : Hp} {H : Hp} {b : Bool} {ws : List V} {es : List PyData} (q : DgAll K fx H b ws es) : ∀ {vs : List V} {ds : List PyData}, DgAll K fx H b vs ds → DgAll K fx H b (vs ++ ws) (ds ++ es)
  | _, _, .nil => q
  | _, _, .cons a t => .cons a (DgAll.app q t)
theorem DgAll.tk {K : PySem.W.Frag} {fx : Hp} {H : Hp} {b : Bool} : ∀ (n : Nat) {vs : List V} {ds : List PyData}, DgAll K fx H b vs ds → DgAll K fx H b (vs.take n) (ds.take n)
  | 0, _, _, _ => .nil
  | _ + 1, _, _, .nil => .nil
  | n + 1, _, _, .cons a t => .cons a (DgAll.tk n t)
theorem DgAll.dr {K : PySem.W.Frag} {fx : Hp} {H : Hp} {b : Bool} : ∀ (n : Nat) {vs : List V} {ds : List PyData}, DgAll K fx H b vs ds → DgAll K fx H b (vs.drop n) (ds.drop n)
  | 0, _, _, q => q
  | _ + 1, _, _, .nil => .nil
  | n + 1, _, _, .cons _ t => DgAll.dr n t
/-! kinds -/
def tyn : PyData → String
  | .none => "NoneType"
  | .bool _ => "bool"
  | .int _ => "int"
  | .str _ => "str"
  | .list _ => "list"
  | .tuple _ => "tuple"
  | .dict _ => "dict"
def isB : PyData → Bool
  | .bool _ => true
  | _ => false
def isI : PyData → Bool
  | .bool _ => true
  | .int _ => true
  | _ => false
def isT : PyData → Bool
  | .tuple _ => true
  | _ => false
theorem Dg.ty {K : PySem.W.Frag} {fx : Hp} {H : Hp} {b : Bool} {v : V} {d : PyData} (h : Dg K fx H b v d) : TyX K H v (.type (tyn d)) := by
  cases h with
  | non => exact .base .non
  | bl x => exact .base (.bl x)
  | int i => exact .base (.int i)
  | str x => exact .base (.str x)
  | tup h q => exact tyT h
  | lst n h q => exact .base (.lst h)
  | dic0 n h => exact .base (.dK h)
  | dic1 n h => exact .base (.dK h)
theorem kB (d : PyData) : kitB (tyn d) "bool" = some (isB d) := by cases d <;> simp only [tyn, isB] <;> decide +kernel
theorem kI (d : PyData) : kitB (tyn d) "int" = some (isI d) := by cases d <;> simp only [tyn, isI] <;> decide +kernel
theorem kT (d : PyData) : kitB (tyn d) "tuple" = some (isT d) := by cases d <;> simp only [tyn, isT] <;> decide +kernel
def isW (d : PyData) (l m : Int) : Bool := match d with
  | .int n => decide (l ≤ n ∧ n ≤ m)
  | _ => false
def isTup (d : PyData) (l m : Int) : Bool := match d with
  | .tuple ds => decide (l ≤ (ds.length : Int) ∧ (ds.length : Int) ≤ m)
  | _ => false
def isRowD (d : PyData) : Bool := match d with
  | .tuple [a, b] => isW a 0 9 && isW b 1 24
  | _ => false
def bkOk (b : PyData) (n : Int) : Bool := match b with
  | .none => true
  | b => isW b 0 n
def isLayD (d : PyData) : Bool := match d with
  | .tuple [.tuple rs, b] => decide (rs.length ≤ 8) && rs.all isRowD && bkOk b ((rs.length : Int) - 1)
  | _ => false
def isSpotD (x y : PyData) : Bool := isW x (-20) 20 && isW y (-20) 20
def isMoveD (d : PyData) : Bool := match d with
  | .tuple [x, y, n] => isSpotD x y && isW n 0 24
  | _ => false
def isWinD (d : PyData) : Bool := match d with
  | .tuple [x, y, .tuple ms] => isSpotD x y && decide (ms.length ≤ 8) && ms.all isMoveD
  | _ => false
def isShD (d : PyData) : Bool := match d with
  | .tuple [.tuple ls, w] => decide (1 ≤ ls.length ∧ ls.length ≤ 4) && ls.all isLayD && isWinD w
  | _ => false
theorem three_of {α : Type} {xs : List α} (h : xs.length = 3) : ∃ a b c, xs = [a, b, c] := by
  match xs, h with
  | [a, b, c], _ => exact ⟨a, b, c, rfl⟩
theorem mv_no {d : PyData} (h : isTup d 3 3 = false) : isMoveD d = false := by
  unfold isMoveD
  split
  · simp [isTup] at h
  · rfl
theorem win_no {d : PyData} (h : isTup d 3 3 = false) : isWinD d = false := by
  unfold isWinD
  split
  · simp [isTup] at h
  · rfl
theorem win_no2 {x y m : PyData} (h : isTup m 0 8 = false) : isWinD (.tuple [x, y, m]) = false := by
  cases m with
  | tuple ms =>
    have h' : decide ((0 : Int) ≤ (ms.length : Int) ∧ (ms.length : Int) ≤ 8) = false := h
    have : ¬ ms.length ≤ 8 := fun z => by
      rw [decide_eq_true (show (0 : Int) ≤ (ms.length : Int) ∧ (ms.length : Int) ≤ 8 from ⟨by omega, by omega⟩)] at h'
      cases h'
    show (isSpotD x y && decide (ms.length ≤ 8) && ms.all isMoveD) = false
    rw [decide_eq_false this, Bool.and_false]
    rfl
  | _ => rfl
theorem win_eq {x y : PyData} {ms : List PyData} (h : ms.length ≤ 8) : isWinD (.tuple [x, y, .tuple ms]) = (isSpotD x y && ms.all isMoveD) := by
  show (isSpotD x y && decide (ms.length ≤ 8) && ms.all isMoveD) = _
  rw [decide_eq_true h, Bool.and_true]
theorem sh_no {d : PyData} (h : isTup d 2 2 = false) : isShD d = false := by
  unfold isShD
  split
  · simp [isTup] at h
  · rfl
theorem sh_no2 {l w : PyData} (h : isTup l 1 4 = false) : isShD (.tuple [l, w]) = false := by
  cases l with
  | tuple ls =>
    have h' : decide ((1 : Int) ≤ (ls.length : Int) ∧ (ls.length : Int) ≤ 4) = false := h
    have : ¬ (1 ≤ ls.length ∧ ls.length ≤ 4) := fun z => by
      rw [decide_eq_true (show (1 : Int) ≤ (ls.length : Int) ∧ (ls.length : Int) ≤ 4 from ⟨by omega, by omega⟩)] at h'
      cases h'
    show (decide (1 ≤ ls.length ∧ ls.length ≤ 4) && ls.all isLayD && isWinD w) = false
    rw [decide_eq_false this]
    rfl
  | _ => rfl
theorem sh_eq {ls : List PyData} {w : PyData} (h : 1 ≤ ls.length ∧ ls.length ≤ 4) : isShD (.tuple [.tuple ls, w]) = (ls.all isLayD && isWinD w) := by
  show (decide (1 ≤ ls.length ∧ ls.length ≤ 4) && ls.all isLayD && isWinD w) = _
  rw [decide_eq_true h, Bool.true_and]
/-! ### repr of things of whatever kind -/
section
variable {X : Cx} {pins : List (Addr × Obj)} {σ : L2.St} {H : Hp} {s : Shared}
theorem dic_reads (I : Inv X pins σ H s) {a : Addr} {kvs : List (Key × V)} (h : H a = some (.dK kvs)) : a ≠ sysModules ∧ ∃ o es ep vs, s.heap.get? a = some o ∧ o.cls = .type "dict" ∧ o.data = .dict es ep ∧ KV kvs vs ∧ Pairs (mixKind X.prog X.w) es.toList vs := by
  obtain ⟨_, hn, vs, kv, o, es, ep, h1, h2, h3, _, h5, _⟩ := (show ObjOk X.prog X.w H s.heap a (.dK kvs) from I.hok a _ h)
  exact ⟨fun e => by rw [e] at hn; simp at hn, o, es, ep, vs, h1, h2.1, h3, kv, h5⟩
mutual
theorem Dg.reads (I : Inv X pins σ H s) {fx : Hp} : ∀ {b : Bool} {v : V} {d : PyData} {u : Value}, Dg X.K fx H b v d → RelV v u → ∃ as, Reads s.heap u d as ∧ (b = true → d.hasDict = false) ∧ (b = false → sysModules ∉ as)
  | _, _, _, _, .non, r => by
    cases r
    exact ⟨_, Reads.none, fun _ => rfl, fun _ h => nomatch h⟩
  | _, _, _, _, .bl x, r => by
    cases r
    exact ⟨_, Reads.bool x, fun _ => rfl, fun _ h => nomatch h⟩
  | _, _, _, _, .int i, r => by
    obtain ⟨t, rfl⟩ := r
    exact ⟨_, Reads.int i t, fun _ => rfl, fun _ h => nomatch h⟩
  | _, _, _, _, .str x, r => by
    obtain ⟨t, rfl⟩ := r
    exact ⟨_, Reads.str x t, fun _ => rfl, fun _ h => nomatch h⟩
  | _, _, _, _, .tup h q, r => by
    cases r
    obtain ⟨its, rv, ⟨o, ho, hc, n, hd⟩, _⟩ := I.tuple h
    obtain ⟨as, hr, h1, h2⟩ := DgAll.reads I q rv
    exact ⟨_, Reads.tuple ho hc hd hr, h1, h2⟩
  | _, _, _, _, .lst _ h q, r => by
    cases r
    obtain ⟨its, rv, ⟨o, n, ho, hc, _, hd⟩, _⟩ := I.list (.inl (.inl h))
    obtain ⟨as, hr, h1, h2⟩ := DgAll.reads I q rv
    exact ⟨_, Reads.list ho hc hd hr, h1, fun z => nomatch z⟩
  | _, _, _, _, .dic0 (a := a) _ h, r => by
    cases r
    obtain ⟨hn, o, es, ep, vs, h1, h2, h3, kv, pr⟩ := dic_reads I h
    cases kv
    have e0 : es.toList = [] := by
      cases h' : es.toList with
      | nil => rfl
      | cons x r =>
        rw [h'] at pr
        cases pr
    refine ⟨a :: [] ++ [], Reads.dict h1 h2 h3 ?_ ?_, fun z => (Bool.false_ne_true z).elim, fun _ hm => hn ?_⟩
    · rw [e0]
      exact .nil
    · rw [e0]
      exact .nil
    · exact (List.mem_singleton.mp (by simpa using hm)).symm
  | _, _, _, _, .dic1 (a := a) (k := k) (i := i) _ h, r => by
    cases r
    obtain ⟨hn, o, es, ep, vs, h1, h2, h3, kv, pr⟩ := dic_reads I h
    obtain ⟨u, t, rfl, e1, e2⟩ : ∃ (u : Value) (t : Tok), vs = [(Sum.inr k, u)] ∧ u = .int i t ∧ True := by
      cases kv with
      | cons hh tt =>
        cases tt
        rename_i q
        obtain ⟨q1, q2⟩ := q
        obtain ⟨f1, t, f2⟩ := hh
        dsimp only at f1 f2
        subst f1 f2
        exact ⟨_, t, rfl, rfl, trivial⟩
    subst e1
    obtain ⟨e, hee, hk, hv⟩ : ∃ e : DictEntry, es.toList = [e] ∧ keyIs (Sum.inr k) e.key = true ∧ e.val = .int i t := by
      cases h' : es.toList with
      | nil =>
        rw [h'] at pr
        cases pr
      | cons x r =>
        rw [h'] at pr
        cases pr with
        | cons p1 p2 p3 =>
          cases p3
          exact ⟨x, rfl, p1, p2⟩
    obtain ⟨tk, hkk⟩ := keyIs_rel hk
    refine ⟨a :: ([] ++ []) ++ ([] ++ []), Reads.dict h1 h2 h3 ?_ ?_, fun z => (Bool.false_ne_true z).elim, fun _ hm => hn ?_⟩
    · rw [hee]
      show ReadsAll _ [e.key] [.str k] _
      rw [hkk]
      exact .cons (.str k tk) .nil
    · rw [hee]
      show ReadsAll _ [e.val] [.int i] _
      rw [hv]
      exact .cons (.int i t) .nil
    · exact (List.mem_singleton.mp (by simpa using hm)).symm
theorem DgAll.reads (I : Inv X pins σ H s) {fx : Hp} : ∀ {b : Bool} {vs : List V} {ds : List PyData} {us : List Value}, DgAll X.K fx H b vs ds → Vals vs us → ∃ as, ReadsAll s.heap us ds as ∧ (b = true → PyData.hasDictAll ds = false) ∧ (b = false → sysModules ∉ as)
  | _, _, _, _, .nil, r => by
    cases r
    exact ⟨_, ReadsAll.nil, fun _ => rfl, fun _ h => nomatch h⟩
  | _, _, _, _, .cons h q, r => by
    cases r with
    | cons r1 r2 =>
      obtain ⟨as, a1, a2, a3⟩ := Dg.reads I h r1
      obtain ⟨bs, b1, b2, b3⟩ := DgAll.reads I q r2
      refine ⟨_, ReadsAll.cons a1 b1, fun z => ?_, fun z hm => ?_⟩
      · show (_ || _) = false
        rw [a2 z, b2 z]
        rfl
      · rcases List.mem_append.mp hm with m | m
        · exact a3 z m
        · exact b3 z m
end
end
structure RQ (k w : Nat) (d : PyData) : Prop where
  sh : d.showable = true
  dp : d.depth ≤ k
  lv : d.leavesShort 40 = true
  wt : d.weight ≤ w
theorem RQ.fits {k w : Nat} {d : PyData} (h : RQ k w d) (hw : w ≤ 300000) : d.shown.length ≤ sizeLine := by
  have := PyData.shown_le 40 (by decide) d h.lv
  have := h.wt
  have e : sizeLine = 16777216 := by decide
  omega
theorem RQ.more {k w k' w' : Nat} {d : PyData} (h : RQ k w d) (h1 : k ≤ k') (h2 : w ≤ w') : RQ k' w' d := ⟨h.sh, Nat.le_trans h.dp h1, h.lv, Nat.le_trans h.wt h2⟩
theorem RQ.non : RQ 0 100 .none := ⟨rfl, Nat.le_refl _, rfl, Nat.zero_le _⟩
theorem RQ.bl (b : Bool) : RQ 0 100 (.bool b) := ⟨rfl, Nat.le_refl _, rfl, Nat.zero_le _⟩
theorem RQ.int {i : Int} (h : i.natAbs < 10 ^ 30) : RQ 0 100 (.int i) := by
  have hl : i.natAbs.log2 < 100 := by
    rcases Nat.eq_zero_or_pos i.natAbs with e | e
    · rw [e]
      decide
    · exact (Nat.log2_lt (by omega)).mpr (Nat.lt_trans h (by decide))
  refine ⟨decide_eq_true (by omega), Nat.le_refl _, decide_eq_true ?_, ?_⟩
  · show (Str.ofString (toString i)).length ≤ 40
    have := int_text_length_le10 (a := i) (k := 30) (by decide) h
    rw [show (Str.ofString (toString i)).length = (toString i).length from PyProof.Rows.ofString_len _]
    omega
  · show (if i == 0 then 0 else i.natAbs.log2 + 1) ≤ 100
    split <;> omega
theorem rq_all {k w : Nat} : ∀ {ds : List PyData}, (∀ e ∈ ds, RQ k w e) → PyData.showableAll ds = true ∧ PyData.depthAll ds ≤ k ∧ PyData.leavesShortAll 40 ds = true ∧ PyData.weightAll ds ≤ ds.length * (w + 1)
  | [], _ => ⟨rfl, Nat.zero_le _, rfl, Nat.zero_le _⟩
  | d :: t, h => by
    obtain ⟨a, c, e, f⟩ := rq_all (ds := t) fun x hx => h x (List.mem_cons_of_mem _ hx)
    have h1 := h d (List.mem_cons_self ..)
    refine ⟨?_, ?_, ?_, ?_⟩
    · show (d.showable && PyData.showableAll t) = true
      rw [h1.sh, a]
      rfl
    · show max d.depth (PyData.depthAll t) ≤ k
      exact Nat.max_le.mpr ⟨h1.dp, c⟩
    · show (d.leavesShort 40 && PyData.leavesShortAll 40 t) = true
      rw [h1.lv, e]
      rfl
    · show d.weight + 1 + PyData.weightAll t ≤ (t.length + 1) * (w + 1)
      have := h1.wt
      rw [Nat.add_mul, Nat.one_mul]
      omega
theorem RQ.tup {k w n : Nat} {ds : List PyData} (h : ∀ e ∈ ds, RQ k w e) (hn : ds.length * (w + 1) ≤ n) : RQ (k + 1) n (.tuple ds) := by
  obtain ⟨a, c, e, f⟩ := rq_all h
  exact ⟨a, Nat.succ_le_succ c, e, Nat.le_trans f hn⟩
theorem RQ.lst {k w n : Nat} {ds : List PyData} (h : ∀ e ∈ ds, RQ k w e) (hn : ds.length * (w + 1) ≤ n) : RQ (k + 1) n (.list ds) := by
  obtain ⟨a, c, e, f⟩ := rq_all h
  exact ⟨a, Nat.succ_le_succ c, e, Nat.le_trans f hn⟩
def rReprG (K : PySem.W.Frag) : List V → Hp → VK → Prop := fun xs H Q => ∃ (fx : Hp) (b : Bool) (v : V) (d : PyData) (S : Str), xs = [v] ∧ Dg K fx H b v d ∧ d.showable = true ∧ d.depth ≤ 30 ∧ d.shown.length ≤ sizeLine ∧ d.shown = S ∧ Q (.str S) H
theorem call_reprG {X : Cx} (hg : X.A.guards = some []) (hu : X.A.units + 64 < cLine) : CallR X (.builtin "repr") (rReprG X.K) := by
  intro pins s σ H xs us Q I r h
  obtain ⟨fx, b, v, d, S, rfl, hd, hs, hdep, hsz, hS, q⟩ := h
  subst hS
  obtain ⟨u, rfl, rx⟩ := vals1 r
  have big : ∀ a, v = .ref a → wpAny (model X.prog X.w) X.A (call (.builtin "repr") [u]) (EP X pins σ Q) X.xe s := by
    rintro a rfl
    cases (show u = Value.ref a from rx)
    obtain ⟨as, rd, h1, h2⟩ := Dg.reads I hd rfl
    refine repr_of_reads' rd hs (fun z hm => ?_) hg (by omega) (fun _ _ e => e) (fun h' u tk hk => ?_) hsz
    · cases b with
      | true =>
        rw [h1 rfl] at z
        cases z
      | false => exact h2 rfl hm
    · exact ⟨.str d.shown, H, I.kept hk, ⟨_, rfl⟩, q⟩
  cases hd with
  | non =>
    cases (show u = Value.none from rx)
    exact P.repr_of_none ⟨.str _, H, I.tok _, ⟨_, rfl⟩, q⟩
  | bl x =>
    cases (show u = Value.bool x from rx)
    refine P.repr_of_bool ⟨.str _, H, I.tok _, ⟨_, rfl⟩, ?_⟩
    cases x <;> exact q
  | int i =>
    obtain ⟨t, rfl⟩ := (show ∃ t, u = Value.int i t from rx)
    exact P.repr_of_int (of_decide_eq_true hs) ⟨.str _, H, I.tok _, ⟨_, rfl⟩, q⟩
  | str x =>
    obtain ⟨t, rfl⟩ := (show ∃ t, u = Value.str x t from rx)
    exact P.repr_of_str ⟨.str _, H, I.tok _, ⟨_, rfl⟩, q⟩ hsz
  | tup h q' => exact big _ rfl
  | lst n h q' => exact big _ rfl
  | dic0 n h => exact big _ rfl
  | dic1 n h => exact big _ rfl
/-! ### a tuple times nought, times one -/
theorem mul_one_meets (l : Addr) (items : Array Value) (n : Nat) (dd : Option Addr) (sl : Array (Option Value)) (u : Tok) :
    Meets (Builtin.«tuple.__mul__» ⟨[.ref l, .int 1 u], []⟩)
      (fun _ R s => s.heap.get? l = some { cls := .type "tuple", dict := dd, data := .seq items n, slots := sl } ∧ R (.ok (.ret (Value.ref l))) s) :=
  .of_wp fun prog w A R s h => by
    obtain ⟨hp, g, d, tk, os⟩ := s
    obtain ⟨hl, h⟩ := h
    have f1 := AutoSeq1.idx_int
    have c1 : (items.isEmpty || (1 : Int) == 1) = true := by simp
    wp_walk using wpAny_loadPart' hl
    repeat (first
      | (refine wpAny_ite_false (decide_eq_false (by decide)) ?_; wp_walk using wpAny_loadPart' hl)
      | (refine wpAny_ite_true (decide_eq_true c1) ?_; wp_walk using wpAny_loadPart' hl))
    exact ⟨_, rfl, h⟩
theorem mul_none_meets (l : Addr) (items : Array Value) (n : Nat) (dd : Option Addr) (sl : Array (Option Value)) (u : Tok) (hi : items.isEmpty = false) :
    Meets (Builtin.«tuple.__mul__» ⟨[.ref l, .int 0 u], []⟩)
      (fun _ R s => s.heap.get? l = some { cls := .type "tuple", dict := dd, data := .seq items n, slots := sl } ∧
        R (.ok (.ret (Value.ref s.heap.objs.size))) { s with heap := s.heap.push { cls := Value.type "tuple", data := Data.seq #[] }, toks := s.toks }) :=
  .of_wp fun prog w A R s h => by
    obtain ⟨hp, g, d, tk, os⟩ := s
    obtain ⟨hl, h⟩ := h
    have f1 := AutoSeq1.idx_int
    have c1 : ¬ (items.isEmpty || (0 : Int) == 1) = true := by rw [hi]; decide
    have c2 : (decide ((0 : Int) ≤ 0) || items.isEmpty) = true := by simp
    wp_walk using wpAny_loadPart' hl
    repeat (first
      | (refine wpAny_ite_false (decide_eq_false (by decide)) ?_; wp_walk using wpAny_loadPart' hl)
      | (refine wpAny_ite_false (decide_eq_false c1) ?_; wp_walk using wpAny_loadPart' hl)
      | (refine wpAny_ite_true (decide_eq_true c2) ?_; wp_walk using wpAny_loadPart' hl))
    exact ⟨_, rfl, h⟩
def rRepA (K : PySem.W.Frag) : R2 := fun x y H Q => ∃ l k xs, x = .ref l ∧ y = .int k ∧ SqT K H l xs ∧ xs ≠ [] ∧ xs.length ≤ 1000 ∧ 0 ≤ k ∧ k ≤ 1000 ∧ ∀ H' p, Same H H' → SqT K H' p (List.replicate k.toNat xs).flatten → Q (.ref p) H'
theorem op_repA {X : Cx} : OpR X (binaryOp .Mult) (rRepA X.K) := by
  intro pins s σ H x y v u Q I rx ry h
  obtain ⟨l, k, xs, rfl, rfl, hT, hne, hz, h0, h1, q⟩ := h
  by_cases h2 : 2 ≤ k
  · exact op_repT pins s σ H _ _ v u Q I rx ry ⟨l, k, xs, rfl, rfl, hT, hne, h2, h1, hz, fun p np => q _ p (same_upd np) (.inl (.inl upd_same))⟩
  · cases rx
    obtain ⟨t, rfl⟩ := ry
    obtain ⟨its, r, ⟨⟨cls, dd, data, sl⟩, ho, hc, n, hd⟩, hs⟩ := I.tuple hT
    simp only at hc hd
    subst hc hd
    rcases (by omega : k = 0 ∨ k = 1) with rfl | rfl
    · have hi : its.toArray.isEmpty = false := by
        cases its with
        | nil =>
          cases r
          exact absurd rfl hne
        | cons a b => rfl
      refine wpAny_binaryOp_repeat_ref (T := "tuple") (U := "int") (by decide) ⟨_, ho, rfl⟩ (fun s' => typeIs_int s' 0 t) noFill_tuple_mul
        F.fills_int_mul F.slot_int_rmul repeat_tuple F.slot_int_index.lookup (call_meets F.slot_int_rmul (typeIs_int s 0 t) F.entry_int_rmul (F.args_int_rmul_2 _ _)
          (int_rmul_tuple 0 t l its.toArray n dd sl) ⟨ho, rfl, ⟨_, ho, rfl⟩, call_meets F.slot_tuple_mul ⟨_, ho, rfl⟩ F.entry_tuple_mul (F.args_tuple_mul_2 _ _) (mul_none_meets l its.toArray n dd sl t hi) ⟨ho, ?_⟩⟩)
      have np := I.hok.fresh (Nat.le_refl s.heap.objs.size)
      refine ⟨.ref s.heap.objs.size, _, I.laid (t' := s.toks) (o := .tup []) (fun b ob e => Heap.get?_push_of_some _ e) (Nat.le_refl _) ?_, rfl, q _ _ (same_upd np) (.inl (.inl upd_same))⟩
      exact ⟨Nat.zero_le _, [], .nil, IsTup.new _ _⟩
    · refine wpAny_binaryOp_repeat_ref (T := "tuple") (U := "int") (by decide) ⟨_, ho, rfl⟩ (fun s' => typeIs_int s' 1 t) noFill_tuple_mul
        F.fills_int_mul F.slot_int_rmul repeat_tuple F.slot_int_index.lookup (call_meets F.slot_int_rmul (typeIs_int s 1 t) F.entry_int_rmul (F.args_int_rmul_2 _ _)
          (int_rmul_tuple 1 t l its.toArray n dd sl) ⟨ho, rfl, ⟨_, ho, rfl⟩, call_meets F.slot_tuple_mul ⟨_, ho, rfl⟩ F.entry_tuple_mul (F.args_tuple_mul_2 _ _) (mul_one_meets l its.toArray n dd sl t) ⟨ho, ?_⟩⟩)
      refine ⟨.ref l, H, I, rfl, q _ _ (Same.refl _) ?_⟩
      show SqT X.K H l (List.replicate 1 xs).flatten
      rw [show (List.replicate 1 xs).flatten = xs by simp]
      exact hT
theorem mkT {K : PySem.W.Frag} {fx : Hp} {p : Addr} {H : Hp} {b : Bool} {vs : List V} {ds : List PyData} (np : H p = none) (h : DgAll K fx H b vs ds) : Dg K fx (upd H p (.tup vs)) b (.ref p) (.tuple ds) := .tup (.inl (.inl upd_same)) (h.sm (same_upd np))
theorem mkL {K : PySem.W.Frag} {fx : Hp} {p : Addr} {H : Hp} {vs : List V} {ds : List PyData} (hf : fx p = none) (np : H p = none) (h : DgAll K fx H true vs ds) : Dg K fx (upd H p (.lst vs)) true (.ref p) (.list ds) := .lst hf upd_same (h.sm (same_upd np))
theorem RowAt.dg {K : PySem.W.Frag} {fx : Hp} {H : Hp} {b : Bool} {v : V} {r : RW} : RowAt K H v r → Dg K fx H b v (rwD r) := by
  rintro ⟨p, rfl, h⟩
  exact .tup h (.cons (.int _) (.cons (.int _) .nil))
theorem rows_dg {K : PySem.W.Frag} {fx : Hp} {H : Hp} {b : Bool} : ∀ {vs : List V} {rs : List RW}, Paired (RowAt K H) vs rs → DgAll K fx H b vs (rs.map rwD)
  | _, _, .nil => .nil
  | _, _, .cons r t => .cons r.dg (rows_dg t)
theorem bk_dg {K : PySem.W.Frag} {fx : Hp} {H : Hp} {b : Bool} (o : Option Int) : Dg K fx H b (bkV o) (bkD o) := by
  cases o with
  | none => exact .non
  | some i => exact .int i
theorem rq_row {r : RW} (h : VRow r) : RQ 2 1000 (rwD r) := by
  obtain ⟨h1, h2, h3, h4⟩ := h
  refine (RQ.tup (k := 0) (w := 100) (n := 202) (fun e he => ?_) (by show 2 * 101 ≤ 202; decide)).more (by decide) (by decide)
  have : e = .int r.1 ∨ e = .int r.2 := by simpa using he
  rcases this with rfl | rfl <;> exact RQ.int (Nat.lt_of_le_of_lt (show _ ≤ 100 by omega) (by decide))
theorem rq_bk {rs : List RW} {bk : Option Int} (v8 : rs.length ≤ 8) (h : VBack rs bk) : RQ 0 100 (bkD bk) := by
  cases bk with
  | none => exact RQ.non
  | some i =>
    have := h i rfl
    exact RQ.int (Nat.lt_of_le_of_lt (show _ ≤ 100 by omega) (by decide))
theorem rq_small {i : Int} (h : -1000 ≤ i ∧ i ≤ 1000) : RQ 0 100 (.int i) := RQ.int (Nat.lt_of_le_of_lt (show _ ≤ 1000 by omega) (by decide))
/-- what is told of rows and a back -/
theorem rq_top {ds : List PyData} {e : PyData} (h : ∀ x ∈ ds, RQ 2 1000 x) (hl : ds.length ≤ 10) (he : RQ 0 100 e) : RQ 5 40000 (.tuple [.tuple ds, e]) := by
  refine (RQ.tup (k := 3) (w := 10010) (n := 40000) (fun x hx => ?_) (by show 2 * 10011 ≤ 40000; decide)).more (by decide) (by decide)
  have : x = .tuple ds ∨ x = e := by simpa using hx
  rcases this with rfl | rfl
  · exact RQ.tup (k := 2) (w := 1000) h (by omega)
  · exact he.more (by decide) (by decide)
theorem MoveAt.dg {K : PySem.W.Frag} {fx : Hp} {H : Hp} {b : Bool} {v : V} {m : MV} : MoveAt K H v m → Dg K fx H b v (mvD m) := by
  rintro ⟨p, rfl, h⟩
  exact .tup h (.cons (.int _) (.cons (.int _) (.cons (.int _) .nil)))
theorem moves_dg {K : PySem.W.Frag} {fx : Hp} {H : Hp} {b : Bool} : ∀ {vs : List V} {ms : List MV}, Paired (MoveAt K H) vs ms → DgAll K fx H b vs (ms.map mvD)
  | _, _, .nil => .nil
  | _, _, .cons r t => .cons r.dg (moves_dg t)
theorem WinAt.dg {K : PySem.W.Frag} {fx : Hp} {H : Hp} {b : Bool} {v : V} {x y : Int} {ms : List MV} : WinAt K H v x y ms → Dg K fx H b v (winD x y ms) := by
  rintro ⟨p, mv, rfl, h, pm, vs, rfl, hq, pd⟩
  exact .tup h (.cons (.int _) (.cons (.int _) (.cons (.tup hq (moves_dg pd)) .nil)))
theorem LyAt.dg {K : PySem.W.Frag} {fx : Hp} {H : Hp} {b : Bool} {v : V} {l : LY} : LyAt K H v l → Dg K fx H b v (lyD l) := by
  rintro ⟨p, rv, rfl, h, pr, vs, rfl, hq, pd⟩
  exact .tup h (.cons (.tup hq (rows_dg pd)) (.cons (bk_dg _) .nil))
theorem lays_dg {K : PySem.W.Frag} {fx : Hp} {H : Hp} {b : Bool} : ∀ {vs : List V} {ls : List LY}, Paired (LyAt K H) vs ls → DgAll K fx H b vs (ls.map lyD)
  | _, _, .nil => .nil
  | _, _, .cons r t => .cons r.dg (lays_dg t)
theorem rq_mv {m : MV} (h : VMove m) : RQ 2 1000 (mvD m) := by
  obtain ⟨h1, h2, h3, h4⟩ := h
  refine (RQ.tup (k := 0) (w := 100) (n := 303) (fun e he => ?_) (by show 3 * 101 ≤ 303; decide)).more (by decide) (by decide)
  have : e = .int m.1 ∨ e = .int m.2.1 ∨ e = .int m.2.2 := by simpa using he
  rcases this with rfl | rfl | rfl <;> exact rq_small ⟨by omega, by omega⟩
theorem rq_ly {l : LY} (h : VLy l) : RQ 4 19000 (lyD l) := by
  obtain ⟨⟨h8, hr⟩, hb⟩ := h
  refine (RQ.tup (k := 3) (w := 9000) (n := 19000) (fun x hx => ?_) (by show 2 * 9001 ≤ 19000; decide)).more (by decide) (by decide)
  have : x = .tuple (l.1.map rwD) ∨ x = bkD l.2 := by simpa using hx
  rcases this with rfl | rfl
  · refine (RQ.tup (k := 2) (w := 1000) (n := 9000) (fun x hx => ?_) ?_)
    · obtain ⟨r, hm, rfl⟩ := List.mem_map.mp hx
      exact rq_row (hr r hm)
    · rw [List.length_map]
      omega
  · exact (rq_bk h8 hb).more (by decide) (by decide)
/-- three of a window, the last the moves -/
theorem rq_win {ds : List PyData} {e f : PyData} (h : ∀ x ∈ ds, RQ 2 1000 x) (hl : ds.length ≤ 10) (he : RQ 2 1000 e) (hf : RQ 2 1000 f) : RQ 5 40000 (.tuple [e, f, .tuple ds]) := by
  refine (RQ.tup (k := 3) (w := 10010) (n := 40000) (fun x hx => ?_) (by show 3 * 10011 ≤ 40000; decide)).more (by decide) (by decide)
  have : x = e ∨ x = f ∨ x = .tuple ds := by simpa using hx
  rcases this with rfl | rfl | rfl
  · exact he.more (by decide) (by decide)
  · exact hf.more (by decide) (by decide)
  · exact RQ.tup (k := 2) (w := 1000) h (by omega)
theorem lay_true {l : LY} (h : VLy l) : isLayD (lyD l) = true := by
  obtain ⟨⟨h8, hr⟩, hb⟩ := h
  show (decide ((l.1.map rwD).length ≤ 8) && (l.1.map rwD).all isRowD && bkOk (bkD l.2) (((l.1.map rwD).length : Int) - 1)) = true
  rw [List.length_map, decide_eq_true h8, Bool.true_and, Bool.and_eq_true]
  constructor
  · rw [List.all_eq_true]
    intro x hx
    obtain ⟨r, hm, rfl⟩ := List.mem_map.mp hx
    obtain ⟨h1, h2, h3, h4⟩ := hr r hm
    show (decide (0 ≤ r.1 ∧ r.1 ≤ 9) && decide (1 ≤ r.2 ∧ r.2 ≤ 24)) = true
    rw [decide_eq_true ⟨h1, h2⟩, decide_eq_true ⟨h3, h4⟩]
    rfl
  · cases e : l.2 with
    | none => rfl
    | some i =>
      have := hb i e
      show decide (0 ≤ i ∧ i ≤ (l.1.length : Int) - 1) = true
      exact decide_eq_true ⟨by omega, by omega⟩
theorem win_true {x y : Int} {ms : List MV} (h : VWin x y ms) : isWinD (winD x y ms) = true := by
  obtain ⟨hx, hy, h8, hm⟩ := h
  show (isSpotD (.int x) (.int y) && decide ((ms.map mvD).length ≤ 8) && (ms.map mvD).all isMoveD) = true
  rw [List.length_map, decide_eq_true h8]
  have e1 : isSpotD (.int x) (.int y) = true := by
    show (decide (-20 ≤ x ∧ x ≤ 20) && decide (-20 ≤ y ∧ y ≤ 20)) = true
    rw [decide_eq_true hx, decide_eq_true hy]
    rfl
  rw [e1, Bool.true_and, Bool.true_and, List.all_eq_true]
  intro d hd
  obtain ⟨m, hmm, rfl⟩ := List.mem_map.mp hd
  obtain ⟨h1, h2, h3, h4⟩ := hm m hmm
  show ((decide (-20 ≤ m.1 ∧ m.1 ≤ 20) && decide (-20 ≤ m.2.1 ∧ m.2.1 ≤ 20)) && decide (0 ≤ m.2.2 ∧ m.2.2 ≤ 24)) = true
  rw [decide_eq_true h1, decide_eq_true h2, decide_eq_true ⟨h3, h4⟩]
  rfl
theorem lays_true {ls : List LY} (h : ∀ l ∈ ls, VLy l) : (ls.map lyD).all isLayD = true := by
  rw [List.all_eq_true]
  intro d hd
  obtain ⟨l, hl, rfl⟩ := List.mem_map.mp hd
  exact lay_true (h l hl)

/-! ### texts made longer, turned about -/
section
variable {X : Cx}
def rMulS : R2 := fun x y H Q => ∃ (z : Str) (n : Int), x = .str z ∧ y = .int n ∧ MulOk z n ∧ Q (.str (Txt.mul z n)) H
theorem op_mulS : OpR X (binaryOp .Mult) rMulS := by
  intro pins s σ H x y v u Q I rx ry h
  obtain ⟨z, n, rfl, rfl, hok, q⟩ := h
  obtain ⟨t, rfl⟩ := rx
  obtain ⟨t', rfl⟩ := ry
  exact SB.mul hok fun t' k => ⟨.str (Txt.mul z n), H, I.tok _, ⟨_, rfl⟩, q⟩
/-- a text of two signs at most turned about: some text of two at most -/
def tRev (te : TE) (tst : TO) : TE := fun σ H Q => te σ H fun x H1 => tst σ H1 fun k H2 => k = some (-1) ∧ ∃ z : Str, x = .str z ∧ z.length ≤ 2 ∧ ∀ y : Str, y.length ≤ 2 → (∀ c ∈ y.cps.toList, c ∈ z.cps.toList) → Q (.str y) H2
theorem filt_len {α β : Type} (f : α → Option β) : ∀ l : List α, (l.filterMap f).length ≤ l.length
  | [] => Nat.le_refl _
  | a :: t => by
    have := filt_len f t
    cases e : f a with
    | none => rw [List.filterMap_cons_none e, List.length_cons]; omega
    | some b => rw [List.filterMap_cons_some e, List.length_cons, List.length_cons]; omega
theorem rev_len (z : Str) (h : z.length ≤ 2) {t : Tok} : (Str.mk ((slicePicked z none none (some (-1, t))).filterMap (z.cps[·]?)).toArray).length ≤ 2 := by
  show (((slicePicked z none none (some (-1, t))).filterMap (z.cps[·]?)).toArray).size ≤ 2
  rw [List.size_toArray]
  refine Nat.le_trans (filt_len _ _) ?_
  show (Builtin.Str.strSliceIndices none none (-1) z.length).length ≤ 2
  have : z.length = 0 ∨ z.length = 1 ∨ z.length = 2 := by omega
  rcases this with e | e | e <;> rw [e] <;> decide +kernel
theorem pe_rev {e st : Expr} {te : TE} {tst : TO} {p2 pos : Pos} (he : PE X e te) (hst : PO X (some st) tst) : PE X (.Subscript e (.Slice none none (some st) p2) pos) (tRev te tst) := by
  refine ⟨fun pins s σ H Q I h => ?_⟩
  refine Subscript_ (thn (he.run pins s σ H _ I h) fun v s1 ⟨x, H1, I1, r1, q1⟩ => ?_)
  refine wpAny_Slice ?_
  rw [evalPart_none]
  refine wpAny_pure (wpAny_pure ?_)
  refine thn (hst.run pins s1 σ H1 _ I1 q1) fun vk s2 ⟨k, H2, I2, pk, q2⟩ => ?_
  obtain ⟨rfl, z, rfl, hz, q⟩ := q2
  obtain ⟨t, rfl⟩ := r1
  obtain ⟨l, rfl, hl⟩ := IsPart.raw pk
  cases l with
  | none => cases hl
  | some l =>
    obtain ⟨i, ti⟩ := l
    obtain rfl : i = -1 := Option.some.inj hl
    have I4 : Inv X pins σ H2 { s2 with heap := s2.heap.push { cls := .type "slice", data := .fields #[.none, .none, .int (-1) ti] } } := I2.kept (t' := s2.toks) fun b ob q => Heap.get?_push_of_some _ q
    refine tail_any (T := "str") (ops := [.ref s2.heap.objs.size, .str z t]) (typeIs_str _ _ _) F.slot_str_getitem.lookup ?_ (by with_unfolding_all rfl)
    refine wpAny_getItem_str_slice (l := none) (u := none) (st := some (-1, ti)) ⟨_, Heap.get?_push_size _ rfl, rfl, rfl⟩ rfl ?_
    have e : sliceMade z t none none (some (-1, ti)) = Made.str ⟨((slicePicked z none none (some (-1, ti))).filterMap (z.cps[·]?)).toArray⟩ := rfl
    rw [e]
    have hy := rev_len z hz (t := ti)
    refine ⟨Nat.le_trans hy (by decide), .str _, H2, I4.tok _, ⟨_, rfl⟩, q _ hy fun c hc => ?_⟩
    obtain ⟨i, _, hi⟩ := List.mem_filterMap.mp hc
    exact List.mem_of_getElem? (by rw [Array.getElem?_toList]; exact hi)
end

/-! ### words that write numbers -/
open NumText in
def Gfig (z : Str) : Prop := TL.tl (figs z) ≠ [] ∧ AllDigits (TL.tl (figs z)) ∧ (z = "0" ∨ (TL.tl (figs z))[0]? ≠ some 48)
theorem tl0_iff {z : Str} {c : Nat} : (TL.tl z)[0]? = some c ↔ ∃ r, TL.tl z = c :: r := by
  cases TL.tl z with
  | nil => simp
  | cons a r => simp
theorem st_iff (z : Str) : Txt.startswith z "-" = true ↔ (TL.tl z)[0]? = some 45 := by
  have e1 : ("-" : Str) = ⟨#[45]⟩ := by decide +kernel
  unfold Txt.startswith
  rw [show (("-" : Str)).length = 1 by decide, Bool.and_eq_true, decide_eq_true_eq, e1]
  have := PySem.StrLaws.subAt_one z 45 0
  constructor
  · rintro ⟨a, b⟩
    exact this.mp ⟨a, b⟩
  · exact fun h => this.mpr h
theorem cut1_tl (z : Str) : TL.tl (cutS z (some 1) none) = (TL.tl z).drop 1 := by
  unfold cutS
  show ((TL.tl z).drop (HT.sIx z.length 0 (some 1))).take (HT.sIx z.length z.length none - HT.sIx z.length 0 (some 1)) = _
  rw [show HT.sIx z.length z.length none = z.length from rfl]
  have e : HT.sIx z.length 0 (some 1) = min 1 z.length := by
    show (if (1 : Int) < 0 then (1 + (z.length : Int)).toNat else min (1 : Int).toNat z.length) = _
    rw [if_neg (by decide)]
    rfl
  rw [e, TL.len_tl]
  by_cases h : 1 ≤ (TL.tl z).length
  · rw [Nat.min_eq_left h, List.take_of_length_le (by rw [List.length_drop]; exact Nat.le_refl _)]
  · have : TL.tl z = [] := List.eq_nil_of_length_eq_zero (by omega)
    rw [this]
    rfl
theorem hd_tl (z : Str) : TL.tl (cutS z none (some 1)) = (TL.tl z).take 1 := by
  unfold cutS
  show ((TL.tl z).drop (HT.sIx z.length 0 none)).take (HT.sIx z.length z.length (some 1) - HT.sIx z.length 0 none) = _
  rw [show HT.sIx z.length 0 none = 0 from rfl]
  have e : HT.sIx z.length z.length (some 1) = min 1 z.length := by
    show (if (1 : Int) < 0 then (1 + (z.length : Int)).toNat else min (1 : Int).toNat z.length) = _
    rw [if_neg (by decide)]
    rfl
  rw [e, TL.len_tl, List.drop_zero, Nat.sub_zero]
  by_cases h : 1 ≤ (TL.tl z).length
  · rw [Nat.min_eq_left h]
  · have : TL.tl z = [] := List.eq_nil_of_length_eq_zero (by omega)
    rw [this]
    rfl
theorem hd_iff (z : Str) : cutS z none (some 1) = "-" ↔ (TL.tl z)[0]? = some 45 := by
  have e1 : TL.tl ("-" : Str) = [45] := by decide +kernel
  constructor
  · intro h
    have := congrArg TL.tl h
    rw [hd_tl, e1] at this
    cases e : TL.tl z with
    | nil => rw [e] at this; cases this
    | cons a r => rw [e] at this; cases this; rfl
  · intro h
    refine TL.ext_tl ?_
    rw [hd_tl, e1]
    obtain ⟨r, hr⟩ := tl0_iff.mp h
    rw [hr]
    rfl
theorem figs_eq (z : Str) : figs z = if cutS z none (some 1) = "-" then cutS z (some 1) none else z := by
  unfold figs
  by_cases h : Txt.startswith z "-" = true
  · rw [if_pos h, if_pos ((hd_iff z).mpr ((st_iff z).mp h))]
  · rw [if_neg h, if_neg (fun e => h ((st_iff z).mpr ((hd_iff z).mp e)))]
theorem figs_or (z : Str) : (TL.tl z = 45 :: TL.tl (figs z) ∧ Txt.startswith z "-" = true) ∨ (figs z = z ∧ Txt.startswith z "-" = false) := by
  unfold figs
  by_cases h : Txt.startswith z "-" = true
  · left
    rw [if_pos h]
    obtain ⟨r, hr⟩ := tl0_iff.mp ((st_iff z).mp h)
    refine ⟨?_, h⟩
    rw [cut1_tl, hr]
    rfl
  · right
    rw [if_neg h]
    exact ⟨rfl, by cases e : Txt.startswith z "-" with | true => exact absurd e h | false => rfl⟩
theorem figs_len (z : Str) : (figs z).length ≤ z.length := by
  rw [TL.len_tl, TL.len_tl]
  rcases figs_or z with ⟨e, _⟩ | ⟨e, _⟩
  · rw [e, List.length_cons]; omega
  · rw [e]; exact Nat.le_refl _
theorem len_figs (z : Str) : z.length ≤ (figs z).length + 1 := by
  rw [TL.len_tl, TL.len_tl]
  rcases figs_or z with ⟨e, _⟩ | ⟨e, _⟩
  · rw [e, List.length_cons]; omega
  · rw [e]; omega
open NumText in
def iv (z : Str) : Int := if Txt.startswith z "-" = true then -((digitsVal (TL.tl (figs z)) : Nat) : Int) else ((digitsVal (TL.tl (figs z)) : Nat) : Int)
theorem iv_int {z : Str} (h : Gfig z) (hl : z.length ≤ 4300) : intText? z = some (iv z) := by
  unfold iv
  rcases figs_or z with ⟨e, s⟩ | ⟨e, s⟩
  · rw [if_pos s]
    exact intText_neg e h.2.1 h.1 hl
  · rw [if_neg (by rw [s]; decide)]
    rw [e]
    refine intText_digits ?_ ?_ hl
    · have := h.2.1
      rw [e] at this
      exact this
    · have := h.1
      rw [e] at this
      exact this
def fz : List Nat → Nat → Nat := fun l a => l.foldl (fun acc c => acc * 10 + (c - 48)) a
theorem fz_ge : ∀ (l : List Nat) (a : Nat), a ≤ fz l a
  | [], _ => Nat.le_refl _
  | c :: t, a => Nat.le_trans (by omega) (fz_ge t (a * 10 + (c - 48)))
open NumText in
theorem dv_le {cs : List Nat} (h : AllDigits cs) (hl : cs.length ≤ 2) : digitsVal cs ≤ 99 := by
  match cs, h, hl with
  | [], _, _ => decide
  | [a], h, _ =>
    have := h a (by simp)
    show (0 * 10 + (a - 48)) ≤ 99
    omega
  | [a, b], h, _ =>
    have := h a (by simp)
    have := h b (by simp)
    show ((0 * 10 + (a - 48)) * 10 + (b - 48)) ≤ 99
    omega
  | _ :: _ :: _ :: _, _, hl => simp at hl
open NumText in
theorem dv_ge {cs : List Nat} (h : AllDigits cs) (hl : 3 ≤ cs.length) (h0 : cs[0]? ≠ some 48) : 100 ≤ digitsVal cs := by
  match cs, h, hl, h0 with
  | a :: b :: c :: r, h, _, h0 =>
    have h1 := h a (by simp)
    have h2 : a ≠ 48 := fun e => h0 (by rw [e]; rfl)
    have := fz_ge r (((0 * 10 + (a - 48)) * 10 + (b - 48)) * 10 + (c - 48))
    show 100 ≤ fz r (((0 * 10 + (a - 48)) * 10 + (b - 48)) * 10 + (c - 48))
    omega
theorem ascdig (y : Str) : (Txt.isascii y = true ∧ Txt.isdigit y = true) ↔ (TL.tl y ≠ [] ∧ NumText.AllDigits (TL.tl y)) := by
  have hx : ∀ c : Nat, c < 128 → (Unicode.isDigit c = true ↔ 48 ≤ c ∧ c ≤ 57) := by
    have h : ∀ c : Nat, c < 128 → Unicode.isDigit c = (decide (48 ≤ c) && decide (c ≤ 57)) := by decide +kernel
    intro c hc
    rw [h c hc, Bool.and_eq_true, decide_eq_true_eq, decide_eq_true_eq]
  have ha : Txt.isascii y = true ↔ ∀ c ∈ TL.tl y, c < 128 := by
    unfold Txt.isascii
    rw [← Array.all_toList, List.all_eq_true]
    simp only [decide_eq_true_eq]
  have hd : Txt.isdigit y = true ↔ TL.tl y ≠ [] ∧ ∀ c ∈ TL.tl y, Unicode.isDigit c = true := by
    unfold Txt.isdigit
    rw [Bool.and_eq_true, decide_eq_true_eq, ← Array.all_toList, List.all_eq_true]
    refine and_congr ?_ Iff.rfl
    rw [TL.len_tl]
    constructor
    · intro h e
      rw [e] at h
      exact absurd h (by decide)
    · intro h
      exact List.length_pos_iff.mpr h
  rw [ha, hd]
  constructor
  · rintro ⟨a, b, c⟩
    exact ⟨b, fun d hd => (hx d (a d hd)).mp (c d hd)⟩
  · rintro ⟨b, c⟩
    refine ⟨fun d hd => ?_, b, fun d hd => ?_⟩
    · have := c d hd
      omega
    · have := c d hd
      exact (hx d (by omega)).mpr this
instance (z : Str) : Decidable (Gfig z) := by
  unfold Gfig NumText.AllDigits
  exact inferInstance
def wrN (z : Str) : Bool := decide (Gfig z ∧ (figs z).length ≤ 30)
def lok (z : Str) : Bool := decide (Gfig z ∧ (figs z).length ≤ 2)
def numV (z : Str) : V := if wrN z = true then .int (iv z) else .str z
def numD (z : Str) : PyData := if wrN z = true then .int (iv z) else .str z
def lnum (z : Str) : Int := if lok z = true then iv z else 999
theorem num_rel (z : Str) : (numD z = .int (lnum z) ∧ -99 ≤ lnum z ∧ lnum z ≤ 99) ∨ (lnum z = 999 ∧ (numD z = .str z ∨ ∃ i, numD z = .int i ∧ (i ≤ -100 ∨ 100 ≤ i))) := by
  unfold numD lnum
  by_cases h : lok z = true
  · left
    have g := of_decide_eq_true h
    have hw : wrN z = true := decide_eq_true ⟨g.1, Nat.le_trans g.2 (by decide)⟩
    rw [if_pos h, if_pos hw]
    refine ⟨rfl, ?_⟩
    have b := dv_le g.1.2.1 (by rw [← TL.len_tl]; exact g.2)
    unfold iv
    split <;> omega
  · right
    rw [if_neg h]
    refine ⟨rfl, ?_⟩
    by_cases hw : wrN z = true
    · right
      rw [if_pos hw]
      have g := of_decide_eq_true hw
      have l3 : 3 ≤ (figs z).length := by
        refine Nat.lt_of_not_le fun l => h (decide_eq_true ⟨g.1, l⟩)
      have nz : z ≠ "0" := fun e => by
        have := figs_len z
        rw [e] at this l3
        exact absurd (Nat.le_trans l3 this) (by decide)
      have b := dv_ge g.1.2.1 (by rw [← TL.len_tl]; exact l3) (g.1.2.2.resolve_left nz)
      refine ⟨iv z, rfl, ?_⟩
      unfold iv
      split
      · left; omega
      · right; omega
    · left
      rw [if_neg hw]
theorem numW (z : Str) {l h : Int} (hl : -99 ≤ l) (hh : h ≤ 99) : isW (numD z) l h = decide (l ≤ lnum z ∧ lnum z ≤ h) := by
  rcases num_rel z with ⟨e, _, _⟩ | ⟨e, e2 | ⟨i, e2, hi⟩⟩
  · rw [e]; rfl
  · rw [e2, e]
    exact (decide_eq_false (by omega)).symm
  · rw [e2, e]
    show decide (l ≤ i ∧ i ≤ h) = _
    rw [decide_eq_false (by omega), decide_eq_false (by omega)]
theorem numI (z : Str) {l h : Int} (hl : -99 ≤ l) (hh : h ≤ 99) (e : l ≤ lnum z ∧ lnum z ≤ h) : numD z = .int (lnum z) := by
  rcases num_rel z with ⟨e', _, _⟩ | ⟨e', _⟩
  · exact e'
  · omega

/-! ### what a text writes, by the program and by the law -/
def tupD (b z : Str) : PyData := .tuple ((Txt.split z b).map numD)
def winInD (z : Str) : PyData := match Txt.split z " " with
  | w0 :: w1 :: w2 :: ws => if w0 = "window" then .tuple [numD w1, numD w2, .tuple (ws.map (tupD ","))] else .none
  | _ => .none
def layInD (z : Str) : PyData := match Txt.split z " " with
  | w0 :: w1 :: ws => if w0 = "layer" then .tuple [.tuple (ws.map (tupD "x")), if w1 = "-" then .none else numD w1] else .none
  | _ => .none
def linD (ps : List Str) : PyData := match ps with
  | l0 :: ls => .tuple [.tuple (ls.map layInD), winInD l0]
  | [] => .none
def shInD (z : Str) : PyData := if Txt.endswith z "\n" = true then linD (Txt.split (cutS z none (some (-1))) "\n") else .none
def inB (n : Int) (b : RW) : Bool := decide (b.1 ≤ n ∧ n ≤ b.2)
def lnums (b : Str) (bs : List RW) (z : Str) : Option (List Int) := if ((Txt.split z b).length = bs.length ∧ ((((Txt.split z b).map lnum).zip bs).all fun p => inB p.1 p.2) = true) then some ((Txt.split z b).map lnum) else none
abbrev RB : List RW := [(0, 9), (1, 24)]
abbrev MB : List RW := [(-20, 20), (-20, 20), (0, 24)]
def rowW (z : Str) : RW := match lnums "x" RB z with
  | some [a, b] => (a, b)
  | _ => (0, 0)
def movW (z : Str) : MV := match lnums "," MB z with
  | some [a, b, c] => (a, b, c)
  | _ => (0, 0, 0)
theorem split1 {z : Str} {b : Str} : Txt.split z b ≠ [] := fun e => by
  have := split_pos z b
  rw [e] at this
  exact absurd this (by decide)
theorem row_rel (z : Str) : (∃ r : RW, isRowD (tupD "x" z) = true ∧ lnums "x" RB z = some [r.1, r.2] ∧ rowW z = r ∧ tupD "x" z = rwD r ∧ VRow r) ∨ (isRowD (tupD "x" z) = false ∧ lnums "x" RB z = none) := by
  unfold tupD rowW lnums
  generalize Txt.split z "x" = ps
  match ps with
  | [] => exact .inr ⟨rfl, rfl⟩
  | [_] => exact .inr ⟨rfl, rfl⟩
  | [a, b] =>
    have e : isRowD (.tuple ([a, b].map numD)) = (decide (0 ≤ lnum a ∧ lnum a ≤ 9) && decide (1 ≤ lnum b ∧ lnum b ≤ 24)) := by
      show (isW (numD a) 0 9 && isW (numD b) 1 24) = _
      rw [numW a (by decide) (by decide), numW b (by decide) (by decide)]
    have f : ((([a, b].map lnum).zip RB).all fun p => inB p.1 p.2) = (decide (0 ≤ lnum a ∧ lnum a ≤ 9) && (decide (1 ≤ lnum b ∧ lnum b ≤ 24) && true)) := rfl
    rw [Bool.and_true] at f
    by_cases h : (0 ≤ lnum a ∧ lnum a ≤ 9) ∧ (1 ≤ lnum b ∧ lnum b ≤ 24)
    · have t : (decide (0 ≤ lnum a ∧ lnum a ≤ 9) && decide (1 ≤ lnum b ∧ lnum b ≤ 24)) = true := by rw [decide_eq_true h.1, decide_eq_true h.2]; rfl
      rw [t] at e f
      refine .inl ⟨(lnum a, lnum b), e, if_pos ⟨rfl, f⟩, ?_, ?_, ⟨h.1.1, h.1.2, h.2.1, h.2.2⟩⟩
      · rw [if_pos ⟨rfl, f⟩]
        rfl
      · show PyData.tuple [numD a, numD b] = _
        rw [numI a (by decide) (by decide) h.1, numI b (by decide) (by decide) h.2]
        rfl
    · have t : (decide (0 ≤ lnum a ∧ lnum a ≤ 9) && decide (1 ≤ lnum b ∧ lnum b ≤ 24)) = false := by
        rw [Bool.and_eq_false_iff]
        by_cases h1 : 0 ≤ lnum a ∧ lnum a ≤ 9
        · exact .inr (decide_eq_false fun h2 => h ⟨h1, h2⟩)
        · exact .inl (decide_eq_false h1)
      rw [t] at e f
      exact .inr ⟨e, if_neg fun z => by rw [f] at z; cases z.2⟩
  | _ :: _ :: _ :: _ => exact .inr ⟨rfl, if_neg fun z => by simp at z⟩
theorem mov_rel (z : Str) : (∃ r : MV, isMoveD (tupD "," z) = true ∧ lnums "," MB z = some [r.1, r.2.1, r.2.2] ∧ movW z = r ∧ tupD "," z = mvD r ∧ VMove r) ∨ (isMoveD (tupD "," z) = false ∧ lnums "," MB z = none) := by
  unfold tupD movW lnums
  generalize Txt.split z "," = ps
  match ps with
  | [] => exact .inr ⟨rfl, rfl⟩
  | [_] => exact .inr ⟨rfl, rfl⟩
  | [_, _] => exact .inr ⟨rfl, rfl⟩
  | [a, b, c] =>
    have e : isMoveD (.tuple ([a, b, c].map numD)) = ((decide (-20 ≤ lnum a ∧ lnum a ≤ 20) && decide (-20 ≤ lnum b ∧ lnum b ≤ 20)) && decide (0 ≤ lnum c ∧ lnum c ≤ 24)) := by
      show ((isW (numD a) (-20) 20 && isW (numD b) (-20) 20) && isW (numD c) 0 24) = _
      rw [numW a (by decide) (by decide), numW b (by decide) (by decide), numW c (by decide) (by decide)]
    have f : ((([a, b, c].map lnum).zip MB).all fun p => inB p.1 p.2) = (decide (-20 ≤ lnum a ∧ lnum a ≤ 20) && (decide (-20 ≤ lnum b ∧ lnum b ≤ 20) && (decide (0 ≤ lnum c ∧ lnum c ≤ 24) && true))) := rfl
    rw [Bool.and_true, ← Bool.and_assoc] at f
    by_cases h : (-20 ≤ lnum a ∧ lnum a ≤ 20) ∧ (-20 ≤ lnum b ∧ lnum b ≤ 20) ∧ (0 ≤ lnum c ∧ lnum c ≤ 24)
    · have t : ((decide (-20 ≤ lnum a ∧ lnum a ≤ 20) && decide (-20 ≤ lnum b ∧ lnum b ≤ 20)) && decide (0 ≤ lnum c ∧ lnum c ≤ 24)) = true := by rw [decide_eq_true h.1, decide_eq_true h.2.1, decide_eq_true h.2.2]; rfl
      rw [t] at e f
      refine .inl ⟨(lnum a, lnum b, lnum c), e, if_pos ⟨rfl, f⟩, ?_, ?_, ⟨h.1, h.2.1, h.2.2⟩⟩
      · rw [if_pos ⟨rfl, f⟩]
        rfl
      · show PyData.tuple [numD a, numD b, numD c] = _
        rw [numI a (by decide) (by decide) h.1, numI b (by decide) (by decide) h.2.1, numI c (by decide) (by decide) h.2.2]
        rfl
    · have t : ((decide (-20 ≤ lnum a ∧ lnum a ≤ 20) && decide (-20 ≤ lnum b ∧ lnum b ≤ 20)) && decide (0 ≤ lnum c ∧ lnum c ≤ 24)) = false := by
        cases e1 : ((decide (-20 ≤ lnum a ∧ lnum a ≤ 20) && decide (-20 ≤ lnum b ∧ lnum b ≤ 20)) && decide (0 ≤ lnum c ∧ lnum c ≤ 24)) with
        | false => rfl
        | true =>
          simp only [Bool.and_eq_true, decide_eq_true_eq] at e1
          exact absurd ⟨e1.1.1, e1.1.2, e1.2⟩ h
      rw [t] at e f
      exact .inr ⟨e, if_neg fun z => by rw [f] at z; cases z.2⟩
  | _ :: _ :: _ :: _ :: _ => exact .inr ⟨rfl, if_neg fun z => by simp at z⟩
def allR (ws : List Str) : Bool := ws.all fun w => (lnums "x" RB w).isSome
def allM (ws : List Str) : Bool := ws.all fun w => (lnums "," MB w).isSome
theorem rows_rel : ∀ ws : List Str, (ws.map (tupD "x")).all isRowD = allR ws ∧ (allR ws = true → ws.map (tupD "x") = (ws.map rowW).map rwD ∧ ∀ r ∈ ws.map rowW, VRow r)
  | [] => ⟨rfl, fun _ => ⟨rfl, fun r hr => nomatch hr⟩⟩
  | w :: ws => by
    have ih := rows_rel ws
    show (isRowD (tupD "x" w) && (ws.map (tupD "x")).all isRowD) = ((lnums "x" RB w).isSome && allR ws) ∧ (((lnums "x" RB w).isSome && allR ws) = true → tupD "x" w :: ws.map (tupD "x") = rwD (rowW w) :: (ws.map rowW).map rwD ∧ ∀ r ∈ rowW w :: ws.map rowW, VRow r)
    rcases row_rel w with ⟨r, e1, e2, e3, e4, vr⟩ | ⟨e1, e2⟩
    · rw [e1, e2, ih.1]
      refine ⟨rfl, fun h => ?_⟩
      have h' : allR ws = true := h
      obtain ⟨a, b⟩ := ih.2 h'
      refine ⟨by rw [e4, e3, a], fun r' hr' => ?_⟩
      rcases List.mem_cons.mp hr' with rfl | z
      · rw [e3]; exact vr
      · exact b r' z
    · rw [e1, e2]
      exact ⟨rfl, fun h => nomatch h⟩
theorem movs_rel : ∀ ws : List Str, (ws.map (tupD ",")).all isMoveD = allM ws ∧ (allM ws = true → ws.map (tupD ",") = (ws.map movW).map mvD ∧ ∀ r ∈ ws.map movW, VMove r)
  | [] => ⟨rfl, fun _ => ⟨rfl, fun r hr => nomatch hr⟩⟩
  | w :: ws => by
    have ih := movs_rel ws
    show (isMoveD (tupD "," w) && (ws.map (tupD ",")).all isMoveD) = ((lnums "," MB w).isSome && allM ws) ∧ (((lnums "," MB w).isSome && allM ws) = true → tupD "," w :: ws.map (tupD ",") = mvD (movW w) :: (ws.map movW).map mvD ∧ ∀ r ∈ movW w :: ws.map movW, VMove r)
    rcases mov_rel w with ⟨r, e1, e2, e3, e4, vr⟩ | ⟨e1, e2⟩
    · rw [e1, e2, ih.1]
      refine ⟨rfl, fun h => ?_⟩
      have h' : allM ws = true := h
      obtain ⟨a, b⟩ := ih.2 h'
      refine ⟨by rw [e4, e3, a], fun r' hr' => ?_⟩
      rcases List.mem_cons.mp hr' with rfl | z
      · rw [e3]; exact vr
      · exact b r' z
    · rw [e1, e2]
      exact ⟨rfl, fun h => nomatch h⟩
def bkW (w : Str) : Option Int := if w = "-" then none else some (lnum w)
def bkL (o : Option Int) (n : Nat) : Bool := match o with
  | none => true
  | some b => decide (0 ≤ b ∧ b < (n : Int))
def llayW (ws : List Str) : Option LY := match ws with
  | w0 :: w1 :: ws => if (w0 = "layer" ∧ ws.length ≤ 8) ∧ allR ws = true ∧ bkL (bkW w1) ws.length = true then some (ws.map rowW, bkW w1) else none
  | _ => none
def llay (z : Str) : Option LY := llayW (Txt.split z " ")
theorem lay_rel (z : Str) : (∃ l : LY, isLayD (layInD z) = true ∧ llay z = some l ∧ layInD z = lyD l ∧ VLy l) ∨ (isLayD (layInD z) = false ∧ llay z = none) := by
  unfold layInD llay llayW
  generalize Txt.split z " " = ps
  match ps with
  | [] => exact .inr ⟨rfl, rfl⟩
  | [_] => exact .inr ⟨rfl, rfl⟩
  | w0 :: w1 :: ws =>
    show (∃ l : LY, isLayD (if w0 = "layer" then PyData.tuple [.tuple (ws.map (tupD "x")), if w1 = "-" then .none else numD w1] else .none) = true ∧ (if (w0 = "layer" ∧ ws.length ≤ 8) ∧ allR ws = true ∧ bkL (bkW w1) ws.length = true then some (ws.map rowW, bkW w1) else none) = some l ∧ (if w0 = "layer" then PyData.tuple [.tuple (ws.map (tupD "x")), if w1 = "-" then .none else numD w1] else .none) = lyD l ∧ VLy l) ∨
      (isLayD (if w0 = "layer" then PyData.tuple [.tuple (ws.map (tupD "x")), if w1 = "-" then .none else numD w1] else .none) = false ∧ (if (w0 = "layer" ∧ ws.length ≤ 8) ∧ allR ws = true ∧ bkL (bkW w1) ws.length = true then some (ws.map rowW, bkW w1) else none) = none)
    by_cases h0 : w0 = "layer"
    · rw [if_pos h0]
      obtain ⟨ra, rb⟩ := rows_rel ws
      have eL : isLayD (PyData.tuple [.tuple (ws.map (tupD "x")), if w1 = "-" then .none else numD w1]) = (decide (ws.length ≤ 8) && allR ws && bkOk (if w1 = "-" then .none else numD w1) ((ws.length : Int) - 1)) := by
        show (decide ((ws.map (tupD "x")).length ≤ 8) && (ws.map (tupD "x")).all isRowD && bkOk (if w1 = "-" then .none else numD w1) (((ws.map (tupD "x")).length : Int) - 1)) = _
        rw [ra, List.length_map]
      by_cases h8 : ws.length ≤ 8
      · have eB : bkOk (if w1 = "-" then .none else numD w1) ((ws.length : Int) - 1) = bkL (bkW w1) ws.length := by
          unfold bkW
          by_cases h1 : w1 = "-"
          · rw [if_pos h1, if_pos h1]; rfl
          · rw [if_neg h1, if_neg h1]
            have e : bkOk (numD w1) ((ws.length : Int) - 1) = isW (numD w1) 0 ((ws.length : Int) - 1) := by
              unfold numD
              split <;> rfl
            rw [e, numW w1 (by decide) (by omega)]
            show _ = decide (0 ≤ lnum w1 ∧ lnum w1 < (ws.length : Int))
            congr 1
            rw [eq_iff_iff]
            constructor <;> (intro h; omega)
        rw [eB, decide_eq_true h8, Bool.true_and] at eL
        by_cases hg : allR ws = true ∧ bkL (bkW w1) ws.length = true
        · refine .inl ⟨_, by rw [eL, hg.1, hg.2]; rfl, if_pos ⟨⟨h0, h8⟩, hg⟩, ?_, ⟨⟨by rw [List.length_map]; exact h8, (rb hg.1).2⟩, ?_⟩⟩
          · rw [(rb hg.1).1]
            show PyData.tuple [.tuple ((ws.map rowW).map rwD), _] = .tuple [.tuple ((ws.map rowW).map rwD), bkD (bkW w1)]
            congr 3
            have hb := hg.2
            unfold bkW at hb ⊢
            by_cases h1 : w1 = "-"
            · rw [if_pos h1, if_pos h1]; rfl
            · rw [if_neg h1] at hb
              rw [if_neg h1, if_neg h1]
              have hb' := of_decide_eq_true hb
              exact numI w1 (l := 0) (h := 99) (by decide) (by decide) ⟨hb'.1, by omega⟩
          · intro i hi
            have hb := hg.2
            rw [show bkW w1 = some i from hi] at hb
            have hb' := of_decide_eq_true hb
            show 0 ≤ i ∧ i < ((ws.map rowW).length : Int)
            rw [List.length_map]
            exact hb'
        · refine .inr ⟨?_, if_neg fun z => hg z.2⟩
          rw [eL]
          cases e1 : allR ws with
          | false => rfl
          | true =>
            cases e2 : bkL (bkW w1) ws.length with
            | false => rfl
            | true => exact absurd ⟨e1, e2⟩ hg
      · refine .inr ⟨?_, if_neg fun z => h8 z.1.2⟩
        rw [eL, decide_eq_false h8]
        rfl
    · rw [if_neg h0]
      exact .inr ⟨rfl, if_neg fun z => h0 z.1.1⟩

def lwinW (ws : List Str) : Option (Int × Int × List MV) := match ws with
  | w0 :: w1 :: w2 :: ws => if (w0 = "window" ∧ ws.length ≤ 8) ∧ allM ws = true ∧ inB (lnum w1) (-20, 20) = true ∧ inB (lnum w2) (-20, 20) = true then some (lnum w1, lnum w2, ws.map movW) else none
  | _ => none
def lwin (z : Str) : Option (Int × Int × List MV) := lwinW (Txt.split z " ")
theorem win_rel (z : Str) : (∃ x y ms, isWinD (winInD z) = true ∧ lwin z = some (x, y, ms) ∧ winInD z = winD x y ms ∧ VWin x y ms) ∨ (isWinD (winInD z) = false ∧ lwin z = none) := by
  unfold winInD lwin lwinW
  generalize Txt.split z " " = ps
  match ps with
  | [] => exact .inr ⟨rfl, rfl⟩
  | [_] => exact .inr ⟨rfl, rfl⟩
  | [_, _] => exact .inr ⟨rfl, rfl⟩
  | w0 :: w1 :: w2 :: ws =>
    show (∃ x y ms, isWinD (if w0 = "window" then PyData.tuple [numD w1, numD w2, .tuple (ws.map (tupD ","))] else .none) = true ∧ (if (w0 = "window" ∧ ws.length ≤ 8) ∧ allM ws = true ∧ inB (lnum w1) (-20, 20) = true ∧ inB (lnum w2) (-20, 20) = true then some (lnum w1, lnum w2, ws.map movW) else none) = some (x, y, ms) ∧ (if w0 = "window" then PyData.tuple [numD w1, numD w2, .tuple (ws.map (tupD ","))] else .none) = winD x y ms ∧ VWin x y ms) ∨
      (isWinD (if w0 = "window" then PyData.tuple [numD w1, numD w2, .tuple (ws.map (tupD ","))] else .none) = false ∧ (if (w0 = "window" ∧ ws.length ≤ 8) ∧ allM ws = true ∧ inB (lnum w1) (-20, 20) = true ∧ inB (lnum w2) (-20, 20) = true then some (lnum w1, lnum w2, ws.map movW) else none) = none)
    by_cases h0 : w0 = "window"
    · rw [if_pos h0]
      obtain ⟨ra, rb⟩ := movs_rel ws
      have eL : isWinD (PyData.tuple [numD w1, numD w2, .tuple (ws.map (tupD ","))]) = ((inB (lnum w1) (-20, 20) && inB (lnum w2) (-20, 20)) && decide (ws.length ≤ 8) && allM ws) := by
        show ((isW (numD w1) (-20) 20 && isW (numD w2) (-20) 20) && decide ((ws.map (tupD ",")).length ≤ 8) && (ws.map (tupD ",")).all isMoveD) = _
        rw [ra, List.length_map, numW w1 (by decide) (by decide), numW w2 (by decide) (by decide)]
        rfl
      by_cases hg : ws.length ≤ 8 ∧ allM ws = true ∧ inB (lnum w1) (-20, 20) = true ∧ inB (lnum w2) (-20, 20) = true
      · obtain ⟨h8, ha, b1, b2⟩ := hg
        have c1 := of_decide_eq_true b1
        have c2 := of_decide_eq_true b2
        refine .inl ⟨_, _, _, by rw [eL, b1, b2, ha, decide_eq_true h8]; rfl, if_pos ⟨⟨h0, h8⟩, ha, b1, b2⟩, ?_, ⟨c1, c2, by rw [List.length_map]; exact h8, (rb ha).2⟩⟩
        rw [(rb ha).1, numI w1 (by decide) (by decide) c1, numI w2 (by decide) (by decide) c2]
        rfl
      · refine .inr ⟨?_, if_neg fun z => hg ⟨z.1.2, z.2⟩⟩
        rw [eL]
        cases e : ((inB (lnum w1) (-20, 20) && inB (lnum w2) (-20, 20)) && decide (ws.length ≤ 8) && allM ws) with
        | false => rfl
        | true =>
          simp only [Bool.and_eq_true, decide_eq_true_eq] at e
          exact absurd ⟨e.1.2, e.2, e.1.1.1, e.1.1.2⟩ hg
    · rw [if_neg h0]
      exact .inr ⟨rfl, if_neg fun z => h0 z.1.1⟩
def layWW (z : Str) : LY := (llay z).getD ([], none)
def allL (zs : List Str) : Bool := zs.all fun z => (llay z).isSome
theorem lays_rel : ∀ ws : List Str, (ws.map layInD).all isLayD = allL ws ∧ (allL ws = true → ws.map layInD = (ws.map layWW).map lyD ∧ ∀ r ∈ ws.map layWW, VLy r)
  | [] => ⟨rfl, fun _ => ⟨rfl, fun r hr => nomatch hr⟩⟩
  | w :: ws => by
    have ih := lays_rel ws
    show (isLayD (layInD w) && (ws.map layInD).all isLayD) = ((llay w).isSome && allL ws) ∧ (((llay w).isSome && allL ws) = true → layInD w :: ws.map layInD = lyD (layWW w) :: (ws.map layWW).map lyD ∧ ∀ r ∈ layWW w :: ws.map layWW, VLy r)
    rcases lay_rel w with ⟨r, e1, e2, e4, vr⟩ | ⟨e1, e2⟩
    · have e3 : layWW w = r := by unfold layWW; rw [e2]; rfl
      rw [e1, e2, ih.1]
      refine ⟨rfl, fun h => ?_⟩
      have h' : allL ws = true := h
      obtain ⟨a, b⟩ := ih.2 h'
      refine ⟨by rw [e4, e3, a], fun r' hr' => ?_⟩
      rcases List.mem_cons.mp hr' with rfl | z
      · rw [e3]; exact vr
      · exact b r' z
    · rw [e1, e2]
      exact ⟨rfl, fun h => nomatch h⟩
abbrev SH4 := List LY × Int × Int × List MV
def lreadL (ls : List Str) : Option SH4 := match ls with
  | l0 :: rest => if (rest.getLast? = some ("" : Str) ∧ 2 ≤ rest.length ∧ rest.length ≤ 5) ∧ allL rest.dropLast = true then (lwin l0).map fun w => (rest.dropLast.map layWW, w) else none
  | [] => none
def lread (z : Str) : Option SH4 := lreadL (Txt.split z "\n")
theorem joinL_nl : ∀ {ps : List (List Nat)}, ps ≠ [] → TL.joinL [10] (ps ++ [[]]) = TL.joinL [10] ps ++ [10]
  | [], h => absurd rfl h
  | [p], _ => by simp [TL.joinL]
  | p :: q :: r, _ => by
    have ih := joinL_nl (ps := q :: r) (by simp)
    show p ++ ([10] ++ TL.joinL [10] ((q :: r) ++ [[]])) = (p ++ ([10] ++ TL.joinL [10] (q :: r))) ++ [10]
    rw [ih]
    simp
theorem tl_n : TL.tl ("\n" : Str) = [10] := by decide +kernel
theorem n_eq : ("\n" : Str) = ⟨#[10]⟩ := by decide +kernel
theorem join_nl {ps : List Str} (h : ps ≠ []) : Txt.join "\n" (ps ++ [("" : Str)]) = Txt.join "\n" ps ++ "\n" := by
  refine TL.ext_tl ?_
  rw [tl_txt, TL.tl_append, tl_txt, tl_n, List.map_append]
  have e : [("" : Str)].map TL.tl = [[]] := by decide +kernel
  rw [e]
  exact joinL_nl (by cases ps with | nil => exact absurd rfl h | cons a t => simp)
theorem join_split' (z : Str) : Txt.join "\n" (Txt.split z "\n") = z := by
  rw [TL.join_eq]
  exact PySem.StrLaws.join_split z "\n"
theorem split_nl (u : Str) : Txt.split (u ++ "\n") "\n" = Txt.split u "\n" ++ [("" : Str)] := by
  have e : u ++ "\n" = Txt.join "\n" (Txt.split u "\n" ++ [("" : Str)]) := by rw [join_nl split1, join_split']
  rw [e]
  refine TL.split_join (s := 10) (S := []) tl_n (by decide +kernel) (by simp) fun p hp => ?_
  rcases List.mem_append.mp hp with z | z
  · have := PySem.StrLaws.split_free u 10 p (by rw [← n_eq]; exact z)
    exact this
  · rw [List.mem_singleton.mp z]
    decide +kernel
theorem ends_ex {z : Str} (h : Txt.endswith z "\n" = true) : ∃ u, z = u ++ "\n" := by
  unfold Txt.endswith at h
  rw [Bool.and_eq_true, decide_eq_true_eq] at h
  obtain ⟨h1, h2⟩ := h
  rw [show ("\n" : Str).length = 1 by decide] at h1 h2
  have h3 := (PySem.StrLaws.subAt_one z 10 (z.length - 1)).mp ⟨by show z.length - 1 + 1 ≤ z.length; omega, by rw [← n_eq]; exact h2⟩
  have h4 : (TL.tl z)[(TL.tl z).length - 1]? = some 10 := by rw [← TL.len_tl]; exact h3
  have ne : TL.tl z ≠ [] := fun e => by rw [TL.len_tl, e] at h1; exact absurd h1 (by decide)
  refine ⟨⟨((TL.tl z).dropLast).toArray⟩, TL.ext_tl ?_⟩
  rw [TL.tl_append, tl_n]
  show TL.tl z = (TL.tl z).dropLast ++ [10]
  have hl := List.dropLast_concat_getLast ne
  rw [List.getElem?_eq_some_iff] at h4
  obtain ⟨h5, h6⟩ := h4
  rw [List.getLast_eq_getElem, h6] at hl
  exact hl.symm
theorem read_rel (z : Str) : (∃ ls x y ms, isShD (shInD z) = true ∧ lread z = some (ls, x, y, ms) ∧ shInD z = shD ls x y ms ∧ VLays ls ∧ VWin x y ms) ∨ (isShD (shInD z) = false ∧ lread z = none) := by
  unfold shInD
  by_cases h : Txt.endswith z "\n" = true
  · rw [if_pos h]
    obtain ⟨u, rfl⟩ := ends_ex h
    rw [cut_nl]
    unfold lread
    rw [split_nl]
    have hne : Txt.split u "\n" ≠ [] := split1
    match hs : Txt.split u "\n", hne with
    | l0 :: ls, _ =>
      show (∃ ls' x y ms, isShD (PyData.tuple [.tuple (ls.map layInD), winInD l0]) = true ∧ lreadL (l0 :: (ls ++ [("" : Str)])) = some (ls', x, y, ms) ∧ PyData.tuple [.tuple (ls.map layInD), winInD l0] = shD ls' x y ms ∧ VLays ls' ∧ VWin x y ms) ∨ (isShD (PyData.tuple [.tuple (ls.map layInD), winInD l0]) = false ∧ lreadL (l0 :: (ls ++ [("" : Str)])) = none)
      obtain ⟨ra, rb⟩ := lays_rel ls
      have eS : isShD (PyData.tuple [.tuple (ls.map layInD), winInD l0]) = (decide (1 ≤ ls.length ∧ ls.length ≤ 4) && allL ls && isWinD (winInD l0)) := by
        show (decide (1 ≤ (ls.map layInD).length ∧ (ls.map layInD).length ≤ 4) && (ls.map layInD).all isLayD && isWinD (winInD l0)) = _
        rw [ra, List.length_map]
      have eR : lreadL (l0 :: (ls ++ [("" : Str)])) = if (1 ≤ ls.length ∧ ls.length ≤ 4) ∧ allL ls = true then (lwin l0).map fun w => (ls.map layWW, w) else none := by
        show (if ((ls ++ [("" : Str)]).getLast? = some ("" : Str) ∧ 2 ≤ (ls ++ [("" : Str)]).length ∧ (ls ++ [("" : Str)]).length ≤ 5) ∧ allL (ls ++ [("" : Str)]).dropLast = true then (lwin l0).map fun w => ((ls ++ [("" : Str)]).dropLast.map layWW, w) else none) = _
        rw [List.dropLast_concat, List.length_append, List.getLast?_concat]
        have : (((some ("" : Str) = some ("" : Str)) ∧ 2 ≤ ls.length + [("" : Str)].length ∧ ls.length + [("" : Str)].length ≤ 5) ∧ allL ls = true) ↔ ((1 ≤ ls.length ∧ ls.length ≤ 4) ∧ allL ls = true) := by
          show ((_ ∧ 2 ≤ ls.length + 1 ∧ ls.length + 1 ≤ 5) ∧ _) ↔ _
          constructor
          · rintro ⟨⟨_, a, b⟩, c⟩
            exact ⟨⟨by omega, by omega⟩, c⟩
          · rintro ⟨⟨a, b⟩, c⟩
            exact ⟨⟨rfl, by omega, by omega⟩, c⟩
        by_cases c : (1 ≤ ls.length ∧ ls.length ≤ 4) ∧ allL ls = true
        · rw [if_pos c, if_pos (this.mpr c)]
        · rw [if_neg c, if_neg fun z => c (this.mp z)]
      rw [eS, eR]
      by_cases c : (1 ≤ ls.length ∧ ls.length ≤ 4) ∧ allL ls = true
      · rw [if_pos c, decide_eq_true c.1, c.2]
        rcases win_rel l0 with ⟨x, y, ms, e1, e2, e3, vw⟩ | ⟨e1, e2⟩
        · rw [e1, e2]
          refine .inl ⟨_, _, _, _, rfl, rfl, ?_, ⟨by rw [List.length_map]; exact c.1.1, by rw [List.length_map]; exact c.1.2, (rb c.2).2⟩, vw⟩
          rw [(rb c.2).1, e3]
          rfl
        · rw [e1, e2]
          exact .inr ⟨rfl, rfl⟩
      · rw [if_neg c]
        refine .inr ⟨?_, rfl⟩
        cases e : (decide (1 ≤ ls.length ∧ ls.length ≤ 4) && allL ls && isWinD (winInD l0)) with
        | false => rfl
        | true =>
          simp only [Bool.and_eq_true, decide_eq_true_eq] at e
          exact absurd ⟨e.1.1, e.1.2⟩ c
  · rw [if_neg h]
    refine .inr ⟨rfl, ?_⟩
    unfold lread
    have hj := join_split' z
    have hne : Txt.split z "\n" ≠ [] := split1
    match hs : Txt.split z "\n", hne with
    | l0 :: rest, _ =>
      refine if_neg fun c => h ?_
      obtain ⟨⟨c1, c2, c3⟩, _⟩ := c
      have nr : rest ≠ [] := fun e => by rw [e] at c2; exact absurd c2 (by decide)
      have e : rest = rest.dropLast ++ [("" : Str)] := by
        have := List.dropLast_concat_getLast nr
        rw [List.getLast?_eq_some_getLast nr] at c1
        rw [Option.some.inj c1] at this
        exact this.symm
      rw [hs, e, ← List.cons_append, join_nl (by simp)] at hj
      rw [← hj]
      exact ends_nl _
theorem pd_eq {α : Type} : ∀ {ts as : List α}, Paired (fun v d => v = d) ts as → ts = as
  | _, _, .nil => rfl
  | _, _, .cons h t => by rw [h, pd_eq t]
theorem list_str2 {v : V} {xs : List Str} {i : Nat} (h : (xs.map V.str)[i]? = some v) : ∃ z, xs[i]? = some z ∧ v = .str z := by
  rw [List.getElem?_map] at h
  cases e : xs[i]? with
  | none => rw [e] at h; cases h
  | some z => rw [e] at h; exact ⟨z, rfl, (Option.some.inj h).symm⟩
theorem at0 {α : Type} {c : α} {r : List α} : atI (c :: r) 0 = some c := by
  simp [atI, ixN]
theorem at_n {α : Type} {xs : List α} {v : α} (k : Nat) (h : xs[k]? = some v) : atI xs (k : Int) = some v := by
  unfold atI ixN
  have : k < xs.length := (List.getElem?_eq_some_iff.mp h).1
  rw [if_pos (by omega), if_pos (by omega)]
  show xs[(k : Int).toNat]? = _
  rw [Int.toNat_natCast]
  exact h
/-! ### signs that there are -/
def Uok (z : Str) : Prop := ∀ c ∈ TL.tl z, c < 1114112
theorem uok_app {a b : Str} (ha : Uok a) (hb : Uok b) : Uok (a ++ b) := fun c hc => by
  rw [TL.tl_append] at hc
  rcases List.mem_append.mp hc with h | h
  · exact ha c h
  · exact hb c h
theorem uok_cut {z : Str} (h : Uok z) (lo hi : Option Int) : Uok (cutS z lo hi) := fun c hc => by
  have hc' : c ∈ ((TL.tl z).drop (HT.sIx z.length 0 lo)).take (HT.sIx z.length z.length hi - HT.sIx z.length 0 lo) := hc
  exact h c (List.mem_of_mem_drop (List.mem_of_mem_take hc'))
theorem mem_joinL' {S : List Nat} {c : Nat} : ∀ {ps : List (List Nat)} {p : List Nat}, p ∈ ps → c ∈ p → c ∈ TL.joinL S ps
  | [], _, h, _ => nomatch h
  | [q], p, h, hc => by
    rw [List.mem_singleton.mp h] at hc
    exact hc
  | q :: r :: t, p, h, hc => by
    show c ∈ q ++ (S ++ TL.joinL S (r :: t))
    rcases List.mem_cons.mp h with rfl | h
    · exact List.mem_append_left _ hc
    · exact List.mem_append_right _ (List.mem_append_right _ (mem_joinL' h hc))
theorem uok_part {z b p : Str} (h : Uok z) (hp : p ∈ Txt.split z b) : Uok p := fun c hc => by
  have e := PySem.StrLaws.join_split z b
  rw [← TL.join_eq] at e
  refine h c ?_
  rw [← e, tl_txt]
  exact mem_joinL' (List.mem_map_of_mem hp) hc
theorem uok_join {b : Str} {ps : List Str} (hb : Uok b) (h : ∀ p ∈ ps, Uok p) : Uok (Txt.join b ps) := fun c hc => by
  rw [tl_txt] at hc
  rcases mem_joinL hc with y | ⟨p, hp, y⟩
  · exact hb c y
  · obtain ⟨q, hq, rfl⟩ := List.mem_map.mp hp
    exact h q hq c y
theorem uok_str {z : Str} (h : Uok z) : PyData.strOk z = true := by
  unfold PyData.strOk
  rw [← Array.all_toList, List.all_eq_true]
  intro c hc
  exact decide_eq_true (h c hc)
theorem uok_asc {z : Str} (h : ∀ c ∈ TL.tl z, c < 128) : Uok z := fun c hc => Nat.lt_trans (h c hc) (by decide)
theorem uok_figs {z : Str} (h : Uok z) : Uok (figs z) := fun c hc => by
  rcases figs_or z with ⟨e, _⟩ | ⟨e, _⟩
  · exact h c (by rw [e]; exact List.mem_cons_of_mem _ hc)
  · rw [e] at hc
    exact h c hc
/-- the signs that are no figures -/
def nofig (c : Nat) : Bool := !decide (c ∈ TL.tl ("0123456789" : Str))
theorem nofig_iff (c : Nat) : nofig c = false ↔ 48 ≤ c ∧ c ≤ 57 := by
  have e : TL.tl ("0123456789" : Str) = [48, 49, 50, 51, 52, 53, 54, 55, 56, 57] := by decide +kernel
  unfold nofig
  rw [e, Bool.not_eq_false', decide_eq_true_eq]
  simp only [List.mem_cons, List.not_mem_nil, or_false]
  omega
def sg (c : Nat) : Str := ⟨#[c]⟩
theorem filt_nil {cs : List Nat} : cs.filter nofig = [] ↔ NumText.AllDigits cs := by
  rw [List.filter_eq_nil_iff]
  constructor
  · intro h c hc
    have := h c hc
    exact (nofig_iff c).mp (by cases e : nofig c with | true => exact absurd e this | false => rfl)
  · intro h c hc
    rw [(nofig_iff c).mpr (h c hc)]
    decide

/-! ### the text -/
def topS (i : Nat) : Stmt := PySem.Challenge.pw_lanternrows_k55_texts_put_otherwise.main.body.getD i (.Pass ⟨0, 0, 0, 0⟩)
abbrev s_is_whole_from : Stmt := topS 19
theorem sc_is_whole_from : FnScope ["thing", "least"] ["thing", "least"] (defScope s_is_whole_from) := ⟨rfl, rfl, rfl, by decide +kernel, rfl, by decide +kernel, by decide +kernel⟩
abbrev s_is_whole : Stmt := topS 20
theorem sc_is_whole : FnScope ["thing", "least", "most"] ["thing", "least", "most"] (defScope s_is_whole) := ⟨rfl, rfl, rfl, by decide +kernel, rfl, by decide +kernel, by decide +kernel⟩
abbrev s_is_tuple : Stmt := topS 29
theorem sc_is_tuple : FnScope ["thing", "least", "most"] ["thing", "least", "most"] (defScope s_is_tuple) := ⟨rfl, rfl, rfl, by decide +kernel, rfl, by decide +kernel, by decide +kernel⟩
abbrev s_is_drawing : Stmt := topS 30
theorem sc_is_drawing : FnScope ["thing"] ["thing"] (defScope s_is_drawing) := ⟨rfl, rfl, rfl, by decide +kernel, rfl, by decide +kernel, by decide +kernel⟩
abbrev s_is_hold : Stmt := topS 31
theorem sc_is_hold : FnScope ["thing"] ["thing"] (defScope s_is_hold) := ⟨rfl, rfl, rfl, by decide +kernel, rfl, by decide +kernel, by decide +kernel⟩
abbrev s_is_row : Stmt := topS 32
theorem sc_is_row : FnScope ["thing", "drawing", "hold"] ["thing"] (defScope s_is_row) := ⟨rfl, rfl, rfl, by decide +kernel, rfl, by decide +kernel, by decide +kernel⟩
abbrev s_is_layer : Stmt := topS 33
theorem sc_is_layer : FnScope ["thing", "rows", "back", "row"] ["thing"] (defScope s_is_layer) := ⟨rfl, rfl, rfl, by decide +kernel, rfl, by decide +kernel, by decide +kernel⟩
abbrev s_is_way : Stmt := topS 34
theorem sc_is_way : FnScope ["thing"] ["thing"] (defScope s_is_way) := ⟨rfl, rfl, rfl, by decide +kernel, rfl, by decide +kernel, by decide +kernel⟩
abbrev s_is_many : Stmt := topS 35
theorem sc_is_many : FnScope ["thing"] ["thing"] (defScope s_is_many) := ⟨rfl, rfl, rfl, by decide +kernel, rfl, by decide +kernel, by decide +kernel⟩
abbrev s_is_move : Stmt := topS 36
theorem sc_is_move : FnScope ["thing", "x", "y", "many"] ["thing"] (defScope s_is_move) := ⟨rfl, rfl, rfl, by decide +kernel, rfl, by decide +kernel, by decide +kernel⟩
abbrev s_is_window : Stmt := topS 37
theorem sc_is_window : FnScope ["thing", "x", "y", "moves", "move"] ["thing"] (defScope s_is_window) := ⟨rfl, rfl, rfl, by decide +kernel, rfl, by decide +kernel, by decide +kernel⟩
abbrev s_is_sheet : Stmt := topS 38
theorem sc_is_sheet : FnScope ["thing", "layers", "window", "layer"] ["thing"] (defScope s_is_sheet) := ⟨rfl, rfl, rfl, by decide +kernel, rfl, by decide +kernel, by decide +kernel⟩
abbrev s_writes_number : Stmt := topS 41
theorem sc_writes_number : FnScope ["word", "figures"] ["word"] (defScope s_writes_number) := ⟨rfl, rfl, rfl, by decide +kernel, rfl, by decide +kernel, by decide +kernel⟩
abbrev s_number_in : Stmt := topS 42
theorem sc_number_in : FnScope ["word"] ["word"] (defScope s_number_in) := ⟨rfl, rfl, rfl, by decide +kernel, rfl, by decide +kernel, by decide +kernel⟩
abbrev s_numbers_in : Stmt := topS 43
theorem sc_numbers_in : FnScope ["word", "between", "part"] ["word", "between"] (defScope s_numbers_in) := ⟨rfl, rfl, rfl, by decide +kernel, rfl, by decide +kernel, by decide +kernel⟩
abbrev s_window_in : Stmt := topS 44
theorem sc_window_in : FnScope ["line", "words", "moves", "word"] ["line"] (defScope s_window_in) := ⟨rfl, rfl, rfl, by decide +kernel, rfl, by decide +kernel, by decide +kernel⟩
abbrev s_layer_in : Stmt := topS 45
theorem sc_layer_in : FnScope ["line", "words", "rows", "word"] ["line"] (defScope s_layer_in) := ⟨rfl, rfl, rfl, by decide +kernel, rfl, by decide +kernel, by decide +kernel⟩
abbrev s_sheet_in : Stmt := topS 46
theorem sc_sheet_in : FnScope ["text", "lines", "line"] ["text"] (defScope s_sheet_in) := ⟨rfl, rfl, rfl, by decide +kernel, rfl, by decide +kernel, by decide +kernel⟩
abbrev s_read_sheet : Stmt := topS 47
theorem sc_read_sheet : FnScope ["text", "sheet"] ["text"] (defScope s_read_sheet) := ⟨rfl, rfl, rfl, by decide +kernel, rfl, by decide +kernel, by decide +kernel⟩
abbrev s__law_cell_at : Stmt := topS 49
theorem sc__law_cell_at : FnScope ["_law_script", "_law_k"] ["_law_script", "_law_k"] (defScope s__law_cell_at) := ⟨rfl, rfl, rfl, by decide +kernel, rfl, by decide +kernel, by decide +kernel⟩
abbrev s__law_state : Stmt := topS 50
theorem sc__law_state : FnScope ["_law_script", "_law_k", "_law_cell"] ["_law_script", "_law_k"] (defScope s__law_state) := ⟨rfl, rfl, rfl, by decide +kernel, rfl, by decide +kernel, by decide +kernel⟩
abbrev s__law_take : Stmt := topS 51
theorem sc__law_take : FnScope ["_law_state_here", "_law_many", "_law_found", "_law_mixed"] ["_law_state_here", "_law_many"] (defScope s__law_take) := ⟨rfl, rfl, rfl, by decide +kernel, rfl, by decide +kernel, by decide +kernel⟩
abbrev s__law_row : Stmt := topS 52
theorem sc__law_row : FnScope ["_law_state_here", "_law_drawing"] ["_law_state_here"] (defScope s__law_row) := ⟨rfl, rfl, rfl, by decide +kernel, rfl, by decide +kernel, by decide +kernel⟩
abbrev s__law_layer : Stmt := topS 53
theorem sc__law_layer : FnScope ["_law_state_here", "_law_most", "_law_ended", "_law_rows", "_law_way", "_law_back", "_law_turn"] ["_law_state_here", "_law_most", "_law_ended"] (defScope s__law_layer) := ⟨rfl, rfl, rfl, by decide +kernel, rfl, by decide +kernel, by decide +kernel⟩
abbrev s__law_window : Stmt := topS 54
theorem sc__law_window : FnScope ["_law_state_here", "_law_most", "_law_moves", "_law_turn", "_law_many"] ["_law_state_here", "_law_most"] (defScope s__law_window) := ⟨rfl, rfl, rfl, by decide +kernel, rfl, by decide +kernel, by decide +kernel⟩
abbrev s__law_sheet : Stmt := topS 55
theorem sc__law_sheet : FnScope ["_law_state_here", "_law_layers", "_law_most", "_law_ended", "_law_turn"] ["_law_state_here", "_law_layers", "_law_most", "_law_ended"] (defScope s__law_sheet) := ⟨rfl, rfl, rfl, by decide +kernel, rfl, by decide +kernel, by decide +kernel⟩
abbrev s__law_classes : Stmt := topS 56
theorem sc__law_classes : FnScope ["_law_e", "_law_found"] ["_law_e"] (defScope s__law_classes) := ⟨rfl, rfl, rfl, by decide +kernel, rfl, by decide +kernel, by decide +kernel⟩
abbrev s__law_met : Stmt := topS 57
theorem sc__law_met : FnScope ["_law_call", "_law_e", "_law_some"] ["_law_call"] (defScope s__law_met) := ⟨rfl, rfl, rfl, by decide +kernel, rfl, by decide +kernel, by decide +kernel⟩
abbrev s__law_sheet_text : Stmt := topS 58
theorem sc__law_sheet_text : FnScope ["_law_sheet_here", "_law_words", "_law_move", "_law_lines", "_law_rows", "_law_back", "_law_parts", "_law_drawing", "_law_hold", "_law_part"] ["_law_sheet_here"] (defScope s__law_sheet_text) := ⟨rfl, rfl, rfl, by decide +kernel, rfl, by decide +kernel, by decide +kernel⟩
abbrev s__law_number : Stmt := topS 59
theorem sc__law_number : FnScope ["_law_word", "_law_figures", "_law_sign"] ["_law_word"] (defScope s__law_number) := ⟨rfl, rfl, rfl, by decide +kernel, rfl, by decide +kernel, by decide +kernel⟩
abbrev s__law_numbers : Stmt := topS 60
theorem sc__law_numbers : FnScope ["_law_word", "_law_sign", "_law_bounds", "_law_parts", "_law_found", "_law_number_here", "_law_least", "_law_most", "_law_part"] ["_law_word", "_law_sign", "_law_bounds"] (defScope s__law_numbers) := ⟨rfl, rfl, rfl, by decide +kernel, rfl, by decide +kernel, by decide +kernel⟩
abbrev s__law_layer_in : Stmt := topS 61
theorem sc__law_layer_in : FnScope ["_law_line", "_law_words", "_law_rows", "_law_back", "_law_word"] ["_law_line"] (defScope s__law_layer_in) := ⟨rfl, rfl, rfl, by decide +kernel, rfl, by decide +kernel, by decide +kernel⟩
abbrev s__law_read : Stmt := topS 62
theorem sc__law_read : FnScope ["_law_text", "_law_lines", "_law_words", "_law_far", "_law_place", "_law_moves", "_law_layers", "_law_word", "_law_line"] ["_law_text"] (defScope s__law_read) := ⟨rfl, rfl, rfl, by decide +kernel, rfl, by decide +kernel, by decide +kernel⟩
abbrev s__law_other : Stmt := topS 63
theorem sc__law_other : FnScope ["_law_state_here", "_law_text", "_law_signs", "_law_sign", "_law_at", "_law_way", "_law_lines", "_law_spot", "_law_words", "_law_place", "_law_news"] ["_law_state_here", "_law_text"] (defScope s__law_other) := ⟨rfl, rfl, rfl, by decide +kernel, rfl, by decide +kernel, by decide +kernel⟩
abbrev s_law : Stmt := topS 64
theorem sc_law : FnScope ["_law_script", "_law_k", "_law_state_here", "_law_text", "_law_turn", "_law_other_here", "_law_due", "_law_thing"] ["_law_script"] (defScope s_law) := ⟨rfl, rfl, rfl, by decide +kernel, rfl, by decide +kernel, by decide +kernel⟩
abbrev s_TooMany_init : Stmt := clsB (topS 16) 0
theorem sc_TooMany_init : FnScope ["self", "many", "most"] ["self", "many", "most"] (defScope s_TooMany_init) := ⟨rfl, rfl, rfl, by decide +kernel, rfl, by decide +kernel, by decide +kernel⟩
abbrev s_Leaned_init : Stmt := clsB (topS 17) 0
theorem sc_Leaned_init : FnScope ["self", "numbers"] ["self", "numbers"] (defScope s_Leaned_init) := ⟨rfl, rfl, rfl, by decide +kernel, rfl, by decide +kernel, by decide +kernel⟩
structure Txt (K : PySem.W.Frag) (mg : Str → Option Value) : Prop where
  b_ValueError : mg "ValueError" = none
  b_len : mg "len" = none
  b_isinstance : mg "isinstance" = none
  b_max : mg "max" = none
  b_min : mg "min" = none
  b_all : mg "all" = none
  b_tuple : mg "tuple" = none
  b_range : mg "range" = none
  b_zip : mg "zip" = none
  b_bool : mg "bool" = none
  b_int : mg "int" = none
  b_str : mg "str" = none
  c_MOST_DRAWING : ∃ t, mg "MOST_DRAWING" = some (Value.int 9 t)
  c_MOST_HOLD : ∃ t, mg "MOST_HOLD" = some (Value.int 24 t)
  c_MOST_ROWS : ∃ t, mg "MOST_ROWS" = some (Value.int 8 t)
  c_MOST_WAY : ∃ t, mg "MOST_WAY" = some (Value.int 20 t)
  c_MOST_MANY : ∃ t, mg "MOST_MANY" = some (Value.int 24 t)
  c_MOST_MOVES : ∃ t, mg "MOST_MOVES" = some (Value.int 8 t)
  c_MOST_LAYERS : ∃ t, mg "MOST_LAYERS" = some (Value.int 4 t)
  c_MOST_FIGURES : ∃ t, mg "MOST_FIGURES" = some (Value.int 30 t)

section
variable {P : Program} {w : World} {K : PySem.W.Frag} {mg : Str → Option Value} {base : Heap}
theorem ok__law_classes {f : Addr} {fd : FuncData} {c : Nat → Addr} {LE : Addr} (F : Fun K "_law_classes" "_law_classes" s__law_classes f fd) (T : Txt K mg) (TX : ExcN K mg c LE) : FnE P w K mg base 1 f fd ["_law_e"] (spCls c) := by
  refine fun_okE F sc__law_classes (fun a cls d vs H Q E h => ?_) (fun cdv A outer s H vs Q E a oe cls d hz hfs hr h => ?_)
  · obtain ⟨i, _, rfl, _⟩ := h
    rfl
  · obtain ⟨i, hi, rfl, rfl, hx, q⟩ := h
    refine ⟨_, (pss_cons (ps_set (i := 1) sc__law_classes.nd rfl (Or.inl rfl) (pe_lst (pa_cons (pe_callB (call_isQ TX.toExcT List.mem_cons_self hz hfs) (by rfl) T.b_isinstance (by decide +kernel) (pa_cons (pv 0) (pa_cons (pe_gref (by rfl) (TX.g 0 "NoLayer" rfl)) pa_nil))) (pa_cons (pe_callB (call_isQ TX.toExcT List.mem_cons_self hz hfs) (by rfl) T.b_isinstance (by decide +kernel) (pa_cons (pv 0) (pa_cons (pe_gref (by rfl) (TX.g 1 "NoWindow" rfl)) pa_nil))) (pa_cons (pe_callB (call_isQ TX.toExcT List.mem_cons_self hz hfs) (by rfl) T.b_isinstance (by decide +kernel) (pa_cons (pv 0) (pa_cons (pe_gref (by rfl) (TX.g 2 "NoSheet" rfl)) pa_nil))) (pa_cons (pe_callB (call_isQ TX.toExcT List.mem_cons_self hz hfs) (by rfl) T.b_isinstance (by decide +kernel) (pa_cons (pv 0) (pa_cons (pe_gref (by rfl) (TX.g 3 "NoMoment" rfl)) pa_nil))) pa_nil))))))
      (pss_cons (ps_set (i := 1) sc__law_classes.nd rfl (Or.inl rfl) (pe_op op_cat (pv 1) (pe_lst (pa_cons (pe_callB (call_isQ TX.toExcT List.mem_cons_self hz hfs) (by rfl) T.b_isinstance (by decide +kernel) (pa_cons (pv 0) (pa_cons (pe_gref (by rfl) (TX.g 4 "NoRow" rfl)) pa_nil))) (pa_cons (pe_callB (call_isQ TX.toExcT List.mem_cons_self hz hfs) (by rfl) T.b_isinstance (by decide +kernel) (pa_cons (pv 0) (pa_cons (pe_gref (by rfl) (TX.g 5 "NoNumber" rfl)) pa_nil))) (pa_cons (pe_callB (call_isQ TX.toExcT List.mem_cons_self hz hfs) (by rfl) T.b_isinstance (by decide +kernel) (pa_cons (pv 0) (pa_cons (pe_gref (by rfl) (TX.g 6 "NoDrawings" rfl)) pa_nil))) (pa_cons (pe_callB (call_isQ TX.toExcT List.mem_cons_self hz hfs) (by rfl) T.b_isinstance (by decide +kernel) (pa_cons (pv 0) (pa_cons (pe_gref (by rfl) (TX.g 7 "Unlike" rfl)) pa_nil))) pa_nil)))))))
      (pss_cons (ps_set (i := 1) sc__law_classes.nd rfl (Or.inl rfl) (pe_op op_cat (pv 1) (pe_lst (pa_cons (pe_callB (call_isQ TX.toExcT List.mem_cons_self hz hfs) (by rfl) T.b_isinstance (by decide +kernel) (pa_cons (pv 0) (pa_cons (pe_gref (by rfl) (TX.g 8 "Endless" rfl)) pa_nil))) (pa_cons (pe_callB (call_isQ TX.toExcT List.mem_cons_self hz hfs) (by rfl) T.b_isinstance (by decide +kernel) (pa_cons (pv 0) (pa_cons (pe_gref (by rfl) (TX.g 9 "Squeezed" rfl)) pa_nil))) (pa_cons (pe_callB (call_isQ TX.toExcT List.mem_cons_self hz hfs) (by rfl) T.b_isinstance (by decide +kernel) (pa_cons (pv 0) (pa_cons (pe_gref (by rfl) (TX.g 10 "NoPaper" rfl)) pa_nil))) (pa_cons (pe_callB (call_isQ TX.toExcT List.mem_cons_self hz hfs) (by rfl) T.b_isinstance (by decide +kernel) (pa_cons (pv 0) (pa_cons (pe_gref (by rfl) (TX.g 11 "NoDeed" rfl)) pa_nil))) pa_nil)))))))
      (pss_one (ps_ret (pe_op op_cat (pv 1) (pe_lst (pa_cons (pe_callB (call_isQ TX.toExcT List.mem_cons_self hz hfs) (by rfl) T.b_isinstance (by decide +kernel) (pa_cons (pv 0) (pa_cons (pe_gref (by rfl) (TX.g 12 "NoText" rfl)) pa_nil))) (pa_cons (pe_callB (call_isQ TX.toExcT List.mem_cons_self hz hfs) (by rfl) T.b_isinstance (by decide +kernel) (pa_cons (pv 0) (pa_cons (pe_gref (by rfl) (TX.g 13 "NoWords" rfl)) pa_nil))) (pa_cons (pe_callB (call_isQ TX.toExcT List.mem_cons_self hz hfs) (by rfl) T.b_isinstance (by decide +kernel) (pa_cons (pv 0) (pa_cons (pe_gref (by rfl) (TX.g 14 "TooMany" rfl)) pa_nil))) (pa_cons (pe_callB (call_isQ TX.toExcT List.mem_cons_self hz hfs) (by rfl) T.b_isinstance (by decide +kernel) (pa_cons (pv 0) (pa_cons (pe_gref (by rfl) (TX.g 15 "Leaned" rfl)) pa_nil))) pa_nil))))))))))), ?_⟩
    have k := TX.ko i hi
    refine ⟨_, rfl, i, hi, rfl, _, _, _, rfl, fun u z => z, k 0 (by decide), hx, _, rfl, i, hi, rfl, _, _, _, rfl, fun u z => z, k 1 (by decide), hx, _, rfl, i, hi, rfl, _, _, _, rfl, fun u z => z, k 2 (by decide), hx, _, rfl, i, hi, rfl, _, _, _, rfl, fun u z => z, k 3 (by decide), hx, (by show 4 ≤ sizeLine; decide), fun p1 n1 => ?_⟩
    obtain ⟨s1, e1⟩ := new_at (.lst [.bl (decide (i = 0)), .bl (decide (i = 1)), .bl (decide (i = 2)), .bl (decide (i = 3))]) n1
    generalize upd H p1 (.lst [.bl (decide (i = 0)), .bl (decide (i = 1)), .bl (decide (i = 2)), .bl (decide (i = 3))]) = H1 at s1 e1 ⊢
    have hx1 := hx.sm s1
    refine ⟨_, rfl, _, rfl, i, hi, rfl, _, _, _, rfl, fun u z => z, k 4 (by decide), hx1, _, rfl, i, hi, rfl, _, _, _, rfl, fun u z => z, k 5 (by decide), hx1, _, rfl, i, hi, rfl, _, _, _, rfl, fun u z => z, k 6 (by decide), hx1, _, rfl, i, hi, rfl, _, _, _, rfl, fun u z => z, k 7 (by decide), hx1, (by show 4 ≤ sizeLine; decide), fun p2 n2 => ?_⟩
    obtain ⟨s2, e2⟩ := new_at (.lst [.bl (decide (i = 4)), .bl (decide (i = 5)), .bl (decide (i = 6)), .bl (decide (i = 7))]) n2
    generalize upd H1 p2 (.lst [.bl (decide (i = 4)), .bl (decide (i = 5)), .bl (decide (i = 6)), .bl (decide (i = 7))]) = H2 at s2 e2 ⊢
    refine ⟨p1, p2, _, _, rfl, rfl, s2 _ _ e1, e2, (by show 8 ≤ sizeLine; decide), fun p3 n3 => ?_⟩
    obtain ⟨s3, e3⟩ := new_at (.lst ([.bl (decide (i = 0)), .bl (decide (i = 1)), .bl (decide (i = 2)), .bl (decide (i = 3))] ++ [.bl (decide (i = 4)), .bl (decide (i = 5)), .bl (decide (i = 6)), .bl (decide (i = 7))])) n3
    generalize upd H2 p3 (.lst ([.bl (decide (i = 0)), .bl (decide (i = 1)), .bl (decide (i = 2)), .bl (decide (i = 3))] ++ [.bl (decide (i = 4)), .bl (decide (i = 5)), .bl (decide (i = 6)), .bl (decide (i = 7))])) = H3 at s3 e3 ⊢
    have s13 := (s1.trans s2).trans s3
    have hx3 := hx.sm s13
    refine ⟨_, rfl, _, rfl, i, hi, rfl, _, _, _, rfl, fun u z => z, k 8 (by decide), hx3, _, rfl, i, hi, rfl, _, _, _, rfl, fun u z => z, k 9 (by decide), hx3, _, rfl, i, hi, rfl, _, _, _, rfl, fun u z => z, k 10 (by decide), hx3, _, rfl, i, hi, rfl, _, _, _, rfl, fun u z => z, k 11 (by decide), hx3, (by show 4 ≤ sizeLine; decide), fun p4 n4 => ?_⟩
    obtain ⟨s4, e4⟩ := new_at (.lst [.bl (decide (i = 8)), .bl (decide (i = 9)), .bl (decide (i = 10)), .bl (decide (i = 11))]) n4
    generalize upd H3 p4 (.lst [.bl (decide (i = 8)), .bl (decide (i = 9)), .bl (decide (i = 10)), .bl (decide (i = 11))]) = H4 at s4 e4 ⊢
    refine ⟨p3, p4, _, _, rfl, rfl, s4 _ _ e3, e4, (by show 12 ≤ sizeLine; decide), fun p5 n5 => ?_⟩
    obtain ⟨s5, e5⟩ := new_at (.lst (([.bl (decide (i = 0)), .bl (decide (i = 1)), .bl (decide (i = 2)), .bl (decide (i = 3))] ++ [.bl (decide (i = 4)), .bl (decide (i = 5)), .bl (decide (i = 6)), .bl (decide (i = 7))]) ++ [.bl (decide (i = 8)), .bl (decide (i = 9)), .bl (decide (i = 10)), .bl (decide (i = 11))])) n5
    generalize upd H4 p5 (.lst (([.bl (decide (i = 0)), .bl (decide (i = 1)), .bl (decide (i = 2)), .bl (decide (i = 3))] ++ [.bl (decide (i = 4)), .bl (decide (i = 5)), .bl (decide (i = 6)), .bl (decide (i = 7))]) ++ [.bl (decide (i = 8)), .bl (decide (i = 9)), .bl (decide (i = 10)), .bl (decide (i = 11))])) = H5 at s5 e5 ⊢
    have s15 := (s13.trans s4).trans s5
    have hx5 := hx.sm s15
    refine ⟨_, rfl, _, rfl, i, hi, rfl, _, _, _, rfl, fun u z => z, k 12 (by decide), hx5, _, rfl, i, hi, rfl, _, _, _, rfl, fun u z => z, k 13 (by decide), hx5, _, rfl, i, hi, rfl, _, _, _, rfl, fun u z => z, k 14 (by decide), hx5, _, rfl, i, hi, rfl, _, _, _, rfl, fun u z => z, k 15 (by decide), hx5, (by show 4 ≤ sizeLine; decide), fun p6 n6 => ?_⟩
    obtain ⟨s6, e6⟩ := new_at (.lst [.bl (decide (i = 12)), .bl (decide (i = 13)), .bl (decide (i = 14)), .bl (decide (i = 15))]) n6
    generalize upd H5 p6 (.lst [.bl (decide (i = 12)), .bl (decide (i = 13)), .bl (decide (i = 14)), .bl (decide (i = 15))]) = H6 at s6 e6 ⊢
    refine ⟨p5, p6, _, _, rfl, rfl, s6 _ _ e5, e6, (by show 16 ≤ sizeLine; decide), fun p7 n7 => ?_⟩
    exact q _ p7 ((s15.trans s6).trans (same_upd n7)) ((s15.trans s6).free n7) upd_same
end
section
variable {X : Cx}
theorem met_mk {c : Nat → Addr} {LE g : Addr} {fd : FuncData} (Fm : Fun X.K "_law_met" "_law_met" s__law_met g fd) (mm : X.mg "_law_met" = some (.ref g)) (bm : Binds X.K fd ["_law_call"] []) (T : Txt X.K X.mg) (TX : ExcN X.K X.mg c LE)
    (DE : ClE X.prog X.w X.K X.mg X.base 1 "_law_classes" ["_law_e"] (spCls c)) (hr : Room 3 X.A) : MetF X "_law_met" "_law_call" (TMet c) := by
  obtain ⟨oc, od, kV, doc, pm, an, cdv, ct, osl, rfl, lk, hcd⟩ := Fm.ex
  refine ⟨g, _, _, _, kV, doc, pm, cdv, ct, oc, an, od, osl, _, mm, Fm.kp, lk, hcd, bm, sc__law_met, rfl, .inl rfl, ?_⟩
  intro f c' s H Q tl act hc h
  have hrE : L2H.RoomH 1 ((X.A.deeper (envOfC "_law_met" (defScope s__law_met) s.heap.objs.size g cdv))) := L2H.roomH_of ((hr.mono (show 2 ≤ 3 by omega)).deeper _)
  refine ⟨_, pss_one (ps_try_as (X := (cxOf C8.CX0 X.prog X.w X.K X.mg X.base _ "_law_met" (defScope s__law_met) g cdv X.A X.stack s H C8.E0).nox) (c := .ref LE) (i := 1) (Wout := fun _ _ _ _ => False)
      (tb := fun W D σ H => ∃ Ech : XK, (∀ cls d (σ' : L2.St) H', σ'.length = 3 → Ech cls d H' → W cls d σ' H') ∧ σ[0]? = some (some (.ref f)) ∧ H c' = some (LamX.CodeO c' (X.env.qual ++ "<lambda>")) ∧ tl Ech H fun v H1 => 2 ≤ sizeLine ∧ ∀ p, H1 p = none → D.rt (.ref p) (upd H1 p (.tup [.str "told", v])))
      rfl rfl sc__law_met.nd rfl rfl ⟨rfl, by decide, .inl TX.gL⟩ takes0 (fun W pn xe tk _ => ?_) (fun a oe cls d pn hz hfs =>
        (pss_cons (ps_set (i := 2) sc__law_met.nd rfl (Or.inl rfl) (pe_ownE DE ⟨hrE.dp, hrE.un⟩ List.mem_cons_self hz hfs (by rfl) (pa_cons (pv 1) pa_nil)))
      (pss_cons (ps_if (PW.pt (pw_or (pt_not (pt_val (pe_callB (call_isQ TX.toExcT List.mem_cons_self hz hfs) (by rfl) T.b_isinstance (by decide +kernel) (pa_cons (pv 1) (pa_cons (pe_bltn (v := .ty "ValueError") (by rfl) T.b_ValueError (by decide +kernel) rfl) pa_nil))))) (pw_or1 (pt_cmpR op_ne (pe_bmK (K := X.K) (r := rCntB X.K) PySem.F.plainAttrs_list PySem.F.slot_list_count PySem.F.type_list_count mt_bcount (pv 2) (pa_cons pe_bl pa_nil)) pe_int (nomark _))))) (pss_one (ps_ret (pe_tup (pa_cons pe_str (pa_cons pe_non pa_nil))))) pss_nil)
      (pss_cons (ps_if (pt_val (pe_ix (r := rIxL X.K) ix_list (pv 2) pe_int (fun _ _ => rfl))) (pss_one (ps_ret (pe_tup (pa_cons pe_str (pa_cons (pe_tup (pa_cons (pe_xf (TX.xf (i := 14) (by decide)) TX.n1 hz hfs (pv 1)) (pa_cons (pe_xf (TX.xf (i := 14) (by decide)) TX.n2 hz hfs (pv 1)) pa_nil))) pa_nil))))) pss_nil)
      (pss_cons (ps_if (pt_val (pe_ix (r := rIxL X.K) ix_list (pv 2) pe_int (fun _ _ => rfl))) (pss_one (ps_ret (pe_tup (pa_cons pe_str (pa_cons (pe_xf (TX.xf (i := 15) (by decide)) TX.n3 hz hfs (pv 1)) pa_nil))))) pss_nil)
      (pss_one (ps_ret (pe_tup (pa_cons pe_str (pa_cons (pe_bmK (K := X.K) (r := rIndex X.K) PySem.F.plainAttrs_list PySem.F.slot_list_index PySem.F.type_list_index mt_index (pv 2) (pa_cons pe_bl pa_nil)) pa_nil))))))))))), ?_⟩
  · refine ⟨fun pins s' σ H' D I h' => ?_⟩
    obtain ⟨Ech, hW, h1, h2, h3⟩ := h'
    refine run_ex (X := (cxOf C8.CX0 X.prog X.w X.K X.mg X.base ["_law_call", "_law_e", "_law_some"] "_law_met" (defScope s__law_met) g cdv X.A X.stack s H C8.E0).tr pn xe) ⟨_, pss_one (ps_ret (pe_tup (pa_cons pe_str (pa_cons (act _ pn xe Ech _ _ (takes_len tk) (fun cls d σ' H' he hl => hW cls d σ' H' hl he)) pa_nil)))), ?_⟩ I
    exact ⟨h1, h2, h3⟩
  · refine ⟨EMet c Q, fun cls d σ' H' hl hE => ?_, rfl, hc, h⟩
    obtain ⟨i, hi, rfl, hx, h13, hM, hL⟩ := hE
    obtain ⟨x0, x1, x2, rfl⟩ : ∃ x0 x1 x2, σ' = [x0, x1, x2] := by
      match σ', hl with
      | [a, b, c], _ => exact ⟨a, b, c, rfl⟩
    refine ⟨true, TX.ex i hi, fun _ a na => ?_, fun z => Bool.noConfusion z⟩
    refine ⟨_, rfl, i, hi, rfl, rfl, hx, fun H1 p1 s1 n1 e1 => ?_⟩
    have hx1 := hx.sm s1
    refine ⟨_, rfl, i, hi, rfl, _, _, _, rfl, fun u z => z, TX.kv i hi, hx1, true, rfl, iteF ?_⟩
    refine ⟨_, rfl, .inl ⟨rfl, _, .inl (.inl e1)⟩, p1, bits i, rfl, rfl, .inl (.inl e1), ?_⟩
    rw [bits_count i hi]
    refine ⟨rfl, _, rfl, iteF ?_⟩
    refine ⟨_, rfl, p1, _, 14, _, rfl, rfl, .inl (.inl e1), bits_at i 14 (by decide), _, rfl, ite2 (fun e => ?_) (fun e14 => ?_)⟩
    · obtain ⟨dd, fs, m, n, rfl, hd, lm, ln, hq⟩ := hM (of_decide_eq_true e)
      have ec : c i = c 14 := by rw [of_decide_eq_true e]
      have hd1 := s1 _ _ hd
      refine ⟨_, rfl, rfl, by rw [ec], dd, fs, m, rfl, hd1, lm, _, rfl, rfl, by rw [ec], dd, fs, n, rfl, hd1, ln, (by show 2 ≤ sizeLine; decide), fun q2 n2 => ?_⟩
      refine ⟨(by show 2 ≤ sizeLine; decide), fun p3 n3 => ?_⟩
      obtain ⟨s2, e2⟩ := new_at (.tup [m, n]) n2
      exact hq _ p3 q2 ((s1.trans s2).trans (same_upd n3)) ((s1.trans s2).free n3) ((same_upd n3) _ _ e2) upd_same
    refine ⟨_, rfl, p1, _, 15, _, rfl, rfl, .inl (.inl e1), bits_at i 15 (by decide), _, rfl, ite2 (fun e => ?_) (fun e15 => ?_)⟩
    · obtain ⟨dd, fs, m, rfl, hd, lm, hq⟩ := hL (of_decide_eq_true e)
      have ec : c i = c 15 := by rw [of_decide_eq_true e]
      refine ⟨_, rfl, rfl, by rw [ec], dd, fs, m, rfl, s1 _ _ hd, lm, (by show 2 ≤ sizeLine; decide), fun p3 n3 => ?_⟩
      exact hq _ p3 (s1.trans (same_upd n3)) (s1.free n3) upd_same
    have i14 : i < 14 := by
      have a1 : ¬ i = 14 := fun z => e14 (decide_eq_true z)
      have a2 : ¬ i = 15 := fun z => e15 (decide_eq_true z)
      omega
    refine ⟨_, rfl, .inl ⟨rfl, _, .inl (.inl e1)⟩, p1, _, .bl true, i, .bl true, rfl, rfl, .inl (.inl e1), rfl, bl_flat _, ?_, rfl, fun m z hm hz => ?_, ?_⟩
    · rw [bits_at i i hi, decide_eq_true rfl]
    · rw [bits_at i m (by omega), decide_eq_false (by omega)] at hz
      cases hz
      rfl
    · refine ⟨(by show 2 ≤ sizeLine; decide), fun p3 n3 => ?_⟩
      exact h13 i14 _ p3 (s1.trans (same_upd n3)) (s1.free n3) upd_same
end

section
variable {P : Program} {w : World} {K : PySem.W.Frag} {mg : Str → Option Value} {base : Heap}
theorem isW_of {d : PyData} {l m : Int} (h : isB d = true ∨ isI d = false) : isW d l m = false := by
  cases d <;> first | rfl | (rcases h with h | h <;> cases h)
def isWf (d : PyData) (l : Int) : Bool := match d with
  | .int n => decide (l ≤ n)
  | _ => false
theorem isWf_of {d : PyData} {l : Int} (h : isB d = true ∨ isI d = false) : isWf d l = false := by
  cases d <;> first | rfl | (rcases h with h | h <;> cases h)
theorem isWf_int {d : PyData} {l : Int} (h : isWf d l = true) : ∃ n, d = .int n ∧ l ≤ n := by
  cases d with
  | int n => exact ⟨n, rfl, of_decide_eq_true h⟩
  | _ => cases h
theorem isWf_no {d : PyData} {l m : Int} (h : isWf d l = false) : isW d l m = false := by
  cases d with
  | int n =>
    have e : ¬ l ≤ n := of_decide_eq_false h
    simp [isW, e]
  | _ => rfl
def sp_is_whole_from (K : PySem.W.Frag) : Sp := fun vs H Q _ => ∃ (fx : Hp) (b : Bool) (v : V) (d : PyData) (l : Int), vs = [v, .int l] ∧ Dg K fx H b v d ∧ Q (.bl (isWf d l)) H
theorem ok_is_whole_from {f : Addr} {fd : FuncData} (F : Fun K "is_whole_from" "is_whole_from" s_is_whole_from f fd) (T : Txt K mg) : FnOk P w K mg base CX0 1 f fd ["thing", "least"] (sp_is_whole_from K) := by
  refine F.ok sc_is_whole_from (fun vs H Q E h => ?_) (fun cdv A outer s H vs Q E hr h => ?_)
  · obtain ⟨fx, b, v, d, l, rfl, q⟩ := h
    rfl
  · obtain ⟨fx, b, v, d, l, rfl, hd, q⟩ := h
    refine ⟨_, (pss_cons (ps_if (PW.pt (pw_or (pt_val (pe_callB call_isi (by rfl) T.b_isinstance (by decide +kernel) (pa_cons (pv 0) (pa_cons (pe_bltn (v := .ty "bool") (by rfl) T.b_bool (by decide +kernel) rfl) pa_nil)))) (pw_or1 (pt_not (pt_val (pe_callB call_isi (by rfl) T.b_isinstance (by decide +kernel) (pa_cons (pv 0) (pa_cons (pe_bltn (v := .ty "int") (by rfl) T.b_int (by decide +kernel) rfl) pa_nil)))))))) (pss_one (ps_ret pe_bl)) pss_nil)
      (pss_one (ps_ret (pe_cmpR op_le (pv 1) (pv 0) (nomark _))))), ?_⟩
    refine ⟨_, rfl, _, _, _, _, _, rfl, .ty _, hd.ty, kit_ty (kB d), _, rfl, ite2 (fun e => ?_) (fun e => ?_)⟩
    · rw [isWf_of (.inl e)] at q
      exact iteT q
    · refine ⟨_, rfl, _, _, _, _, _, rfl, .ty _, hd.ty, kit_ty (kI d), _, rfl, ?_⟩
      cases hi : isI d with
      | false =>
        rw [isWf_of (.inr hi)] at q
        exact iteT q
      | true =>
        refine iteF ?_
        cases hd with
        | bl x => exact absurd rfl e
        | int n => exact ⟨_, rfl, _, rfl, l, n, rfl, rfl, q⟩
        | non => cases hi
        | str x => cases hi
        | tup h q => cases hi
        | lst n h q => cases hi
        | dic0 n h => cases hi
        | dic1 n h => cases hi
theorem dg_int {K : PySem.W.Frag} {fx H : Hp} {b : Bool} {v : V} {n : Int} (h : Dg K fx H b v (.int n)) : v = .int n := by
  cases h
  rfl
def sp_is_whole (K : PySem.W.Frag) : Sp := fun vs H Q _ => ∃ (fx : Hp) (b : Bool) (v : V) (d : PyData) (l m : Int), vs = [v, .int l, .int m] ∧ Dg K fx H b v d ∧ Q (.bl (isW d l m)) H
theorem ok_is_whole {f : Addr} {fd : FuncData} (F : Fun K "is_whole" "is_whole" s_is_whole f fd) (T : Txt K mg) (D_is_whole_from : Cl P w K mg base 1 "is_whole_from" ["thing", "least"] (sp_is_whole_from K)) : FnOk P w K mg base CX0 2 f fd ["thing", "least", "most"] (sp_is_whole K) := by
  refine F.ok sc_is_whole (fun vs H Q E h => ?_) (fun cdv A outer s H vs Q E hr h => ?_)
  · obtain ⟨fx, b, v, d, l, m, rfl, q⟩ := h
    rfl
  · obtain ⟨fx, b, v, d, l, m, rfl, hd, q⟩ := h
    refine ⟨_, (pss_one (ps_ret (pe_and (pe_own D_is_whole_from (hr.mono (by omega)) (by rfl) (pa_cons (pv 0) (pa_cons (pv 1) pa_nil))) (pe_one (pe_cmpR op_le (pv 0) (pv 2) (nomark _)))))), ?_⟩
    refine ⟨_, rfl, _, rfl, fx, b, v, d, l, rfl, hd, _, rfl, ?_⟩
    cases e : isWf d l with
    | false =>
      rw [isWf_no e] at q
      exact iteF q
    | true =>
      obtain ⟨n, rfl, e1⟩ := isWf_int e
      have ev := dg_int hd
      subst ev
      refine iteT ⟨_, rfl, _, rfl, n, m, rfl, rfl, ?_⟩
      rw [show isW (.int n) l m = decide (n ≤ m) by simp [isW, e1]] at q
      exact q
def sp_is_tuple (K : PySem.W.Frag) : Sp := fun vs H Q _ => ∃ (fx : Hp) (b : Bool) (v : V) (d : PyData) (l m : Int), vs = [v, .int l, .int m] ∧ Dg K fx H b v d ∧ Q (.bl (isTup d l m)) H
theorem ok_is_tuple {f : Addr} {fd : FuncData} (F : Fun K "is_tuple" "is_tuple" s_is_tuple f fd) (T : Txt K mg) : FnOk P w K mg base CX0 1 f fd ["thing", "least", "most"] (sp_is_tuple K) := by
  refine F.ok sc_is_tuple (fun vs H Q E h => ?_) (fun cdv A outer s H vs Q E hr h => ?_)
  · obtain ⟨fx, b, v, d, l, m, rfl, q⟩ := h
    rfl
  · obtain ⟨fx, b, v, d, l, m, rfl, hd, q⟩ := h
    refine ⟨_, (pss_one (ps_ret (pe_and (pe_callB call_isi (by rfl) T.b_isinstance (by decide +kernel) (pa_cons (pv 0) (pa_cons (pe_bltn (v := .ty "tuple") (by rfl) T.b_tuple (by decide +kernel) rfl) pa_nil))) (pe_one (pe_chain op_le op_le (pv 1) (pe_callB call_len_seq (by rfl) T.b_len (by decide +kernel) (pa_cons (pv 0) pa_nil)) (pv 2)))))), ?_⟩
    refine ⟨_, rfl, _, _, _, _, _, rfl, .ty _, hd.ty, kit_ty (kT d), _, rfl, ?_⟩
    cases hd with
    | @tup b a xs ds ha hall =>
      have hl := DgAll.len hall
      refine iteT ⟨_, rfl, _, rfl, a, xs, rfl, .inr ha, l, _, rfl, rfl, _, rfl, ite2 (fun e => ?_) (fun e => ?_)⟩
      · refine ⟨_, rfl, _, m, rfl, rfl, ?_⟩
        have e1 : l ≤ (xs.length : Int) := of_decide_eq_true e
        rw [show isTup (.tuple ds) l m = decide ((xs.length : Int) ≤ m) by simp [isTup, ← hl, e1]] at q
        exact q
      · have e1 : ¬ l ≤ (xs.length : Int) := fun z => e (decide_eq_true z)
        rw [show isTup (.tuple ds) l m = false by simp [isTup, ← hl, e1]] at q
        exact q
    | non => exact iteF q
    | bl x => exact iteF q
    | int i => exact iteF q
    | str x => exact iteF q
    | lst n h q' => exact iteF q
    | dic0 n h => exact iteF q
    | dic1 n h => exact iteF q
theorem tup_of {K : PySem.W.Frag} {fx : Hp} {H : Hp} {b : Bool} {v : V} {d : PyData} {l m : Int} (h : Dg K fx H b v d) (e : isTup d l m = true) : ∃ a xs ds, v = .ref a ∧ d = .tuple ds ∧ SqT K H a xs ∧ DgAll K fx H b xs ds ∧ l ≤ (ds.length : Int) ∧ (ds.length : Int) ≤ m := by
  cases h with
  | @tup b a xs ds ha hall =>
    have := of_decide_eq_true (show decide (l ≤ (ds.length : Int) ∧ (ds.length : Int) ≤ m) = true from e)
    exact ⟨a, xs, ds, rfl, rfl, ha, hall, this.1, this.2⟩
  | non => cases e
  | bl x => cases e
  | int i => cases e
  | str x => cases e
  | lst n h q' => cases e
  | dic0 n h => cases e
  | dic1 n h => cases e
theorem two_of {α : Type} {xs : List α} (h : xs.length = 2) : ∃ a b, xs = [a, b] := by
  match xs, h with
  | [a, b], _ => exact ⟨a, b, rfl⟩
theorem isRow_no {d : PyData} (h : isTup d 2 2 = false) : isRowD d = false := by
  unfold isRowD
  split
  · simp [isTup] at h
  · rfl
def sp_is_drawing (K : PySem.W.Frag) : Sp := fun vs H Q _ => ∃ (fx : Hp) (b : Bool) (v : V) (d : PyData), vs = [v] ∧ Dg K fx H b v d ∧ Q (.bl (isW d 0 9)) H
theorem ok_is_drawing {f : Addr} {fd : FuncData} (F : Fun K "is_drawing" "is_drawing" s_is_drawing f fd) (T : Txt K mg) (D_is_whole : Cl P w K mg base 2 "is_whole" ["thing", "least", "most"] (sp_is_whole K)) : FnOk P w K mg base CX0 3 f fd ["thing"] (sp_is_drawing K) := by
  refine F.ok sc_is_drawing (fun vs H Q E h => ?_) (fun cdv A outer s H vs Q E hr h => ?_)
  · obtain ⟨fx, b, v, d, rfl, q⟩ := h
    rfl
  · obtain ⟨fx, b, v, d, rfl, hd, q⟩ := h
    refine ⟨_, (pss_one (ps_ret (pe_own D_is_whole (hr.mono (by omega)) (by rfl) (pa_cons (pv 0) (pa_cons pe_int (pa_cons (pe_gint (by rfl) T.c_MOST_DRAWING) pa_nil)))))), ?_⟩
    exact ⟨_, rfl, fx, b, v, d, 0, 9, rfl, hd, q⟩
def sp_is_hold (K : PySem.W.Frag) : Sp := fun vs H Q _ => ∃ (fx : Hp) (b : Bool) (v : V) (d : PyData), vs = [v] ∧ Dg K fx H b v d ∧ Q (.bl (isW d 1 24)) H
theorem ok_is_hold {f : Addr} {fd : FuncData} (F : Fun K "is_hold" "is_hold" s_is_hold f fd) (T : Txt K mg) (D_is_whole : Cl P w K mg base 2 "is_whole" ["thing", "least", "most"] (sp_is_whole K)) : FnOk P w K mg base CX0 3 f fd ["thing"] (sp_is_hold K) := by
  refine F.ok sc_is_hold (fun vs H Q E h => ?_) (fun cdv A outer s H vs Q E hr h => ?_)
  · obtain ⟨fx, b, v, d, rfl, q⟩ := h
    rfl
  · obtain ⟨fx, b, v, d, rfl, hd, q⟩ := h
    refine ⟨_, (pss_one (ps_ret (pe_own D_is_whole (hr.mono (by omega)) (by rfl) (pa_cons (pv 0) (pa_cons pe_int (pa_cons (pe_gint (by rfl) T.c_MOST_HOLD) pa_nil)))))), ?_⟩
    exact ⟨_, rfl, fx, b, v, d, 1, 24, rfl, hd, q⟩
def sp_is_row (K : PySem.W.Frag) : Sp := fun vs H Q _ => ∃ (fx : Hp) (b : Bool) (v : V) (d : PyData), vs = [v] ∧ Dg K fx H b v d ∧ Q (.bl (isRowD d)) H
theorem ok_is_row {f : Addr} {fd : FuncData} (F : Fun K "is_row" "is_row" s_is_row f fd) (T : Txt K mg) (D_is_tuple : Cl P w K mg base 1 "is_tuple" ["thing", "least", "most"] (sp_is_tuple K)) (D_is_drawing : Cl P w K mg base 3 "is_drawing" ["thing"] (sp_is_drawing K)) (D_is_hold : Cl P w K mg base 3 "is_hold" ["thing"] (sp_is_hold K)) : FnOk P w K mg base CX0 4 f fd ["thing"] (sp_is_row K) := by
  refine F.ok sc_is_row (fun vs H Q E h => ?_) (fun cdv A outer s H vs Q E hr h => ?_)
  · obtain ⟨fx, b, v, d, rfl, q⟩ := h
    rfl
  · obtain ⟨fx, b, v, d, rfl, hd, q⟩ := h
    refine ⟨_, (pss_cons (ps_if (pt_not (pt_val (pe_own D_is_tuple (hr.mono (by omega)) (by rfl) (pa_cons (pv 0) (pa_cons pe_int (pa_cons pe_int pa_nil)))))) (pss_one (ps_ret pe_bl)) pss_nil)
      (pss_cons (ps_asg (pv 0) (pg_tup (by rfl) (pgs_cons (pg_name (i := 1) sc_is_row.nd rfl (Or.inl rfl)) (pgs_cons (pg_name (i := 2) sc_is_row.nd rfl (Or.inl rfl)) pgs_nil))))
      (pss_one (ps_ret (pe_and (pe_own D_is_drawing (hr.mono (by omega)) (by rfl) (pa_cons (pv 1) pa_nil)) (pe_one (pe_own D_is_hold (hr.mono (by omega)) (by rfl) (pa_cons (pv 2) pa_nil)))))))), ?_⟩
    refine ⟨_, rfl, fx, b, v, d, 2, 2, rfl, hd, _, rfl, ?_⟩
    cases et : isTup d 2 2 with
    | false =>
      rw [isRow_no et] at q
      exact iteT q
    | true =>
      obtain ⟨a, xs, ds, rfl, rfl, ha, hall, l1, l2⟩ := tup_of hd et
      obtain ⟨d1, d2, rfl⟩ := two_of (show ds.length = 2 by omega)
      cases hall with | @cons _ v1 _ _ _ h1 hr =>
      cases hr with | @cons _ v2 _ _ _ h2 hn =>
      cases hn
      refine iteF ?_
      refine ⟨_, rfl, a, _, rfl, ha, rfl, _, _, rfl, _, _, rfl, rfl, ?_⟩
      refine ⟨_, rfl, fx, b, v1, d1, rfl, h1, _, rfl, ?_⟩
      cases e1 : isW d1 0 9 with
      | false =>
        rw [show isRowD (.tuple [d1, d2]) = false by simp [isRowD, e1]] at q
        exact iteF q
      | true =>
        refine iteT ⟨_, rfl, fx, b, v2, d2, rfl, h2, ?_⟩
        rw [show isRowD (.tuple [d1, d2]) = isW d2 1 24 by simp [isRowD, e1]] at q
        exact q
def sp_is_layer (K : PySem.W.Frag) : Sp := fun vs H Q _ => ∃ (fx : Hp) (b : Bool) (v : V) (d : PyData), vs = [v] ∧ Dg K fx H b v d ∧ ∀ H', Same H H' → Q (.bl (isLayD d)) H'
theorem isLay_no {d : PyData} (h : isTup d 2 2 = false) : isLayD d = false := by
  unfold isLayD
  split
  · simp [isTup] at h
  · rfl
theorem isLay_no2 {r b : PyData} (h : isTup r 0 8 = false) : isLayD (.tuple [r, b]) = false := by
  unfold isLayD
  split
  · rename_i rs b' e
    cases e
    have : ¬ rs.length ≤ 8 := by
      intro z
      have : isTup (.tuple rs) 0 8 = true := decide_eq_true ⟨by omega, by omega⟩
      rw [this] at h
      cases h
    simp [this]
  · rfl
theorem ok_is_layer {f : Addr} {fd : FuncData} (F : Fun K "is_layer" "is_layer" s_is_layer f fd) (T : Txt K mg) (D_is_tuple : Cl P w K mg base 1 "is_tuple" ["thing", "least", "most"] (sp_is_tuple K)) (D_is_row : Cl P w K mg base 4 "is_row" ["thing"] (sp_is_row K)) (D_is_whole : Cl P w K mg base 2 "is_whole" ["thing", "least", "most"] (sp_is_whole K)) : FnOk P w K mg base CX0 5 f fd ["thing"] (sp_is_layer K) := by
  refine F.ok sc_is_layer (fun vs H Q E h => ?_) (fun cdv A outer s H vs Q E hr h => ?_)
  · obtain ⟨fx, b, v, d, rfl, q⟩ := h
    rfl
  · obtain ⟨fx, b, v, d, rfl, hd, q⟩ := h
    refine ⟨_, (pss_cons (ps_if (pt_not (pt_val (pe_own D_is_tuple (hr.mono (by omega)) (by rfl) (pa_cons (pv 0) (pa_cons pe_int (pa_cons pe_int pa_nil)))))) (pss_one (ps_ret pe_bl)) pss_nil)
      (pss_cons (ps_asg (pv 0) (pg_tup (by rfl) (pgs_cons (pg_name (i := 1) sc_is_layer.nd rfl (Or.inl rfl)) (pgs_cons (pg_name (i := 2) sc_is_layer.nd rfl (Or.inl rfl)) pgs_nil))))
      (pss_cons (ps_if (PW.pt (pw_or (pt_not (pt_val (pe_own D_is_tuple (hr.mono (by omega)) (by rfl) (pa_cons (pv 1) (pa_cons pe_int (pa_cons (pe_gint (by rfl) T.c_MOST_ROWS) pa_nil)))))) (pw_or1 (pt_not (pt_val (pe_callB (cr_all rfl) (by rfl) T.b_all (by decide +kernel) (pa_cons (pe_lc (own := [("row", 3)]) (g := (gName 3)) (tt := tYes) (by rfl) sc_is_layer.nd (pi_tup (pv 1)) (blkOk_by (own := [("row", 3)]) (N := ["thing", "rows", "back", "row"]) (sc := defScope s_is_layer) (by decide +kernel)) (fun _ _ _ _ _ => (pg_name (i := 3) sc_is_layer.nd rfl (Or.inl rfl))) (fun _ _ _ _ _ => pts_nil) (fun _ _ _ _ _ => (pe_own D_is_row (hr.mono (by omega)) (by rfl) (pa_cons (pv 3) pa_nil)))) pa_nil))))))) (pss_one (ps_ret pe_bl)) pss_nil)
      (pss_one (ps_ret (pe_or (pe_cmpR op_isN (pv 2) pe_non (nomark _)) (pe_one (pe_own D_is_whole (hr.mono (by omega)) (by rfl) (pa_cons (pv 2) (pa_cons pe_int (pa_cons (pe_op op_sub (pe_callB call_len_seq (by rfl) T.b_len (by decide +kernel) (pa_cons (pv 1) pa_nil)) pe_int) pa_nil))))))))))), ?_⟩
    refine ⟨_, rfl, fx, b, v, d, 2, 2, rfl, hd, _, rfl, ?_⟩
    cases et : isTup d 2 2 with
    | false =>
      rw [isLay_no et] at q
      exact iteT (q _ (Same.refl _))
    | true =>
      obtain ⟨a, xs, ds, rfl, rfl, ha, hall, l1, l2⟩ := tup_of hd et
      obtain ⟨d1, d2, rfl⟩ := two_of (show ds.length = 2 by omega)
      cases hall with | @cons _ v1 _ _ _ h1 hr =>
      cases hr with | @cons _ v2 _ _ _ h2 hn =>
      cases hn
      refine iteF ?_
      refine ⟨_, rfl, a, _, rfl, ha, rfl, _, _, rfl, _, _, rfl, rfl, ?_⟩
      refine ⟨_, rfl, fx, b, v1, d1, 0, 8, rfl, h1, _, rfl, ?_⟩
      cases e8 : isTup d1 0 8 with
      | false =>
        rw [isLay_no2 e8] at q
        exact iteT (iteT (q _ (Same.refl _)))
      | true =>
        obtain ⟨pr, vs, rs, rfl, rfl, hq, pd, _, l8⟩ := tup_of h1 e8
        have hl := DgAll.len pd
        refine iteF ?_
        refine ⟨_, rfl, pr, rfl, ⟨_, hq⟩, fun D hD => ?_⟩
        refine lcmap_tup ((rs.map isRowD).map V.bl) (by simp [hl]) (by omega) hq hD (fun i x y H2 R Z hx hy s2 hR => ?_) (fun H2 s2 hL => ?_)
        · obtain ⟨r, hr1, hrow⟩ := DgAll.at pd hx
          have ey : y = .bl (isRowD r) := by
            rw [List.map_map, List.getElem?_map, hr1] at hy
            exact (Option.some.inj hy).symm
          subst ey
          exact ⟨rfl, yes_ok ⟨_, rfl, fx, b, x, r, rfl, hrow.sm s2, hR _ (Same.refl _)⟩⟩
        · refine ⟨D, _, rfl, .inl (.inl hL), _, rfl, ?_⟩
          have hdef : isLayD (.tuple [.tuple rs, d2]) = ((rs.map isRowD).all id && bkOk d2 ((rs.length : Int) - 1)) := by
            have z : decide (rs.length ≤ 8) = true := decide_eq_true (by omega)
            show (decide (rs.length ≤ 8) && rs.all isRowD && bkOk d2 ((rs.length : Int) - 1)) = _
            rw [z, List.all_map]
            rfl
          cases ea : (rs.map isRowD).all id with
          | false =>
            rw [ea] at hdef
            rw [show isLayD (.tuple [.tuple rs, d2]) = false from hdef] at q
            exact iteT (q _ s2)
          | true =>
            rw [ea, Bool.true_and] at hdef
            refine iteF ?_
            refine ⟨_, rfl, rfl, _, rfl, ?_⟩
            cases h2 with
            | non =>
              rw [hdef] at q
              exact ite2 (fun _ => q _ s2) (fun e => absurd (decide_eq_true rfl) e)
            | bl x =>
              rw [hdef] at q
              exact ite2 (fun e => nomatch (of_decide_eq_true e)) (fun _ => ⟨_, rfl, _, rfl, pr, vs, rfl, .inr (Same.sqT s2 hq), _, _, rfl, rfl, fx, b, _, _, 0, _, rfl, .bl x, q _ s2⟩)
            | int n =>
              rw [hdef, ← hl] at q
              exact ite2 (fun e => nomatch (of_decide_eq_true e)) (fun _ => ⟨_, rfl, _, rfl, pr, vs, rfl, .inr (Same.sqT s2 hq), _, _, rfl, rfl, fx, b, _, _, 0, _, rfl, .int n, q _ s2⟩)
            | str x =>
              rw [hdef] at q
              exact ite2 (fun e => nomatch (of_decide_eq_true e)) (fun _ => ⟨_, rfl, _, rfl, pr, vs, rfl, .inr (Same.sqT s2 hq), _, _, rfl, rfl, fx, b, _, _, 0, _, rfl, .str x, q _ s2⟩)
            | @tup _ a' xs' ds' h' q' =>
              rw [hdef] at q
              exact ite2 (fun e => nomatch (of_decide_eq_true e)) (fun _ => ⟨_, rfl, _, rfl, pr, vs, rfl, .inr (Same.sqT s2 hq), _, _, rfl, rfl, fx, b, _, _, 0, _, rfl, (Dg.tup h' q').sm s2, q _ s2⟩)
            | @lst a' xs' ds' n' h' q' =>
              rw [hdef] at q
              exact ite2 (fun e => nomatch (of_decide_eq_true e)) (fun _ => ⟨_, rfl, _, rfl, pr, vs, rfl, .inr (Same.sqT s2 hq), _, _, rfl, rfl, fx, true, _, _, 0, _, rfl, (Dg.lst n' h' q').sm s2, q _ s2⟩)
            | @dic0 a' n' h' =>
              rw [hdef] at q
              exact ite2 (fun e => nomatch (of_decide_eq_true e)) (fun _ => ⟨_, rfl, _, rfl, pr, vs, rfl, .inr (Same.sqT s2 hq), _, _, rfl, rfl, fx, false, _, _, 0, _, rfl, (Dg.dic0 n' h').sm s2, q _ s2⟩)
            | @dic1 a' k' i' n' h' =>
              rw [hdef] at q
              exact ite2 (fun e => nomatch (of_decide_eq_true e)) (fun _ => ⟨_, rfl, _, rfl, pr, vs, rfl, .inr (Same.sqT s2 hq), _, _, rfl, rfl, fx, false, _, _, 0, _, rfl, (Dg.dic1 n' h').sm s2, q _ s2⟩)
end

section
variable {P : Program} {w : World} {K : PySem.W.Frag} {mg : Str → Option Value} {base : Heap}
def sp_is_way (K : PySem.W.Frag) : Sp := fun vs H Q _ => ∃ (fx : Hp) (b : Bool) (v : V) (d : PyData), vs = [v] ∧ Dg K fx H b v d ∧ Q (.bl (isW d (-20) 20)) H
theorem ok_is_way {f : Addr} {fd : FuncData} (F : Fun K "is_way" "is_way" s_is_way f fd) (T : Txt K mg) (D_is_whole : Cl P w K mg base 2 "is_whole" ["thing", "least", "most"] (sp_is_whole K)) : FnOk P w K mg base CX0 3 f fd ["thing"] (sp_is_way K) := by
  refine F.ok sc_is_way (fun vs H Q E h => ?_) (fun cdv A outer s H vs Q E hr h => ?_)
  · obtain ⟨fx, b, v, d, rfl, q⟩ := h
    rfl
  · obtain ⟨fx, b, v, d, rfl, hd, q⟩ := h
    refine ⟨_, (pss_one (ps_ret (pe_own D_is_whole (hr.mono (by omega)) (by rfl) (pa_cons (pv 0) (pa_cons (pe_un un_neg (pe_gint (by rfl) T.c_MOST_WAY)) (pa_cons (pe_gint (by rfl) T.c_MOST_WAY) pa_nil)))))), ?_⟩
    exact ⟨_, rfl, 20, rfl, fx, b, v, d, -20, 20, rfl, hd, q⟩
def sp_is_many (K : PySem.W.Frag) : Sp := fun vs H Q _ => ∃ (fx : Hp) (b : Bool) (v : V) (d : PyData), vs = [v] ∧ Dg K fx H b v d ∧ Q (.bl (isW d 0 24)) H
theorem ok_is_many {f : Addr} {fd : FuncData} (F : Fun K "is_many" "is_many" s_is_many f fd) (T : Txt K mg) (D_is_whole : Cl P w K mg base 2 "is_whole" ["thing", "least", "most"] (sp_is_whole K)) : FnOk P w K mg base CX0 3 f fd ["thing"] (sp_is_many K) := by
  refine F.ok sc_is_many (fun vs H Q E h => ?_) (fun cdv A outer s H vs Q E hr h => ?_)
  · obtain ⟨fx, b, v, d, rfl, q⟩ := h
    rfl
  · obtain ⟨fx, b, v, d, rfl, hd, q⟩ := h
    refine ⟨_, (pss_one (ps_ret (pe_own D_is_whole (hr.mono (by omega)) (by rfl) (pa_cons (pv 0) (pa_cons pe_int (pa_cons (pe_gint (by rfl) T.c_MOST_MANY) pa_nil)))))), ?_⟩
    exact ⟨_, rfl, fx, b, v, d, 0, 24, rfl, hd, q⟩
def sp_is_move (K : PySem.W.Frag) : Sp := fun vs H Q _ => ∃ (fx : Hp) (b : Bool) (v : V) (d : PyData), vs = [v] ∧ Dg K fx H b v d ∧ Q (.bl (isMoveD d)) H
theorem ok_is_move {f : Addr} {fd : FuncData} (F : Fun K "is_move" "is_move" s_is_move f fd) (T : Txt K mg) (D_is_tuple : Cl P w K mg base 1 "is_tuple" ["thing", "least", "most"] (sp_is_tuple K)) (D_is_way : Cl P w K mg base 3 "is_way" ["thing"] (sp_is_way K)) (D_is_many : Cl P w K mg base 3 "is_many" ["thing"] (sp_is_many K)) : FnOk P w K mg base CX0 4 f fd ["thing"] (sp_is_move K) := by
  refine F.ok sc_is_move (fun vs H Q E h => ?_) (fun cdv A outer s H vs Q E hr h => ?_)
  · obtain ⟨fx, b, v, d, rfl, _⟩ := h
    rfl
  · obtain ⟨fx, b, v, d, rfl, hd, q⟩ := h
    refine ⟨_, (pss_cons (ps_if (pt_not (pt_val (pe_own D_is_tuple (hr.mono (by omega)) (by rfl) (pa_cons (pv 0) (pa_cons pe_int (pa_cons pe_int pa_nil)))))) (pss_one (ps_ret pe_bl)) pss_nil)
      (pss_cons (ps_asg (pv 0) (pg_tup (by rfl) (pgs_cons (pg_name (i := 1) sc_is_move.nd rfl (Or.inl rfl)) (pgs_cons (pg_name (i := 2) sc_is_move.nd rfl (Or.inl rfl)) (pgs_cons (pg_name (i := 3) sc_is_move.nd rfl (Or.inl rfl)) pgs_nil)))))
      (pss_one (ps_ret (pe_and (pe_own D_is_way (hr.mono (by omega)) (by rfl) (pa_cons (pv 1) pa_nil)) (pe_and (pe_own D_is_way (hr.mono (by omega)) (by rfl) (pa_cons (pv 2) pa_nil)) (pe_one (pe_own D_is_many (hr.mono (by omega)) (by rfl) (pa_cons (pv 3) pa_nil))))))))), ?_⟩
    refine ⟨_, rfl, fx, b, v, d, 3, 3, rfl, hd, _, rfl, ?_⟩
    cases et : isTup d 3 3 with
    | false =>
      rw [mv_no et] at q
      exact iteT q
    | true =>
      obtain ⟨a, xs, ds, rfl, rfl, ha, hall, l1, l2⟩ := tup_of hd et
      obtain ⟨d1, d2, d3, rfl⟩ := three_of (show ds.length = 3 by omega)
      cases hall with | @cons _ v1 _ _ _ h1 hr =>
      cases hr with | @cons _ v2 _ _ _ h2 hr =>
      cases hr with | @cons _ v3 _ _ _ h3 hn =>
      cases hn
      have q' : Q (.bl ((isW d1 (-20) 20 && isW d2 (-20) 20) && isW d3 0 24)) H := q
      refine iteF ?_
      refine ⟨_, rfl, a, _, rfl, ha, rfl, _, _, rfl, _, _, rfl, _, _, rfl, rfl, ?_⟩
      refine ⟨_, rfl, fx, b, v1, d1, rfl, h1, _, rfl, ?_⟩
      cases e1 : isW d1 (-20) 20 with
      | false =>
        rw [e1] at q'
        exact iteF q'
      | true =>
        rw [e1, Bool.true_and] at q'
        refine iteT ⟨_, rfl, fx, b, v2, d2, rfl, h2, _, rfl, ?_⟩
        cases e2 : isW d2 (-20) 20 with
        | false =>
          rw [e2] at q'
          exact iteF q'
        | true =>
          rw [e2, Bool.true_and] at q'
          exact iteT ⟨_, rfl, fx, b, v3, d3, rfl, h3, q'⟩
def sp_is_window (K : PySem.W.Frag) : Sp := fun vs H Q _ => ∃ (fx : Hp) (b : Bool) (v : V) (d : PyData), vs = [v] ∧ Dg K fx H b v d ∧ ∀ H', Same H H' → Q (.bl (isWinD d)) H'
theorem ok_is_window {f : Addr} {fd : FuncData} (F : Fun K "is_window" "is_window" s_is_window f fd) (T : Txt K mg) (D_is_tuple : Cl P w K mg base 1 "is_tuple" ["thing", "least", "most"] (sp_is_tuple K)) (D_is_way : Cl P w K mg base 3 "is_way" ["thing"] (sp_is_way K)) (D_is_move : Cl P w K mg base 4 "is_move" ["thing"] (sp_is_move K)) : FnOk P w K mg base CX0 5 f fd ["thing"] (sp_is_window K) := by
  refine F.ok sc_is_window (fun vs H Q E h => ?_) (fun cdv A outer s H vs Q E hr h => ?_)
  · obtain ⟨fx, b, v, d, rfl, _⟩ := h
    rfl
  · obtain ⟨fx, b, v, d, rfl, hd, q⟩ := h
    refine ⟨_, (pss_cons (ps_if (pt_not (pt_val (pe_own D_is_tuple (hr.mono (by omega)) (by rfl) (pa_cons (pv 0) (pa_cons pe_int (pa_cons pe_int pa_nil)))))) (pss_one (ps_ret pe_bl)) pss_nil)
      (pss_cons (ps_asg (pv 0) (pg_tup (by rfl) (pgs_cons (pg_name (i := 1) sc_is_window.nd rfl (Or.inl rfl)) (pgs_cons (pg_name (i := 2) sc_is_window.nd rfl (Or.inl rfl)) (pgs_cons (pg_name (i := 3) sc_is_window.nd rfl (Or.inl rfl)) pgs_nil)))))
      (pss_cons (ps_if (PW.pt (pw_or (pt_not (pt_val (pe_own D_is_way (hr.mono (by omega)) (by rfl) (pa_cons (pv 1) pa_nil)))) (pw_or (pt_not (pt_val (pe_own D_is_way (hr.mono (by omega)) (by rfl) (pa_cons (pv 2) pa_nil)))) (pw_or1 (pt_not (pt_val (pe_own D_is_tuple (hr.mono (by omega)) (by rfl) (pa_cons (pv 3) (pa_cons pe_int (pa_cons (pe_gint (by rfl) T.c_MOST_MOVES) pa_nil)))))))))) (pss_one (ps_ret pe_bl)) pss_nil)
      (pss_one (ps_ret (pe_callB (cr_all rfl) (by rfl) T.b_all (by decide +kernel) (pa_cons (pe_lc (own := [("move", 4)]) (g := (gName 4)) (tt := tYes) (by rfl) sc_is_window.nd (pi_tup (pv 3)) (blkOk_by (own := [("move", 4)]) (N := ["thing", "x", "y", "moves", "move"]) (sc := defScope s_is_window) (by decide +kernel)) (fun _ _ _ _ _ => (pg_name (i := 4) sc_is_window.nd rfl (Or.inl rfl))) (fun _ _ _ _ _ => pts_nil) (fun _ _ _ _ _ => (pe_own D_is_move (hr.mono (by omega)) (by rfl) (pa_cons (pv 4) pa_nil)))) pa_nil))))))), ?_⟩
    refine ⟨_, rfl, fx, b, v, d, 3, 3, rfl, hd, _, rfl, ?_⟩
    cases et : isTup d 3 3 with
    | false =>
      rw [win_no et] at q
      exact iteT (q _ (Same.refl _))
    | true =>
      obtain ⟨a, xs, ds, rfl, rfl, ha, hall, l1, l2⟩ := tup_of hd et
      obtain ⟨d1, d2, d3, rfl⟩ := three_of (show ds.length = 3 by omega)
      cases hall with | @cons _ v1 _ _ _ h1 hr =>
      cases hr with | @cons _ v2 _ _ _ h2 hr =>
      cases hr with | @cons _ v3 _ _ _ h3 hn =>
      cases hn
      refine iteF ?_
      refine ⟨_, rfl, a, _, rfl, ha, rfl, _, _, rfl, _, _, rfl, _, _, rfl, rfl, ?_⟩
      have nsp : isSpotD d1 d2 = false → isWinD (.tuple [d1, d2, d3]) = false := fun e1 => by
        cases d3 with
        | tuple ms =>
          show (isSpotD d1 d2 && decide (ms.length ≤ 8) && ms.all isMoveD) = false
          rw [e1]
          rfl
        | _ => rfl
      refine ⟨_, rfl, fx, b, v1, d1, rfl, h1, _, rfl, ?_⟩
      cases x1 : isW d1 (-20) 20 with
      | false =>
        rw [nsp (by simp [isSpotD, x1])] at q
        exact iteT (iteT (q _ (Same.refl _)))
      | true =>
       refine iteF ?_
       refine ⟨_, rfl, fx, b, v2, d2, rfl, h2, _, rfl, ?_⟩
       cases x2 : isW d2 (-20) 20 with
       | false =>
        rw [nsp (by simp [isSpotD, x2])] at q
        exact iteT (iteT (q _ (Same.refl _)))
       | true =>
        have e1 : isSpotD d1 d2 = true := by simp [isSpotD, x1, x2]
        refine iteF ?_
        refine ⟨_, rfl, fx, b, v3, d3, 0, 8, rfl, h3, _, rfl, ?_⟩
        cases e8 : isTup d3 0 8 with
        | false =>
          rw [win_no2 e8] at q
          exact iteT (q _ (Same.refl _))
        | true =>
          obtain ⟨pm, vs, ms, rfl, rfl, hq, pd, _, l8⟩ := tup_of h3 e8
          have hl := DgAll.len pd
          rw [win_eq (by omega), e1, Bool.true_and] at q
          refine iteF ?_
          refine ⟨_, rfl, pm, rfl, ⟨_, hq⟩, fun D hD => ?_⟩
          refine lcmap_tup ((ms.map isMoveD).map V.bl) (by simp [hl]) (by omega) hq hD (fun i x y H2 R Z hx hy s2 hR => ?_) (fun H2 s2 hL => ?_)
          · obtain ⟨r, hr1, hrow⟩ := DgAll.at pd hx
            have ey : y = .bl (isMoveD r) := by
              rw [List.map_map, List.getElem?_map, hr1] at hy
              exact (Option.some.inj hy).symm
            subst ey
            exact ⟨rfl, yes_ok ⟨_, rfl, fx, b, x, r, rfl, hrow.sm s2, hR _ (Same.refl _)⟩⟩
          · refine ⟨D, _, rfl, .inl (.inl hL), ?_⟩
            rw [List.all_map]
            exact q _ s2
def sp_is_sheet (K : PySem.W.Frag) : Sp := fun vs H Q _ => ∃ (fx : Hp) (b : Bool) (v : V) (d : PyData), vs = [v] ∧ Dg K fx H b v d ∧ ∀ H', Same H H' → Q (.bl (isShD d)) H'
theorem ok_is_sheet {f : Addr} {fd : FuncData} (F : Fun K "is_sheet" "is_sheet" s_is_sheet f fd) (T : Txt K mg) (D_is_tuple : Cl P w K mg base 1 "is_tuple" ["thing", "least", "most"] (sp_is_tuple K)) (D_is_window : Cl P w K mg base 5 "is_window" ["thing"] (sp_is_window K)) (D_is_layer : Cl P w K mg base 5 "is_layer" ["thing"] (sp_is_layer K)) : FnOk P w K mg base CX0 6 f fd ["thing"] (sp_is_sheet K) := by
  refine F.ok sc_is_sheet (fun vs H Q E h => ?_) (fun cdv A outer s H vs Q E hr h => ?_)
  · obtain ⟨fx, b, v, d, rfl, _⟩ := h
    rfl
  · obtain ⟨fx, b, v, d, rfl, hd, q⟩ := h
    refine ⟨_, (pss_cons (ps_if (pt_not (pt_val (pe_own D_is_tuple (hr.mono (by omega)) (by rfl) (pa_cons (pv 0) (pa_cons pe_int (pa_cons pe_int pa_nil)))))) (pss_one (ps_ret pe_bl)) pss_nil)
      (pss_cons (ps_asg (pv 0) (pg_tup (by rfl) (pgs_cons (pg_name (i := 1) sc_is_sheet.nd rfl (Or.inl rfl)) (pgs_cons (pg_name (i := 2) sc_is_sheet.nd rfl (Or.inl rfl)) pgs_nil))))
      (pss_cons (ps_if (pt_not (pt_val (pe_own D_is_tuple (hr.mono (by omega)) (by rfl) (pa_cons (pv 1) (pa_cons pe_int (pa_cons (pe_gint (by rfl) T.c_MOST_LAYERS) pa_nil)))))) (pss_one (ps_ret pe_bl)) pss_nil)
      (pss_one (ps_ret (pe_and (pe_callB (cr_all rfl) (by rfl) T.b_all (by decide +kernel) (pa_cons (pe_lc (own := [("layer", 3)]) (g := (gName 3)) (tt := tYes) (by rfl) sc_is_sheet.nd (pi_tup (pv 1)) (blkOk_by (own := [("layer", 3)]) (N := ["thing", "layers", "window", "layer"]) (sc := defScope s_is_sheet) (by decide +kernel)) (fun _ _ _ _ _ => (pg_name (i := 3) sc_is_sheet.nd rfl (Or.inl rfl))) (fun _ _ _ _ _ => pts_nil) (fun _ _ _ _ _ => (pe_own D_is_layer (hr.mono (by omega)) (by rfl) (pa_cons (pv 3) pa_nil)))) pa_nil)) (pe_one (pe_own D_is_window (hr.mono (by omega)) (by rfl) (pa_cons (pv 2) pa_nil))))))))), ?_⟩
    refine ⟨_, rfl, fx, b, v, d, 2, 2, rfl, hd, _, rfl, ?_⟩
    cases et : isTup d 2 2 with
    | false =>
      rw [sh_no et] at q
      exact iteT (q _ (Same.refl _))
    | true =>
      obtain ⟨a, xs, ds, rfl, rfl, ha, hall, l1, l2⟩ := tup_of hd et
      obtain ⟨d1, d2, rfl⟩ := two_of (show ds.length = 2 by omega)
      cases hall with | @cons _ v1 _ _ _ h1 hr =>
      cases hr with | @cons _ v2 _ _ _ h2 hn =>
      cases hn
      refine iteF ?_
      refine ⟨_, rfl, a, _, rfl, ha, rfl, _, _, rfl, _, _, rfl, rfl, ?_⟩
      refine ⟨_, rfl, fx, b, v1, d1, 1, 4, rfl, h1, _, rfl, ?_⟩
      cases e4 : isTup d1 1 4 with
      | false =>
        rw [sh_no2 e4] at q
        exact iteT (q _ (Same.refl _))
      | true =>
        obtain ⟨pl, vs, ls, rfl, rfl, hq, pd, l1', l4⟩ := tup_of h1 e4
        have hl := DgAll.len pd
        rw [sh_eq ⟨by omega, by omega⟩] at q
        refine iteF ?_
        refine ⟨_, rfl, pl, rfl, ⟨_, hq⟩, fun D hD => ?_⟩
        refine lcmap_tup ((ls.map isLayD).map V.bl) (by simp [hl]) (by omega) hq hD (fun i x y H2 R Z hx hy s2 hR => ?_) (fun H2 s2 hL => ?_)
        · obtain ⟨r, hr1, hrow⟩ := DgAll.at pd hx
          have ey : y = .bl (isLayD r) := by
            rw [List.map_map, List.getElem?_map, hr1] at hy
            exact (Option.some.inj hy).symm
          subst ey
          exact ⟨rfl, yes_ok ⟨_, rfl, fx, b, x, r, rfl, hrow.sm s2, hR⟩⟩
        · refine ⟨D, _, rfl, .inl (.inl hL), _, rfl, ?_⟩
          rw [List.all_map]
          show if (ls.all isLayD) = true then _ else _
          cases ea : ls.all isLayD with
          | false =>
            rw [ea] at q
            exact iteF (q _ s2)
          | true =>
            rw [ea, Bool.true_and] at q
            exact iteT ⟨_, rfl, fx, b, v2, d2, rfl, h2.sm s2, fun H3 s3 => q _ (s2.trans s3)⟩
end

theorem wr_no {z : Str} (h : ¬ (Txt.isascii (figs z) = true ∧ Txt.isdigit (figs z) = true)) : wrN z = false := decide_eq_false fun g => h ((ascdig _).mpr ⟨g.1.1, g.1.2.1⟩)
theorem str_lst (ws : List Str) (k : Nat) (z : Str) (h : ws[k]? = some z) : (ws.map V.str)[k]? = some (.str z) := by
  rw [List.getElem?_map, h]
  rfl
abbrev FX0 : Hp := fun _ => some (.lst [])
abbrev DT (K : PySem.W.Frag) (H : Hp) (v : V) (d : PyData) : Prop := Dg K FX0 H true v d
theorem DT.keep {K : PySem.W.Frag} {H H' : Hp} {v : V} {d : PyData} (t : TKeep K H H') (h : DT K H v d) : DT K H' v d := Dg.kp t (fun _ _ e => by cases e) h
theorem dt_all {K : PySem.W.Frag} {H : Hp} : ∀ {vs : List V} {ds : List PyData}, Paired (DT K H) vs ds → DgAll K FX0 H true vs ds
  | _, _, .nil => .nil
  | _, _, .cons h t => .cons h (dt_all t)
theorem num_dt {K : PySem.W.Frag} {H : Hp} (z : Str) : DT K H (numV z) (numD z) := by
  unfold numV numD
  split
  · exact .int _
  · exact .str _
theorem nums_dt {K : PySem.W.Frag} {H : Hp} : ∀ zs : List Str, DgAll K FX0 H true (zs.map numV) (zs.map numD)
  | [] => .nil
  | z :: zs => .cons (num_dt z) (nums_dt zs)
theorem split_len {z b : Str} (hz : z.length ≤ 8000) : (Txt.split z b).length ≤ 8002 := Nat.le_trans (split_le z b) (by omega)
theorem lcnewB_list {α : Type} {K : PySem.W.Frag} {a : Addr} {xs : List V} {g : TG} {tt : TT} {te : TE} {vs : List Nat} {σ : L2.St} {H1 : Hp} {D : Addr} {Qd : Hp → Prop} (At : Hp → V → α → Prop) (as : List α) (keep : ∀ {H H' : Hp} {v : V} {c : α}, TKeep K H H' → At H v c → At H' v c) (hl : as.length = xs.length) (hz : xs.length ≤ 10000) (hS : SqL K H1 a xs) (hD : H1 D = none)
    (hs : ∀ (i : Nat) (x : V) (c : α) (H : Hp) (R : V → Hp → Prop) (Z : Hp → Prop), xs[i]? = some x → as[i]? = some c → Same H1 H → (∀ y H4, Same H H4 → At H4 y c → R y H4) → g x (wipe σ vs) H fun σ2 H2 => wipe σ2 vs = wipe σ vs ∧ tt σ2 H2 fun b H3 => if b = true then te σ2 H3 R else Z H3)
    (hd : ∀ H ts, Same H1 H → H D = some (.lst ts) → Paired (At H) ts as → Qd H) :
    ∃ W : Nat → Nat → Hp → Prop, (∃ m, W 0 m (upd H1 D (.lst []))) ∧ ∀ i m H, W i m H →
      ((Itl K a).stop i H ∧ Qd H) ∨ ((Itl K a).go i H ∧ ∃ Nx : Hp → Prop, (∀ H', Nx H' → ∃ m', m' < m ∧ W (i + 1) m' H') ∧ ∀ x H', (Itl K a).yld i H x H' → g x (wipe σ vs) H' fun σ2 H2 => wipe σ2 vs = wipe σ vs ∧ tt σ2 H2 fun b H3 =>
        if b = true then te σ2 H3 fun y H4 => ∃ acc, H4 D = some (.lst acc) ∧ acc.length < sizeLine ∧ Nx (upd H4 D (.lst (acc ++ [y]))) else Nx H3) := by
  refine lc_list (K := K) (a := a) (xs := xs) (fun i H => Same H1 H ∧ ∃ ts, H D = some (.lst ts) ∧ ts.length = i ∧ Paired (At H) ts (as.take i)) ⟨same_upd hD, [], upd_same, rfl, .nil⟩ (fun i H _ p => p.1.seq hS) (fun i x H hx p => ?_) (fun H p => ?_)
  · have hi : i < xs.length := (List.getElem?_eq_some_iff.mp hx).1
    obtain ⟨c, hc⟩ : ∃ c, as[i]? = some c := ⟨_, List.getElem?_eq_getElem (by omega)⟩
    obtain ⟨s0, ts, eD, lt, pd⟩ := p
    refine hs i x c H _ _ hx hc s0 (fun y H4 s4 hy => ⟨ts, s4 _ _ eD, Nat.lt_of_le_of_lt (show ts.length ≤ 10000 by omega) (by decide), ?_, ts ++ [y], upd_same, by rw [List.length_append, lt]; rfl, ?_⟩)
    · intro b o e
      rw [upd_ne (ne_of_none e hD)]
      exact s4 _ _ (s0 _ _ e)
    · have k : TKeep K H4 (upd H4 D (.lst (ts ++ [y]))) := fun a zs h => tk_updL (s4 _ _ eD) _ _ h
      rw [List.take_add_one, hc]
      exact Paired.snocP (Paired.mono pd fun _ _ h => keep k (keep (Same.tk s4) h)) (keep k hy)
  · obtain ⟨s0, ts, eD, lt, pd⟩ := p
    refine hd H ts s0 eD ?_
    rw [List.take_of_length_le (by omega)] at pd
    exact pd
section
variable {P : Program} {w : World} {K : PySem.W.Frag} {mg : Str → Option Value} {base : Heap}
def sp_writes_number (K : PySem.W.Frag) : Sp := fun vs H Q _ => ∃ z : Str, vs = [.str z] ∧ z.length ≤ 8000 ∧ Q (.bl (wrN z)) H
theorem ok_writes_number {f : Addr} {fd : FuncData} (F : Fun K "writes_number" "writes_number" s_writes_number f fd) (T : Txt K mg) : FnOk P w K mg base CX0 1 f fd ["word"] (sp_writes_number K) := by
  refine F.ok sc_writes_number (fun vs H Q E h => ?_) (fun cdv A outer s H vs Q E hr h => ?_)
  · obtain ⟨z, rfl, _⟩ := h
    rfl
  · obtain ⟨z, rfl, hz, q⟩ := h
    have l3 : z.length ≤ sizeLine := Nat.le_trans hz (by decide)
    have f3 : (figs z).length ≤ sizeLine := Nat.le_trans (figs_len z) l3
    have qt : wrN z = true → Q (.bl true) H := fun e => by rw [e] at q; exact q
    have qf : wrN z = false → Q (.bl false) H := fun e => by rw [e] at q; exact q
    refine ⟨_, (C8.pss_cut (ps_set (i := 1) sc_writes_number.nd rfl (Or.inl rfl) (pe_ifExp (pt_val (pe_bm PySem.F.plainAttrs_str PySem.F.slot_str_startswith PySem.F.type_str_startswith mt_startswith (pv 0) (pa_cons pe_str pa_nil))) (pe_slice sl_str (pv 0) (po_some pe_int) po_none) (pv 0)))
      (pss_cons (ps_if (PW.pt (pw_or (pt_not (pt_val (pe_bm0 PySem.F.plainAttrs_str PySem.F.slot_str_isascii PySem.F.type_str_isascii mt_isascii (pv 1)))) (pw_or (pt_not (pt_val (pe_bm0 PySem.F.plainAttrs_str PySem.F.slot_str_isdigit PySem.F.type_str_isdigit mt_isdigit (pv 1)))) (pw_or1 (pt_cmpR op_gt (pe_callB call_len_str (by rfl) T.b_len (by decide +kernel) (pa_cons (pv 1) pa_nil)) (pe_gint (by rfl) T.c_MOST_FIGURES) (nomark _)))))) (pss_one (ps_ret pe_bl)) pss_nil)
      (pss_one (ps_ret (pe_or (pe_cmpR op_eq (pv 0) pe_str (nomark _)) (pe_one (pe_cmpR op_ne (pe_ix ix_str (pv 1) pe_int (fun _ _ => rfl)) pe_str (nomark _)))))))), ?_⟩
    refine ⟨fun σ' H' => σ' = [some (.str z), some (.str (figs z))] ∧ H' = H, ?_, ?_⟩
    · refine ⟨_, rfl, rfl, _, _, rfl, rfl, _, rfl, ite2 (fun e => ?_) (fun e => ?_)⟩
      · refine ⟨_, rfl, 1, rfl, _, rfl, l3, ?_, rfl⟩
        show _ = [some (V.str z), some (V.str (if Txt.startswith z "-" = true then cutS z (some 1) none else z))]
        rw [if_pos e]
        rfl
      · refine ⟨_, rfl, ?_, rfl⟩
        show _ = [some (V.str z), some (V.str (if Txt.startswith z "-" = true then cutS z (some 1) none else z))]
        rw [if_neg e]
        rfl
    rintro σ H1 ⟨rfl, rfl⟩
    refine ⟨_, rfl, rfl, _, rfl, rfl, trivial, _, rfl, ?_⟩
    cases ea : Txt.isascii (figs z) with
    | false => exact iteT (qf (wr_no fun g => by rw [ea] at g; cases g.1))
    | true =>
    refine iteF ?_
    refine ⟨_, rfl, rfl, _, rfl, rfl, trivial, _, rfl, ?_⟩
    cases ed : Txt.isdigit (figs z) with
    | false => exact iteT (qf (wr_no fun g => by rw [ed] at g; cases g.2))
    | true =>
    refine iteF ?_
    obtain ⟨ne, ad⟩ := (ascdig (figs z)).mp ⟨ea, ed⟩
    refine ⟨_, rfl, _, rfl, f3, _, _, rfl, rfl, _, rfl, ite2 (fun e => ?_) (fun e => ?_)⟩
    · have e' : ((figs z).length : Int) > 30 := of_decide_eq_true e
      exact qf (decide_eq_false fun g => by have := g.2; omega)
    have l30 : (figs z).length ≤ 30 := by
      have : ¬ ((figs z).length : Int) > 30 := fun h => e (decide_eq_true h)
      omega
    obtain ⟨c, r, ec⟩ : ∃ c r, TL.tl (figs z) = c :: r := by
      cases e1 : TL.tl (figs z) with
      | nil => exact absurd e1 ne
      | cons c r => exact ⟨c, r, rfl⟩
    refine ⟨_, rfl, rfl, _, rfl, ite2 (fun e => ?_) (fun e => ?_)⟩
    · have e' : V.str z = .str "0" := of_decide_eq_true e
      exact qt (decide_eq_true ⟨⟨ne, ad, .inl (V.str.inj e')⟩, l30⟩)
    · have nz : z ≠ "0" := fun h => e (decide_eq_true (by rw [h]))
      refine ⟨_, rfl, _, _, c, rfl, rfl, f3, (by show atI (TL.tl (figs z)) 0 = some c; rw [ec]; exact at0), rfl, ?_⟩
      have e0 : ("0" : Str) = ⟨#[48]⟩ := by decide +kernel
      by_cases h48 : c = 48
      · have hv : V.str ⟨#[c]⟩ = .str "0" := by rw [h48, e0]
        rw [decide_eq_true hv]
        refine qf (decide_eq_false fun g => ?_)
        rcases g.1.2.2 with y | y
        · exact nz y
        · exact y (by rw [ec, h48]; rfl)
      · have hv : ¬ V.str ⟨#[c]⟩ = .str "0" := fun h => by
          have := V.str.inj h
          rw [e0] at this
          injection this with this
          injection this with this
          injection this with this
          exact h48 this
        rw [decide_eq_false hv]
        refine qt (decide_eq_true ⟨⟨ne, ad, .inr fun y => ?_⟩, l30⟩)
        rw [ec] at y
        exact h48 (Option.some.inj y)
def sp_number_in (K : PySem.W.Frag) : Sp := fun vs H Q _ => ∃ z : Str, vs = [.str z] ∧ z.length ≤ 8000 ∧ Q (numV z) H
theorem ok_number_in {f : Addr} {fd : FuncData} (F : Fun K "number_in" "number_in" s_number_in f fd) (T : Txt K mg) (D_writes_number : Cl P w K mg base 1 "writes_number" ["word"] (sp_writes_number K)) : FnOk P w K mg base CX0 2 f fd ["word"] (sp_number_in K) := by
  refine F.ok sc_number_in (fun vs H Q E h => ?_) (fun cdv A outer s H vs Q E hr h => ?_)
  · obtain ⟨i, rfl, _⟩ := h
    rfl
  · obtain ⟨z, rfl, hz, q⟩ := h
    refine ⟨_, (pss_one (ps_ret (pe_ifExp (pt_val (pe_own D_writes_number (hr.mono (by omega)) (by rfl) (pa_cons (pv 0) pa_nil))) (pe_callTy call_int_str (by rfl) T.b_int (by decide +kernel) (pa_cons (pv 0) pa_nil)) (pv 0)))), ?_⟩
    refine ⟨_, rfl, z, rfl, hz, _, rfl, ite2 (fun e => ?_) (fun e => ?_)⟩
    · have g := of_decide_eq_true e
      have l31 : z.length ≤ 31 := Nat.le_trans (len_figs z) (by have := g.2; omega)
      refine ⟨_, rfl, _, iv z, rfl, iv_int g.1 (Nat.le_trans l31 (by decide)), Nat.le_trans l31 (by decide), ?_⟩
      unfold numV at q
      rw [if_pos e] at q
      exact q
    · refine ⟨_, rfl, ?_⟩
      unfold numV at q
      rw [if_neg e] at q
      exact q
def sp_numbers_in (K : PySem.W.Frag) : Sp := fun vs H Q _ => ∃ (z b : Str), vs = [.str z, .str b] ∧ z.length ≤ 8000 ∧ b.length = 1 ∧ ∀ H' v, Same H H' → DT K H' v (tupD b z) → Q v H'
theorem ok_numbers_in {f : Addr} {fd : FuncData} (F : Fun K "numbers_in" "numbers_in" s_numbers_in f fd) (T : Txt K mg) (D_number_in : Cl P w K mg base 2 "number_in" ["word"] (sp_number_in K)) : FnOk P w K mg base CX0 3 f fd ["word", "between"] (sp_numbers_in K) := by
  refine F.ok sc_numbers_in (fun vs H Q E h => ?_) (fun cdv A outer s H vs Q E hr h => ?_)
  · obtain ⟨z, b, rfl, _⟩ := h
    rfl
  · obtain ⟨z, b, rfl, hz, hb, q⟩ := h
    refine ⟨_, (pss_one (ps_ret (pe_callTy call_tuple_of (by rfl) T.b_tuple (by decide +kernel) (pa_cons (pe_lc (own := [("part", 2)]) (g := (gName 2)) (tt := tYes) (by rfl) sc_numbers_in.nd (pi_list (pe_bm PySem.F.plainAttrs_str PySem.F.slot_str_split PySem.F.type_str_split mt_split (pv 0) (pa_cons (pv 1) pa_nil))) (blkOk_by (own := [("part", 2)]) (N := ["word", "between", "part"]) (sc := defScope s_numbers_in) (by decide +kernel)) (fun _ _ _ _ _ => (pg_name (i := 2) sc_numbers_in.nd rfl (Or.inl rfl))) (fun _ _ _ _ _ => pts_nil) (fun _ _ _ _ _ => (pe_own D_number_in (hr.mono (by omega)) (by rfl) (pa_cons (pv 2) pa_nil)))) pa_nil)))), ?_⟩
    refine ⟨_, rfl, rfl, _, rfl, _, _, rfl, rfl, by rw [hb]; rfl, Nat.le_trans (Nat.add_le_add_right hz 2) (by decide), fun p1 np1 => ?_⟩
    obtain ⟨s1, e1⟩ := new_at (.lst ((Txt.split z b).map V.str)) np1
    generalize upd H p1 (.lst ((Txt.split z b).map V.str)) = H1 at s1 e1 ⊢
    have lw := split_len (b := b) hz
    refine ⟨p1, rfl, ⟨_, .inl (.inl e1)⟩, fun D hD => ?_⟩
    refine lcnewB_list (fun _ v d => v = d) ((Txt.split z b).map numV) (fun _ h => h) (by simp) (by rw [List.length_map]; omega) (.inl (.inl e1)) hD (fun i x y H2 R Z hx hy s2 hR => ?_) (fun H2 ts s2 hL pd => ?_)
    · obtain ⟨x', hx', rfl⟩ := list_str2 hx
      rw [List.getElem?_map, hx'] at hy
      cases hy
      exact ⟨rfl, yes_ok ⟨_, rfl, x', rfl, Nat.le_trans (part_short (List.mem_of_getElem? hx')) hz, hR _ _ (Same.refl _) rfl⟩⟩
    · obtain rfl : ts = (Txt.split z b).map numV := pd_eq pd
      refine ⟨D, _, rfl, .inl ⟨.inl (.inl hL), fun l nl => ?_⟩⟩
      exact q _ _ ((s1.trans s2).trans (same_upd nl)) (.tup (.inl (.inl upd_same)) (nums_dt _))
end

theorem winIn_no {z w0 : Str} {t : List Str} (hs : Txt.split z " " = w0 :: t) (h : w0 ≠ "window" ∨ t.length < 2) : winInD z = .none := by
  unfold winInD
  rw [hs]
  match t, h with
  | [], _ => rfl
  | [_], _ => rfl
  | a :: b :: ws, h => exact if_neg (h.resolve_right (by simp))
theorem winIn_yes {z w1 w2 : Str} {ws : List Str} (hs : Txt.split z " " = ("window" : Str) :: w1 :: w2 :: ws) : winInD z = .tuple [numD w1, numD w2, .tuple (ws.map (tupD ","))] := by
  unfold winInD
  rw [hs]
  exact if_pos rfl
theorem layIn_no {z w0 : Str} {t : List Str} (hs : Txt.split z " " = w0 :: t) (h : w0 ≠ "layer" ∨ t.length < 1) : layInD z = .none := by
  unfold layInD
  rw [hs]
  match t, h with
  | [], _ => rfl
  | b :: ws, h => exact if_neg (h.resolve_right (by simp))
theorem layIn_yes {z w1 : Str} {ws : List Str} (hs : Txt.split z " " = ("layer" : Str) :: w1 :: ws) : layInD z = .tuple [.tuple (ws.map (tupD "x")), if w1 = "-" then .none else numD w1] := by
  unfold layInD
  rw [hs]
  exact if_pos rfl
theorem spl_cons (z b : Str) : ∃ w0 t, Txt.split z b = w0 :: t := by
  cases e : Txt.split z b with
  | nil => exact absurd e split1
  | cons a t => exact ⟨a, t, rfl⟩
theorem cut_3 (xs : List V) : cutV xs (some 3) none = xs.drop 3 := cut_from xs 3
theorem cut_2 (xs : List V) : cutV xs (some 2) none = xs.drop 2 := cut_from xs 2
theorem cut_1 (xs : List V) : cutV xs (some 1) none = xs.drop 1 := cut_from xs 1
theorem no_ne' {x y : V} (h : x ≠ y) : (!decide (x = y)) = true := by rw [decide_eq_false h]; rfl
theorem is_ne' {x y : V} (h : x = y) : ¬ (!decide (x = y)) = true := by rw [decide_eq_true h]; decide
section
variable {P : Program} {w : World} {K : PySem.W.Frag} {mg : Str → Option Value} {base : Heap}
def sp_window_in (K : PySem.W.Frag) : Sp := fun vs H Q _ => ∃ (z : Str), vs = [.str z] ∧ z.length ≤ 8000 ∧ ∀ H' v, Same H H' → DT K H' v (winInD z) → Q v H'
theorem ok_window_in {f : Addr} {fd : FuncData} (F : Fun K "window_in" "window_in" s_window_in f fd) (T : Txt K mg) (D_numbers_in : Cl P w K mg base 3 "numbers_in" ["word", "between"] (sp_numbers_in K)) (D_number_in : Cl P w K mg base 2 "number_in" ["word"] (sp_number_in K)) : FnOk P w K mg base CX0 4 f fd ["line"] (sp_window_in K) := by
  refine F.ok sc_window_in (fun vs H Q E h => ?_) (fun cdv A outer s H vs Q E hr h => ?_)
  · obtain ⟨z, rfl, _⟩ := h
    rfl
  · obtain ⟨z, rfl, hz, q⟩ := h
    refine ⟨_, (pss_cons (ps_set (i := 1) sc_window_in.nd rfl (Or.inl rfl) (pe_bm PySem.F.plainAttrs_str PySem.F.slot_str_split PySem.F.type_str_split mt_split (pv 0) (pa_cons pe_str pa_nil)))
      (pss_cons (ps_if (PW.pt (pw_or (pt_cmpR op_ne (pe_ix ix_list (pv 1) pe_int (fun _ _ => rfl)) pe_str (nomark _)) (pw_or1 (pt_cmpR op_lt (pe_callB call_len_seq (by rfl) T.b_len (by decide +kernel) (pa_cons (pv 1) pa_nil)) pe_int (nomark _))))) (pss_one (ps_ret pe_non)) pss_nil)
      (pss_cons (ps_set (i := 2) sc_window_in.nd rfl (Or.inl rfl) (pe_callTy call_tuple_of (by rfl) T.b_tuple (by decide +kernel) (pa_cons (pe_lc (own := [("word", 3)]) (g := (gName 3)) (tt := tYes) (by rfl) sc_window_in.nd (pi_list (pe_slice sl_list (pv 1) (po_some pe_int) po_none)) (blkOk_by (own := [("word", 3)]) (N := ["line", "words", "moves", "word"]) (sc := defScope s_window_in) (by decide +kernel)) (fun _ _ _ _ _ => (pg_name (i := 3) sc_window_in.nd rfl (Or.inl rfl))) (fun _ _ _ _ _ => pts_nil) (fun _ _ _ _ _ => (pe_own D_numbers_in (hr.mono (by omega)) (by rfl) (pa_cons (pv 3) (pa_cons pe_str pa_nil))))) pa_nil)))
      (pss_one (ps_ret (pe_tup (pa_cons (pe_own D_number_in (hr.mono (by omega)) (by rfl) (pa_cons (pe_ix ix_list (pv 1) pe_int (fun _ _ => rfl)) pa_nil)) (pa_cons (pe_own D_number_in (hr.mono (by omega)) (by rfl) (pa_cons (pe_ix ix_list (pv 1) pe_int (fun _ _ => rfl)) pa_nil)) (pa_cons (pv 2) pa_nil))))))))), ?_⟩
    refine ⟨_, rfl, rfl, _, _, rfl, rfl, by decide, Nat.le_trans (Nat.add_le_add_right hz 2) (by decide), fun p1 np1 => ?_⟩
    obtain ⟨w0, t, hs⟩ := spl_cons z " "
    have lw := split_len (b := " ") hz
    have lp : ∀ p ∈ Txt.split z " ", p.length ≤ 8000 := fun p hp => Nat.le_trans (part_short hp) hz
    rw [hs] at lw lp ⊢
    obtain ⟨s1, e1⟩ := new_at (.lst ((w0 :: t).map V.str)) np1
    generalize upd H p1 (.lst ((w0 :: t).map V.str)) = H1 at s1 e1 ⊢
    refine ⟨_, rfl, p1, _, 0, .str w0, rfl, rfl, .inl (.inl e1), at_n 0 rfl, rfl, _, rfl, ite2 (fun e => ?_) (fun e => ?_)⟩
    · have ne : w0 ≠ "window" := fun h => is_ne' (by rw [h]) e
      refine q _ _ s1 ?_
      rw [winIn_no hs (.inl ne)]
      exact .non
    refine ⟨_, rfl, p1, _, rfl, .inl (.inl (.inl e1)), _, 3, rfl, rfl, _, rfl, ite2 (fun e => ?_) (fun e => ?_)⟩
    · have l3 : (((w0 :: t).map V.str).length : Int) < 3 := of_decide_eq_true e
      rw [List.length_map, List.length_cons] at l3
      refine q _ _ s1 ?_
      rw [winIn_no hs (.inr (by omega))]
      exact .non
    rename_i e0
    obtain rfl : w0 = "window" := by
      refine Classical.byContradiction fun h => e0 (no_ne' fun y => h (V.str.inj y))
    obtain ⟨w1, w2, ws, rfl⟩ : ∃ w1 w2 ws, t = w1 :: w2 :: ws := by
      match t, e with
      | [], e => exact absurd (decide_eq_true (by show (1 : Int) < 3; decide)) e
      | [_], e => exact absurd (decide_eq_true (by show (2 : Int) < 3; decide)) e
      | a :: b :: ws, _ => exact ⟨a, b, ws, rfl⟩
    refine ⟨_, rfl, 3, rfl, p1, _, rfl, .inl (.inl e1), fun p2 np2 => ?_⟩
    rw [cut_3, show ((("window" : Str) :: w1 :: w2 :: ws).map V.str).drop 3 = ws.map V.str from rfl]
    obtain ⟨s2, e2⟩ := new_at (.lst (ws.map V.str)) np2
    generalize upd H1 p2 (.lst (ws.map V.str)) = H2 at s2 e2 ⊢
    refine ⟨p2, rfl, ⟨_, .inl (.inl e2)⟩, fun D hD => ?_⟩
    have lws : ws.length ≤ 8002 := by simp only [List.length_cons] at lw; omega
    refine lcnewB_list (DT K) (ws.map (tupD ",")) (fun k h => DT.keep k h) (by rw [List.length_map, List.length_map]) (by rw [List.length_map]; omega) (.inl (.inl e2)) hD (fun i u m H3 R Z hx hm s3 hR => ?_) (fun H3 ts s3 hL pd => ?_)
    · obtain ⟨x', hx', rfl⟩ := list_str2 hx
      rw [List.getElem?_map, hx'] at hm
      cases hm
      exact ⟨rfl, yes_ok ⟨_, rfl, x', ",", rfl, lp x' (by simp [List.mem_of_getElem? hx']), by decide, fun H4 v s4 h4 => hR _ _ s4 h4⟩⟩
    · refine ⟨D, ts, rfl, .inl ⟨.inl (.inl hL), fun l nl => ?_⟩⟩
      obtain ⟨s4, e4⟩ := new_at (.tup ts) nl
      generalize upd H3 l (.tup ts) = H4 at s4 e4 ⊢
      have e14 := s4 _ _ (s3 _ _ (s2 _ _ e1))
      refine ⟨_, rfl, p1, _, 1, _, rfl, rfl, .inl (.inl e14), at_n 1 rfl, w1, rfl, lp w1 (by simp), ?_⟩
      refine ⟨_, rfl, p1, _, 2, _, rfl, rfl, .inl (.inl e14), at_n 2 rfl, w2, rfl, lp w2 (by simp), _, rfl, (by show 3 ≤ sizeLine; decide), fun p5 np5 => ?_⟩
      have s5 := same_upd (o := .tup [numV w1, numV w2, .ref l]) np5
      refine q _ _ (((s1.trans s2).trans s3).trans (s4.trans s5)) ?_
      rw [winIn_yes hs]
      exact .tup (.inl (.inl upd_same)) (.cons (num_dt w1) (.cons (num_dt w2) (.cons (.tup (.inl (.inl (s5 _ _ e4))) (dt_all (Paired.mono pd fun _ _ h => DT.keep (Same.tk (s4.trans s5)) h))) .nil)))
def sp_layer_in (K : PySem.W.Frag) : Sp := fun vs H Q _ => ∃ (z : Str), vs = [.str z] ∧ z.length ≤ 8000 ∧ ∀ H' v, Same H H' → DT K H' v (layInD z) → Q v H'
theorem ok_layer_in {f : Addr} {fd : FuncData} (F : Fun K "layer_in" "layer_in" s_layer_in f fd) (T : Txt K mg) (D_numbers_in : Cl P w K mg base 3 "numbers_in" ["word", "between"] (sp_numbers_in K)) (D_number_in : Cl P w K mg base 2 "number_in" ["word"] (sp_number_in K)) : FnOk P w K mg base CX0 4 f fd ["line"] (sp_layer_in K) := by
  refine F.ok sc_layer_in (fun vs H Q E h => ?_) (fun cdv A outer s H vs Q E hr h => ?_)
  · obtain ⟨l, rfl, _⟩ := h
    rfl
  · obtain ⟨z, rfl, hz, q⟩ := h
    refine ⟨_, (pss_cons (ps_set (i := 1) sc_layer_in.nd rfl (Or.inl rfl) (pe_bm PySem.F.plainAttrs_str PySem.F.slot_str_split PySem.F.type_str_split mt_split (pv 0) (pa_cons pe_str pa_nil)))
      (pss_cons (ps_if (PW.pt (pw_or (pt_cmpR op_ne (pe_ix ix_list (pv 1) pe_int (fun _ _ => rfl)) pe_str (nomark _)) (pw_or1 (pt_cmpR op_lt (pe_callB call_len_seq (by rfl) T.b_len (by decide +kernel) (pa_cons (pv 1) pa_nil)) pe_int (nomark _))))) (pss_one (ps_ret pe_non)) pss_nil)
      (pss_cons (ps_set (i := 2) sc_layer_in.nd rfl (Or.inl rfl) (pe_callTy call_tuple_of (by rfl) T.b_tuple (by decide +kernel) (pa_cons (pe_lc (own := [("word", 3)]) (g := (gName 3)) (tt := tYes) (by rfl) sc_layer_in.nd (pi_list (pe_slice sl_list (pv 1) (po_some pe_int) po_none)) (blkOk_by (own := [("word", 3)]) (N := ["line", "words", "rows", "word"]) (sc := defScope s_layer_in) (by decide +kernel)) (fun _ _ _ _ _ => (pg_name (i := 3) sc_layer_in.nd rfl (Or.inl rfl))) (fun _ _ _ _ _ => pts_nil) (fun _ _ _ _ _ => (pe_own D_numbers_in (hr.mono (by omega)) (by rfl) (pa_cons (pv 3) (pa_cons pe_str pa_nil))))) pa_nil)))
      (pss_one (ps_ret (pe_tup (pa_cons (pv 2) (pa_cons (pe_ifExp (pt_cmpR op_eq (pe_ix ix_list (pv 1) pe_int (fun _ _ => rfl)) pe_str (nomark _)) pe_non (pe_own D_number_in (hr.mono (by omega)) (by rfl) (pa_cons (pe_ix ix_list (pv 1) pe_int (fun _ _ => rfl)) pa_nil))) pa_nil)))))))), ?_⟩
    refine ⟨_, rfl, rfl, _, _, rfl, rfl, by decide, Nat.le_trans (Nat.add_le_add_right hz 2) (by decide), fun p1 np1 => ?_⟩
    obtain ⟨w0, t, hs⟩ := spl_cons z " "
    have lw := split_len (b := " ") hz
    have lp : ∀ p ∈ Txt.split z " ", p.length ≤ 8000 := fun p hp => Nat.le_trans (part_short hp) hz
    rw [hs] at lw lp ⊢
    obtain ⟨s1, e1⟩ := new_at (.lst ((w0 :: t).map V.str)) np1
    generalize upd H p1 (.lst ((w0 :: t).map V.str)) = H1 at s1 e1 ⊢
    refine ⟨_, rfl, p1, _, 0, .str w0, rfl, rfl, .inl (.inl e1), at_n 0 rfl, rfl, _, rfl, ite2 (fun e => ?_) (fun e => ?_)⟩
    · have ne : w0 ≠ "layer" := fun h => is_ne' (by rw [h]) e
      refine q _ _ s1 ?_
      rw [layIn_no hs (.inl ne)]
      exact .non
    refine ⟨_, rfl, p1, _, rfl, .inl (.inl (.inl e1)), _, 2, rfl, rfl, _, rfl, ite2 (fun e => ?_) (fun e => ?_)⟩
    · have l3 : (((w0 :: t).map V.str).length : Int) < 2 := of_decide_eq_true e
      rw [List.length_map, List.length_cons] at l3
      refine q _ _ s1 ?_
      rw [layIn_no hs (.inr (by omega))]
      exact .non
    rename_i e0
    obtain rfl : w0 = "layer" := by
      refine Classical.byContradiction fun h => e0 (no_ne' fun y => h (V.str.inj y))
    obtain ⟨w1, ws, rfl⟩ : ∃ w1 ws, t = w1 :: ws := by
      match t, e with
      | [], e => exact absurd (decide_eq_true (by show (1 : Int) < 2; decide)) e
      | a :: ws, _ => exact ⟨a, ws, rfl⟩
    refine ⟨_, rfl, 2, rfl, p1, _, rfl, .inl (.inl e1), fun p2 np2 => ?_⟩
    rw [cut_2, show ((("layer" : Str) :: w1 :: ws).map V.str).drop 2 = ws.map V.str from rfl]
    obtain ⟨s2, e2⟩ := new_at (.lst (ws.map V.str)) np2
    generalize upd H1 p2 (.lst (ws.map V.str)) = H2 at s2 e2 ⊢
    refine ⟨p2, rfl, ⟨_, .inl (.inl e2)⟩, fun D hD => ?_⟩
    have lws : ws.length ≤ 8002 := by simp only [List.length_cons] at lw; omega
    refine lcnewB_list (DT K) (ws.map (tupD "x")) (fun k h => DT.keep k h) (by rw [List.length_map, List.length_map]) (by rw [List.length_map]; omega) (.inl (.inl e2)) hD (fun i u m H3 R Z hx hm s3 hR => ?_) (fun H3 ts s3 hL pd => ?_)
    · obtain ⟨x', hx', rfl⟩ := list_str2 hx
      rw [List.getElem?_map, hx'] at hm
      cases hm
      exact ⟨rfl, yes_ok ⟨_, rfl, x', "x", rfl, lp x' (by simp [List.mem_of_getElem? hx']), by decide, fun H4 v s4 h4 => hR _ _ s4 h4⟩⟩
    · refine ⟨D, ts, rfl, .inl ⟨.inl (.inl hL), fun l nl => ?_⟩⟩
      obtain ⟨s4, e4⟩ := new_at (.tup ts) nl
      generalize upd H3 l (.tup ts) = H4 at s4 e4 ⊢
      have e14 := s4 _ _ (s3 _ _ (s2 _ _ e1))
      have sA := ((s1.trans s2).trans s3).trans s4
      have fin : ∀ (p5 : Addr) (bv : V) (bd : PyData), H4 p5 = none → (∀ H', DT K H' bv bd) → DT K (upd H4 p5 (.tup [.ref l, bv])) (.ref p5) (.tuple [.tuple (ws.map (tupD "x")), bd]) := fun p5 bv bd np5 hb => by
        have s5 := same_upd (o := .tup [.ref l, bv]) np5
        exact .tup (.inl (.inl upd_same)) (.cons (.tup (.inl (.inl (s5 _ _ e4))) (dt_all (Paired.mono pd fun _ _ h => DT.keep (Same.tk (s4.trans s5)) h))) (.cons (hb _) .nil))
      refine ⟨_, rfl, _, rfl, p1, _, 1, .str w1, rfl, rfl, .inl (.inl e14), at_n 1 rfl, rfl, _, rfl, ite2 (fun e => ?_) (fun e => ?_)⟩
      · have e' : V.str w1 = .str "-" := of_decide_eq_true e
        refine ⟨(by show 2 ≤ sizeLine; decide), fun p5 np5 => q _ _ (sA.trans (same_upd np5)) ?_⟩
        rw [layIn_yes hs, if_pos (V.str.inj e')]
        exact fin p5 .non .none np5 fun _ => .non
      · have e' : ¬ w1 = "-" := fun h => e (decide_eq_true (by rw [h]))
        refine ⟨_, rfl, p1, _, 1, _, rfl, rfl, .inl (.inl e14), at_n 1 rfl, w1, rfl, lp w1 (by simp), (by show 2 ≤ sizeLine; decide), fun p5 np5 => q _ _ (sA.trans (same_upd np5)) ?_⟩
        rw [layIn_yes hs, if_neg e']
        exact fin p5 _ _ np5 fun _ => num_dt w1
def sp_sheet_in (K : PySem.W.Frag) : Sp := fun vs H Q _ => ∃ (z : Str), vs = [.str z] ∧ z.length ≤ 8000 ∧ ∀ H' v, Same H H' → DT K H' v (shInD z) → Q v H'
theorem ok_sheet_in {f : Addr} {fd : FuncData} (F : Fun K "sheet_in" "sheet_in" s_sheet_in f fd) (T : Txt K mg) (D_window_in : Cl P w K mg base 4 "window_in" ["line"] (sp_window_in K)) (D_layer_in : Cl P w K mg base 4 "layer_in" ["line"] (sp_layer_in K)) : FnOk P w K mg base CX0 5 f fd ["text"] (sp_sheet_in K) := by
  refine F.ok sc_sheet_in (fun vs H Q E h => ?_) (fun cdv A outer s H vs Q E hr h => ?_)
  · obtain ⟨z, rfl, _⟩ := h
    rfl
  · obtain ⟨z, rfl, hz, q⟩ := h
    refine ⟨_, (pss_cons (ps_if (pt_not (pt_val (pe_bm PySem.F.plainAttrs_str PySem.F.slot_str_endswith PySem.F.type_str_endswith mt_endswith (pv 0) (pa_cons pe_str pa_nil)))) (pss_one (ps_ret pe_non)) pss_nil)
      (pss_cons (ps_set (i := 1) sc_sheet_in.nd rfl (Or.inl rfl) (pe_bm PySem.F.plainAttrs_str PySem.F.slot_str_split PySem.F.type_str_split mt_split (pe_slice sl_str (pv 0) po_none (po_some (pe_un un_neg pe_int))) (pa_cons pe_str pa_nil)))
      (pss_one (ps_ret (pe_tup (pa_cons (pe_callTy call_tuple_of (by rfl) T.b_tuple (by decide +kernel) (pa_cons (pe_lc (own := [("line", 2)]) (g := (gName 2)) (tt := tYes) (by rfl) sc_sheet_in.nd (pi_list (pe_slice sl_list (pv 1) (po_some pe_int) po_none)) (blkOk_by (own := [("line", 2)]) (N := ["text", "lines", "line"]) (sc := defScope s_sheet_in) (by decide +kernel)) (fun _ _ _ _ _ => (pg_name (i := 2) sc_sheet_in.nd rfl (Or.inl rfl))) (fun _ _ _ _ _ => pts_nil) (fun _ _ _ _ _ => (pe_own D_layer_in (hr.mono (by omega)) (by rfl) (pa_cons (pv 2) pa_nil)))) pa_nil)) (pa_cons (pe_own D_window_in (hr.mono (by omega)) (by rfl) (pa_cons (pe_ix ix_list (pv 1) pe_int (fun _ _ => rfl)) pa_nil)) pa_nil))))))), ?_⟩
    refine ⟨_, rfl, rfl, _, _, rfl, rfl, _, rfl, ?_⟩
    cases ee : Txt.endswith z "\n" with
    | false =>
      refine iteT (q _ _ (Same.refl _) ?_)
      unfold shInD
      rw [if_neg (by rw [ee]; decide)]
      exact .non
    | true =>
    refine iteF ?_
    have eq : shInD z = linD (Txt.split (cutS z none (some (-1))) "\n") := by
      unfold shInD
      rw [if_pos ee]
    rw [eq] at q
    have hu : (cutS z none (some (-1))).length ≤ 8000 := Nat.le_trans (cutS_length _ _ _) hz
    refine ⟨_, rfl, 1, rfl, -1, rfl, _, rfl, Nat.le_trans hz (by decide), ?_⟩
    generalize cutS z none (some (-1)) = u at hu q ⊢
    refine ⟨rfl, _, _, rfl, rfl, by decide, Nat.le_trans (Nat.add_le_add_right hu 2) (by decide), fun p1 np1 => ?_⟩
    obtain ⟨l0, ls, hs⟩ := spl_cons u "\n"
    have lw := split_len (b := "\n") hu
    have lp : ∀ p ∈ Txt.split u "\n", p.length ≤ 8000 := fun p hp => Nat.le_trans (part_short hp) hu
    rw [hs] at lw lp q ⊢
    obtain ⟨s1, e1⟩ := new_at (.lst ((l0 :: ls).map V.str)) np1
    generalize upd H p1 (.lst ((l0 :: ls).map V.str)) = H1 at s1 e1 ⊢
    refine ⟨_, rfl, 1, rfl, p1, _, rfl, .inl (.inl e1), fun p2 np2 => ?_⟩
    rw [cut_1, show ((l0 :: ls).map V.str).drop 1 = ls.map V.str from rfl]
    obtain ⟨s2, e2⟩ := new_at (.lst (ls.map V.str)) np2
    generalize upd H1 p2 (.lst (ls.map V.str)) = H2 at s2 e2 ⊢
    refine ⟨p2, rfl, ⟨_, .inl (.inl e2)⟩, fun D hD => ?_⟩
    have lws : ls.length ≤ 8002 := by simp only [List.length_cons] at lw; omega
    refine lcnewB_list (DT K) (ls.map layInD) (fun k h => DT.keep k h) (by rw [List.length_map, List.length_map]) (by rw [List.length_map]; omega) (.inl (.inl e2)) hD (fun i u' m H3 R Z hx hm s3 hR => ?_) (fun H3 ts s3 hL pd => ?_)
    · obtain ⟨x', hx', rfl⟩ := list_str2 hx
      rw [List.getElem?_map, hx'] at hm
      cases hm
      exact ⟨rfl, yes_ok ⟨_, rfl, x', rfl, lp x' (by simp [List.mem_of_getElem? hx']), fun H4 v s4 h4 => hR _ _ s4 h4⟩⟩
    · refine ⟨D, ts, rfl, .inl ⟨.inl (.inl hL), fun l nl => ?_⟩⟩
      obtain ⟨s4, e4⟩ := new_at (.tup ts) nl
      generalize upd H3 l (.tup ts) = H4 at s4 e4 ⊢
      have e14 := s4 _ _ (s3 _ _ (s2 _ _ e1))
      refine ⟨_, rfl, p1, _, 0, _, rfl, rfl, .inl (.inl e14), at_n 0 rfl, l0, rfl, lp l0 (by simp), fun H5 v5 s5 hw => ⟨(by show 2 ≤ sizeLine; decide), fun p6 np6 => ?_⟩⟩
      have s6 := same_upd (o := .tup [.ref l, v5]) np6
      refine q _ _ ((((s1.trans s2).trans s3).trans s4).trans (s5.trans s6)) ?_
      exact .tup (.inl (.inl upd_same)) (.cons (.tup (.inl (.inl (s6 _ _ (s5 _ _ e4)))) (dt_all (Paired.mono pd fun _ _ h => DT.keep (Same.tk (s4.trans (s5.trans s6))) h))) (.cons (DT.keep (Same.tk s6) hw) .nil))
end

def isS : PyData → Bool
  | .str _ => true
  | _ => false
theorem kS (d : PyData) : kitB (tyn d) "str" = some (isS d) := by cases d <;> simp only [tyn, isS] <;> decide +kernel
section
variable {P : Program} {w : World} {K : PySem.W.Frag} {mg : Str → Option Value} {base : Heap}
def sp_read_sheet (K : PySem.W.Frag) (c : Nat → Addr) : Sp := fun vs H Q E => ∃ v, vs = [v] ∧ ((∃ z : Str, v = .str z ∧ z.length ≤ 8000 ∧ (isShD (shInD z) = true → ∀ H' u, Same H H' → DT K H' u (shInD z) → Q u H') ∧ (isShD (shInD z) = false → ∀ H', Same H H' → E (.ref (c 12)) none H')) ∨
  (∃ (fx : Hp) (b : Bool) (d : PyData), Dg K fx H b v d ∧ isS d = false ∧ ∀ H', Same H H' → E (.ref (c 12)) none H'))
theorem ok_read_sheet {f : Addr} {fd : FuncData} {c : Nat → Addr} {LE : Addr} (F : Fun K "read_sheet" "read_sheet" s_read_sheet f fd) (T : Txt K mg) (TX : ExcN K mg c LE) (D_sheet_in : Cl P w K mg base 5 "sheet_in" ["text"] (sp_sheet_in K)) (D_is_sheet : Cl P w K mg base 6 "is_sheet" ["thing"] (sp_is_sheet K)) : FnOk P w K mg base (L2.CX P w) 7 f fd ["text"] (sp_read_sheet K c) := by
  refine F.okX sc_read_sheet (fun vs H Q E h => ?_) (fun cdv A outer s H vs Q E hr h => ?_)
  · obtain ⟨v, rfl, _⟩ := h
    rfl
  · obtain ⟨v, rfl, h⟩ := h
    refine ⟨_, (pss_cons (ps_set (i := 1) sc_read_sheet.nd rfl (Or.inl rfl) (pe_ifExp (pt_val (pe_callB call_isi (by rfl) T.b_isinstance (by decide +kernel) (pa_cons (pv 0) (pa_cons (pe_bltn (v := .ty "str") (by rfl) T.b_str (by decide +kernel) rfl) pa_nil)))) (pe_own D_sheet_in (hr.mono (by omega)) (by rfl) (pa_cons (pv 0) pa_nil)) pe_non))
      (pss_cons (ps_if (pt_not (pt_val (pe_own D_is_sheet (hr.mono (by omega)) (by rfl) (pa_cons (pv 1) pa_nil)))) (pss_one (ps_raise rfl (takes_of rfl rfl rfl rfl) (pmk_own PySem.F.excBase_ValueError (TX.nw 12 (by decide)) (TX.g 12 "NoText" rfl) (TX.kp 12 (by decide)) (TX.rs (i := 12) (by decide)) rfl))) pss_nil)
      (pss_one (ps_ret (pv 1))))), ?_⟩
    rcases h with ⟨z, rfl, hz, q1, q2⟩ | ⟨fx, b, d, hd, hn, q⟩
    · refine ⟨_, rfl, _, _, _, _, true, rfl, .ty _, .base (.str _), kit_ty (by decide +kernel), _, rfl, iteT ?_⟩
      refine ⟨_, rfl, z, rfl, hz, fun H1 v s1 hv => ?_⟩
      refine ⟨_, rfl, FX0, true, v, _, rfl, hv, fun H2 s2 => ⟨_, rfl, ?_⟩⟩
      cases e : isShD (shInD z) with
      | true => exact iteF ⟨_, rfl, q1 e _ _ (s1.trans s2) (DT.keep (Same.tk s2) hv)⟩
      | false => exact iteT (q2 e _ (s1.trans s2))
    · refine ⟨_, rfl, _, _, _, _, false, rfl, .ty _, Dg.ty hd, kit_ty (by rw [kS, hn]), _, rfl, iteF ?_⟩
      refine ⟨_, rfl, fx, b, _, .none, rfl, .non, fun H2 s2 => ⟨_, rfl, iteT (q _ s2)⟩⟩
end

/-! ### zip of a tuple and a list -/
def ItzM (K : PySem.W.Frag) (a b : Addr) : It :=
  ⟨fun i H => ∃ (xs ys : List V) (x y : V), SqT K H a xs ∧ SqL K H b ys ∧ xs[i]? = some x ∧ ys[i]? = some y,
    fun i H v H' => ∃ T x y, v = .ref T ∧ H T = none ∧ H' = upd H T (.tup [x, y]) ∧ (∀ xs, SqT K H a xs → xs[i]? = some x) ∧ ∀ ys, SqL K H b ys → ys[i]? = some y,
    fun i H => ∃ xs ys : List V, SqT K H a xs ∧ SqL K H b ys ∧ i = min xs.length ys.length⟩
theorem turn_zipM {P : Program} {w : World} {K : PySem.W.Frag} {elts : List Expr} {kk : Nat} {tpos : Pos} {a b z TI TO i1 i2 : Addr} (S : ZipSep2 z TI TO i1 i2 [i1, a] [i2, b]) (na : a ≠ i1) (nb : b ≠ i2) :
    Turn P w K (.Tuple elts kk tpos) (ItzM K a b) [z, TI, TO, i1, i2] z (fun i h => IsZip h z TI TO .none ∧ IsTupOf2 h TI (.ref i1) (.ref i2) ∧ (∃ x y, IsTupOf2 h TO x y) ∧ h.IsTupleIter i1 a i ∧ h.IsListIter i2 b i) where
  mem := List.mem_cons_self ..
  obj := fun i h ⟨hz, hTI, ⟨x, y, hTO⟩, ⟨o1, e1, _, d1⟩, ⟨o2, e2, _, d2⟩⟩ c hc => by
    simp only [List.mem_cons, List.not_mem_nil, or_false] at hc
    rcases hc with rfl | rfl | rfl | rfl | rfl
    · exact ⟨_, hz, fun v z => nomatch z⟩
    · exact ⟨_, hTI, fun v z => nomatch z⟩
    · exact ⟨_, hTO, fun v z => nomatch z⟩
    · exact ⟨o1, e1, fun v z => by rw [d1] at z; cases z⟩
    · exact ⟨o2, e2, fun v z => by rw [d2] at z; cases z⟩
  keep := fun i h h' ⟨hz, hTI, ⟨x, y, hTO⟩, h1, h2⟩ k =>
    ⟨k z (by simp) _ hz, k TI (by simp) _ hTI, ⟨x, y, k TO (by simp) _ hTO⟩,
      h1.at (fun o e => k i1 (by simp) o e), h2.at (fun o e => k i2 (by simp) o e)⟩
  item := by
    intro X eP ew eK hc i pins s σ H E I hf st hg
    subst eP ew eK
    obtain ⟨hz, hTI, hTO, h1, h2⟩ := st
    obtain ⟨xs, ys, x, y, sx, sy, hx, hy⟩ := hg
    obtain ⟨its, rv, p1, _⟩ := I.tuple sx
    obtain ⟨its2, rv2, p2, _⟩ := I.list sy
    obtain ⟨u, hu, ru⟩ := rv.get hx
    obtain ⟨u2, hu2, ru2⟩ := rv2.get hy
    have hd : X.A.in1.handled = none := by simp [I.ok.hd hc]
    have lu := (List.getElem?_eq_some_iff.mp hu).1
    have lu2 := (List.getElem?_eq_some_iff.mp hu2).1
    refine (GoesN.zip2 S (Draws.tuple hd i1 a na its.toArray) (Draws.list hd i2 b nb its2.toArray)).goes i s _ E
      (by simp only [List.size_toArray]; omega) ⟨hz, hTI, hTO, ⟨h1, p1⟩, ⟨h2, p2.isList⟩⟩
      fun v h' tk hY st' hk _ => ?_
    obtain ⟨T, v1, v2, rfl, hT, e1, e2, hpair⟩ := hY
    obtain ⟨hz', hTI', hTO', ⟨h1', _⟩, ⟨h2', _⟩⟩ := st'
    have ev1 : v1 = u := by
      have : its[i]? = some v1 := by simpa using e1
      exact Option.some.inj (this.symm.trans hu)
    have ev2 : v2 = u2 := by
      have : its2[i]? = some v2 := by simpa using e2
      exact Option.some.inj (this.symm.trans hu2)
    subst ev1 ev2
    have new : ObjOk X.prog X.w (upd H T (.tup [x, y])) h' T (.tup [x, y]) :=
      ⟨by show 2 ≤ sizeLine; decide, [v1, v2], .cons ru (.cons ru2 .nil), hpair⟩
    have J : Inv X pins σ (upd H T (.tup [x, y])) { s with heap := h', toks := tk } :=
      I.turnedNew (ch := [z, TI, TO, i1, i2]) (fun c o hb e => hk c o (fun m => hb (by
        simp only [List.mem_cons, List.not_mem_nil, or_false] at m ⊢
        rcases m with m | m | m | m <;> simp [m])) e) hf hT new
    refine ⟨.ref T, _, J, rfl, ⟨T, x, y, rfl, I.hok.fresh hT, rfl, fun l hl => ?_, fun l hl => ?_⟩, ⟨hz', hTI', hTO', h1', h2'⟩, fun c hcm => ?_⟩
    · rw [I.tuple_inj hl sx]
      exact hx
    · rw [I.list_inj hl sy]
      exact hy
    · have hlt : c < s.heap.objs.size := by
        obtain ⟨x0, y0, hTO⟩ := hTO
        obtain ⟨o1, g1, _⟩ := h1
        obtain ⟨o2, g2, _⟩ := h2
        simp only [List.mem_cons, List.not_mem_nil, or_false] at hcm
        rcases hcm with rfl | rfl | rfl | rfl | rfl
        · exact Heap.lt_size hz
        · exact Heap.lt_size hTI
        · exact Heap.lt_size hTO
        · exact Heap.lt_size g1
        · exact Heap.lt_size g2
      rw [upd_ne (Nat.ne_of_lt (Nat.lt_of_lt_of_le hlt hT))]
      exact (hf c hcm).1
  done := by
    intro X eP ew eK hc i pins s σ H E I hf st hg
    subst eP ew eK
    obtain ⟨hz, hTI, hTO, h1, h2⟩ := st
    obtain ⟨xs, ys, sx, sy, hi⟩ := hg
    obtain ⟨its, rv, p1, _⟩ := I.tuple sx
    obtain ⟨its2, rv2, p2, _⟩ := I.list sy
    have hd : X.A.in1.handled = none := by simp [I.ok.hd hc]
    have l1 := rv.length
    have l2 := rv2.length
    have hin : i = min its.toArray.size its2.toArray.size := by
      simp only [List.size_toArray]
      omega
    refine (GoesN.zip2 (elts := elts) (x1 := kk) (pos := tpos) S (Draws.tuple hd i1 a na its.toArray) (Draws.list hd i2 b nb its2.toArray)).stops s _ E
      (by rw [← hin]; exact ⟨hz, hTI, hTO, ⟨h1, p1⟩, ⟨h2, p2.isList⟩⟩) fun h' tk hk _ => ?_
    exact I.turnedL (ch := [z, TI, TO, i1, i2]) (fun c o hb e => hk c o (fun m => hb (by
        simp only [List.mem_cons, List.not_mem_nil, or_false] at m ⊢
        rcases m with m | m | m | m <;> simp [m])) e) hf
  self := fun A i s Q E st h => wpAny_pyIter_zip st.1 h
def iZipM (K : PySem.W.Frag) (ta : TA) : TI := fun σ H R => ta σ H fun vs H1 => ∃ a b xs ys, vs = [.ref a, .ref b] ∧ SqT K H1 a xs ∧ SqL K H1 b ys ∧ R (ItzM K a b) H1
theorem pi_zipM {X : Cx} {e e2 : Expr} {ta : TA} {p pos tpos : Pos} {elts : List Expr} {kk : Nat} (hg : Gl X "zip") (hm : X.mg "zip" = none) (ha : PA X [e, e2] ta)
    (hs : starEach [e, e2] X.env = (false, eval e X.env) :: starEach [e2] X.env := by rfl) (hpl : (backTo pos (starEach [e2] X.env)).any (·.1) = false := by rfl) : PI X (.Tuple elts kk tpos) (.Call (.Name "zip" p) [e, e2] [] pos) (iZipM X.K ta) := by
  refine ⟨fun pins s σ H R I h => Call_ (ld_blt I hg hm PyProof.Rows.boot_zip
    (PyProof.Rows.callWith_type1 (thn (ha.run pos pins s σ H _ I h) fun us s1 hh => ?_) hs hpl))⟩
  obtain ⟨vs, H1, I1, r1, a, b, xs, ys, rfl, sx, sy, q⟩ := hh
  obtain ⟨u1, u2, rfl, r2, r3⟩ := vals2 r1
  cases (show u1 = Value.ref a from r2)
  cases (show u2 = Value.ref b from r3)
  obtain ⟨its, rv, p1, _⟩ := I1.tuple sx
  obtain ⟨its2, rv2, p2, _⟩ := I1.list sy
  obtain ⟨o1, ho1, _⟩ := id p1
  have la : a < s1.heap.objs.size := Heap.lt_size ho1
  have lb : b < s1.heap.objs.size := p2.lt
  refine zip_begins2 (begins_tuple a its.toArray) (begins_list b its2.toArray) p1 p2.isList
    fun h' hz hTI hTO g1 g2 hsz hk => wpAny_pyIter_zip hz ?_
  have I2 : Inv X pins σ H1 { s1 with heap := h' } := I1.kept (t' := s1.toks) hk
  refine ⟨s1.heap.objs.size + 4, [s1.heap.objs.size + 4, s1.heap.objs.size + 2, s1.heap.objs.size + 3, s1.heap.objs.size, s1.heap.objs.size + 1], _, _, H1, rfl, I2,
    turn_zipM (zip_sep2 (fp1 := [a]) (fp2 := [b]) (fun c hc => by rw [List.mem_singleton.mp hc]; exact la) (fun c hc => by rw [List.mem_singleton.mp hc]; exact lb)) (Nat.ne_of_lt la) (Nat.ne_of_lt (Nat.lt_succ_of_lt lb)),
    ⟨hz, hTI, ⟨_, _, hTO⟩, ⟨_, g1, rfl, rfl⟩, ⟨_, g2, rfl, rfl⟩⟩, fun c hcm => ?_, q⟩
  have hle : s1.heap.objs.size ≤ c := by
    simp only [List.mem_cons, List.not_mem_nil, or_false] at hcm
    rcases hcm with rfl | rfl | rfl | rfl | rfl
    · exact Nat.le_add_right _ _
    · exact Nat.le_add_right _ _
    · exact Nat.le_add_right _ _
    · exact Nat.le_refl _
    · exact Nat.le_add_right _ _
  exact (I1.fpOk hle (I1.hok.fresh hle))
theorem zipM_go {K : PySem.W.Frag} {a b : Addr} {xs ys : List V} {i : Nat} {H : Hp} (hl : xs.length = ys.length) (hx : SqT K H a xs) (hy : SqL K H b ys) (hi : i < xs.length) : (ItzM K a b).go i H :=
  ⟨xs, ys, _, _, hx, hy, List.getElem?_eq_getElem hi, List.getElem?_eq_getElem (by omega)⟩
theorem zipM_stop {K : PySem.W.Frag} {a b : Addr} {xs ys : List V} {H : Hp} (hl : xs.length = ys.length) (hx : SqT K H a xs) (hy : SqL K H b ys) : (ItzM K a b).stop xs.length H :=
  ⟨xs, ys, hx, hy, by omega⟩
theorem zipM_yld {K : PySem.W.Frag} {a b : Addr} {xs ys : List V} {i : Nat} {H : Hp} {v : V} {H' : Hp} (hx : SqT K H a xs) (hy : SqL K H b ys) (h : (ItzM K a b).yld i H v H') : ∃ T x y, v = .ref T ∧ H T = none ∧ H' = upd H T (.tup [x, y]) ∧ xs[i]? = some x ∧ ys[i]? = some y := by
  obtain ⟨T, x, y, e1, e2, e3, e4, e5⟩ := h
  exact ⟨T, x, y, e1, e2, e3, e4 _ hx, e5 _ hy⟩
/-- a loop over pairs, whatever gives them -/
theorem for_pairs {J : It} {xs ys : List V} {g : TG} {tb : TS} {D : Ends} {σ : L2.St} {H : Hp} (Pv : Nat → L2.St → Hp → Prop) (h0 : Pv 0 σ H) (go : ∀ i σ H, Pv i σ H → i < xs.length → J.go i H) (st : ∀ σ H, Pv xs.length σ H → J.stop xs.length H)
    (yl : ∀ i σ H v H', Pv i σ H → J.yld i H v H' → ∃ T x y, v = .ref T ∧ H T = none ∧ H' = upd H T (.tup [x, y]) ∧ xs[i]? = some x ∧ ys[i]? = some y)
    (hs : ∀ (i : Nat) (x y : V) (T : Addr) (σ : L2.St) (H : Hp), xs[i]? = some x → ys[i]? = some y → Pv i σ H → H T = none → g (.ref T) σ (upd H T (.tup [x, y])) fun σ2 H2 => tb { D with nx := Pv (i + 1), ct := Pv (i + 1), bk := D.nx } σ2 H2) (hd : ∀ σ H, Pv xs.length σ H → D.nx σ H) :
    ∃ W : Nat → Nat → L2.St → Hp → Prop, (∃ m, W 0 m σ H) ∧ ∀ i m σ H, W i m σ H →
      (J.stop i H ∧ D.nx σ H) ∨ (J.go i H ∧ ∃ N : L2.St → Hp → Prop, (∀ σ' H', N σ' H' → ∃ m', m' < m ∧ W (i + 1) m' σ' H') ∧ ∀ v H', J.yld i H v H' → g v σ H' fun σ2 H2 => tb { D with nx := N, ct := N, bk := D.nx } σ2 H2) := by
  refine ⟨fun i m σ H => m = xs.length - i ∧ i ≤ xs.length ∧ Pv i σ H,
    ⟨xs.length, by omega, Nat.zero_le _, h0⟩, fun i m σ H hW => ?_⟩
  obtain ⟨rfl, hi, hp⟩ := hW
  rcases Nat.lt_or_ge i xs.length with lt | ge
  · refine .inr ⟨go i σ H hp lt, Pv (i + 1), fun σ' H' z => ⟨xs.length - (i + 1), by omega, rfl, by omega, z⟩, fun v H' hv => ?_⟩
    obtain ⟨T, x, y, rfl, nT, rfl, hx, hy⟩ := yl i σ H v H' hp hv
    exact hs i x y T σ H hx hy hp nT
  · have e : i = xs.length := by omega
    subst e
    exact .inl ⟨st σ H hp, hd σ H hp⟩
/-- a comprehension over pairs, whatever gives them -/
theorem lc_pairs {J : It} {xs ys : List V} {g : TG} {tt : TT} {te : TE} {vs : List Nat} {σ : L2.St} {H1 : Hp} {D : Addr} {Qd : Hp → Prop} (Pv : Nat → Hp → Prop) (h0 : Pv 0 (upd H1 D (.lst []))) (go : ∀ i H, Pv i H → i < xs.length → J.go i H) (st : ∀ H, Pv xs.length H → J.stop xs.length H)
    (yl : ∀ i H v H', Pv i H → J.yld i H v H' → ∃ T x y, v = .ref T ∧ H T = none ∧ H' = upd H T (.tup [x, y]) ∧ xs[i]? = some x ∧ ys[i]? = some y)
    (hs : ∀ (i : Nat) (x y : V) (T : Addr) (H : Hp), xs[i]? = some x → ys[i]? = some y → Pv i H → H T = none → g (.ref T) (wipe σ vs) (upd H T (.tup [x, y])) fun σ2 H2 => wipe σ2 vs = wipe σ vs ∧ tt σ2 H2 fun b H3 =>
      if b = true then te σ2 H3 fun z H4 => ∃ acc, H4 D = some (.lst acc) ∧ acc.length < sizeLine ∧ Pv (i + 1) (upd H4 D (.lst (acc ++ [z]))) else Pv (i + 1) H3) (hd : ∀ H, Pv xs.length H → Qd H) :
    ∃ W : Nat → Nat → Hp → Prop, (∃ m, W 0 m (upd H1 D (.lst []))) ∧ ∀ i m H, W i m H →
      (J.stop i H ∧ Qd H) ∨ (J.go i H ∧ ∃ Nx : Hp → Prop, (∀ H', Nx H' → ∃ m', m' < m ∧ W (i + 1) m' H') ∧ ∀ x H', J.yld i H x H' → g x (wipe σ vs) H' fun σ2 H2 => wipe σ2 vs = wipe σ vs ∧ tt σ2 H2 fun b H3 =>
        if b = true then te σ2 H3 fun y H4 => ∃ acc, H4 D = some (.lst acc) ∧ acc.length < sizeLine ∧ Nx (upd H4 D (.lst (acc ++ [y]))) else Nx H3) := by
  refine ⟨fun i m H => m = xs.length - i ∧ i ≤ xs.length ∧ Pv i H,
    ⟨xs.length, by omega, Nat.zero_le _, h0⟩, fun i m H hW => ?_⟩
  obtain ⟨rfl, hi, hp⟩ := hW
  rcases Nat.lt_or_ge i xs.length with lt | ge
  · refine .inr ⟨go i H hp lt, Pv (i + 1), fun H' z => ⟨xs.length - (i + 1), by omega, rfl, by omega, z⟩, fun v H' hv => ?_⟩
    obtain ⟨T, x, y, rfl, nT, rfl, hx, hy⟩ := yl i H v H' hp hv
    exact hs i x y T H hx hy hp nT
  · have e : i = xs.length := by omega
    subst e
    exact .inl ⟨st H hp, hd H hp⟩

theorem lok_no {z : Str} (h : ¬ (Gfig z ∧ (figs z).length ≤ 2)) : lnum z = 999 := if_neg (by rw [show lok z = false from decide_eq_false h]; decide)
theorem lok_yes {z : Str} (h : Gfig z ∧ (figs z).length ≤ 2) : lnum z = iv z := if_pos (decide_eq_true h)
theorem chars_dp {K : PySem.W.Frag} {H : Hp} : ∀ cs : List Nat, DpAll K H (cs.map fun c => V.str (sg c)) (cs.map fun c => PyData.str (sg c))
  | [] => .nil
  | c :: cs => .cons (.str (sg c)) (chars_dp cs)
theorem sg_ne {c : Nat} : V.str (sg c) = .str "0" ↔ c = 48 := by
  have e0 : ("0" : Str) = sg 48 := by decide +kernel
  constructor
  · intro h
    have := V.str.inj h
    rw [e0] at this
    unfold sg at this
    injection this with this
    injection this with this
    injection this with this
  · intro h
    rw [h, e0]
section
variable {P : Program} {w : World} {K : PySem.W.Frag} {mg : Str → Option Value} {base : Heap}
def sp__law_number (K : PySem.W.Frag) : Sp := fun vs H Q _ => ∃ z : Str, vs = [.str z] ∧ z.length ≤ 8000 ∧ Uok z ∧ ∀ H', Same H H' → Q (.int (lnum z)) H'
theorem ok__law_number {f : Addr} {fd : FuncData} (F : Fun K "_law_number" "_law_number" s__law_number f fd) (T : Txt K mg) : FnOk P w K mg base CX0 1 f fd ["_law_word"] (sp__law_number K) := by
  refine F.ok sc__law_number (fun vs H Q E h => ?_) (fun cdv A outer s H vs Q E hr h => ?_)
  · obtain ⟨z, rfl, _⟩ := h
    rfl
  · obtain ⟨z, rfl, hz, hu, q⟩ := h
    have l3 : z.length ≤ sizeLine := Nat.le_trans hz (by decide)
    have f3 : (figs z).length ≤ sizeLine := Nat.le_trans (figs_len z) l3
    have qt : (Gfig z ∧ (figs z).length ≤ 2) → ∀ H', Same H H' → Q (.int (iv z)) H' := fun e H' s' => by have := q H' s'; rw [lok_yes e] at this; exact this
    have qf : ¬ (Gfig z ∧ (figs z).length ≤ 2) → ∀ H', Same H H' → Q (.int 999) H' := fun e H' s' => by have := q H' s'; rw [lok_no e] at this; exact this
    refine ⟨_, (C8.pss_cut (ps_set (i := 1) sc__law_number.nd rfl (Or.inl rfl) (pe_ifExp (pt_cmpR op_eq (pe_slice sl_str (pv 0) po_none (po_some pe_int)) pe_str (nomark _)) (pe_slice sl_str (pv 0) (po_some pe_int) po_none) (pv 0)))
      (pss_cons (ps_if (PW.pt (pw_or (pt_not (pt_chain op_le op_le pe_int (pe_callB call_len_str (by rfl) T.b_len (by decide +kernel) (pa_cons (pv 1) pa_nil)) pe_int)) (pw_or1 (pt_cmpR (op_neD hr.units) (pe_lc (own := [("_law_sign", 2)]) (g := (gName 2)) (by rfl) sc__law_number.nd (pi_str (pv 1)) (blkOk_by (own := [("_law_sign", 2)]) (N := ["_law_word", "_law_figures", "_law_sign"]) (sc := defScope s__law_number) (by decide +kernel)) (fun _ _ _ _ _ => (pg_name (i := 2) sc__law_number.nd rfl (Or.inl rfl))) (fun _ _ _ _ _ => (pts_one (pt_cmpR op_notIn_sign (pv 2) pe_str (by rfl)))) (fun _ _ _ _ _ => (pv 2))) (pe_lst pa_nil) (nomark _))))) (pss_one (ps_ret pe_int)) pss_nil)
      (pss_cons (ps_if (PW.pt (pw_and (pt_cmpR op_eq (pe_ix ix_str (pv 1) pe_int (fun _ _ => rfl)) pe_str (nomark _)) (pw_and1 (pt_cmpR op_ne (pv 0) pe_str (nomark _))))) (pss_one (ps_ret pe_int)) pss_nil)
      (pss_one (ps_ret (pe_callTy call_int_str (by rfl) T.b_int (by decide +kernel) (pa_cons (pv 0) pa_nil))))))), ?_⟩
    refine ⟨fun σ' H' => σ' = [some (.str z), some (.str (figs z)), none] ∧ H' = H, ?_, ?_⟩
    · refine ⟨_, rfl, 1, rfl, _, rfl, l3, rfl, _, rfl, ite2 (fun e => ?_) (fun e => ?_)⟩
      · have e' : cutS z none (some 1) = "-" := V.str.inj (of_decide_eq_true e)
        refine ⟨_, rfl, 1, rfl, _, rfl, l3, ?_, rfl⟩
        rw [figs_eq, if_pos e']
        rfl
      · have e' : ¬ cutS z none (some 1) = "-" := fun h => e (decide_eq_true (by rw [h]))
        refine ⟨_, rfl, ?_, rfl⟩
        rw [figs_eq, if_neg e']
        rfl
    rintro σ H1 ⟨rfl, rfl⟩
    have huf := uok_figs hu
    have lf : (figs z).length = (TL.tl (figs z)).length := TL.len_tl _
    refine ⟨_, rfl, _, rfl, f3, _, _, rfl, rfl, _, rfl, ite2 (fun e => ?_) (fun e => ?_)⟩
    rotate_left 1
    · refine ⟨_, rfl, iteT (qf (fun g => ?_) _ (Same.refl _))⟩
      have e' : ¬ (1 : Int) ≤ ((figs z).length : Int) := fun h => e (decide_eq_true h)
      have := List.length_pos_iff.mpr g.1.1
      omega
    have h1 : (1 : Int) ≤ ((figs z).length : Int) := of_decide_eq_true e
    refine ⟨_, _, rfl, rfl, _, rfl, ?_⟩
    by_cases h2 : ((figs z).length : Int) ≤ 2
    rotate_left 1
    · rw [decide_eq_false h2]
      exact iteT (qf (fun g => h2 (by have := g.2; omega)) _ (Same.refl _))
    rw [decide_eq_true h2]
    refine iteF ?_
    refine ⟨_, rfl, _, rfl, fun D hD => ?_⟩
    refine lc_it (walk_str (z := figs z)) (fun i H' => Same H1 H' ∧ H' D = some (.lst (((TL.tl (figs z)).take i).filter nofig |>.map fun c => V.str (sg c)))) ⟨same_upd hD, upd_same⟩ (fun _ _ _ _ => trivial) (fun i x Ha Hb hi pa yx => ?_) (fun Ha pa => ?_)
    · obtain ⟨rfl, c, hc, rfl⟩ := yx
      obtain ⟨sa, ea⟩ := pa
      have hc' : (TL.tl (figs z))[i]? = some c := by
        show (figs z).cps.toList[i]? = some c
        rw [Array.getElem?_toList]
        exact hc
      have ets : ((TL.tl (figs z)).take (i + 1)).filter nofig = ((TL.tl (figs z)).take i).filter nofig ++ (if nofig c = true then [c] else []) := by
        rw [List.take_add_one, hc', List.filter_append]
        congr 1
        show List.filter nofig [c] = _
        rw [List.filter_cons]
        rfl
      refine ⟨rfl, _, rfl, c, _, rfl, rfl, _, rfl, ite2 (fun e => ?_) (fun e => ?_)⟩
      · have en : nofig c = true := e
        refine ⟨_, rfl, _, ea, ?_, ?_, ?_⟩
        · refine small1000 ?_
          rw [List.length_map]
          refine Nat.le_trans (List.length_filter_le _ _) ?_
          rw [List.length_take]
          omega
        · intro b o eb
          rw [upd_ne (ne_of_none eb hD)]
          exact sa _ _ eb
        · rw [upd_same, ets, if_pos en, List.map_append]
          rfl
      · have en : ¬ nofig c = true := e
        refine ⟨sa, ?_⟩
        rw [ets, if_neg en, List.append_nil]
        exact ea
    · obtain ⟨sa, ea⟩ := pa
      have et : (TL.tl (figs z)).take (figs z).cps.size = TL.tl (figs z) := by
        show (TL.tl (figs z)).take (figs z).length = _
        rw [lf, List.take_length]
      rw [et] at ea
      generalize hcs : (TL.tl (figs z)).filter nofig = cs at ea
      refine ⟨Nat.zero_le _, fun p2 np2 => ?_⟩
      obtain ⟨s2, e2⟩ := new_at (.lst []) np2
      generalize upd Ha p2 (.lst []) = H2 at s2 e2 ⊢
      have sA := sa.trans s2
      have hus : ∀ c ∈ cs, c < 1114112 := fun c hc => by
        rw [← hcs] at hc
        exact huf c ((List.mem_filter.mp hc).1)
      have sd : Sd 1 (.list (cs.map fun c => PyData.str (sg c))) := Sd.lst fun e he => by
        obtain ⟨c, hc, rfl⟩ := List.mem_map.mp he
        exact Sd.st (uok_str fun d hd => by
          have : d = c := by
            have hd' : d ∈ [c] := hd
            exact List.mem_singleton.mp hd'
          rw [this]
          exact hus c hc)
      have sd0 : Sd 1 (.list []) := Sd.lst fun e he => nomatch he
      refine ⟨_, _, .lst (.inl (.inl (s2 _ _ ea))) (chars_dp cs), .lst (.inl (.inl e2)) .nil, sd.sh (by decide), sd0.sh (by decide), _, rfl, ite2 (fun e => ?_) (fun e => ?_)⟩
      · refine qf (fun g => ?_) _ sA
        have hn : cs = [] := by rw [← hcs]; exact filt_nil.mpr g.1.2.1
        rw [hn] at e
        exact absurd e (by decide)
      have hcn : cs = [] := by
        have h3 : PyData.eqv (.list (cs.map fun c => PyData.str (sg c))) (.list []) = true := by
          cases h4 : PyData.eqv (.list (cs.map fun c => PyData.str (sg c))) (.list []) with
          | true => rfl
          | false => rw [h4] at e; exact absurd rfl e
        have h5 := (nb_eqv sd.nb sd0.nb).mp h3
        injection h5 with h5
        exact List.map_eq_nil_iff.mp h5
      have ad : NumText.AllDigits (TL.tl (figs z)) := filt_nil.mp (by rw [hcs]; exact hcn)
      obtain ⟨c, r, ec⟩ : ∃ c r, TL.tl (figs z) = c :: r := by
        cases e1 : TL.tl (figs z) with
        | nil => rw [e1] at lf; exfalso; rw [lf] at h1; exact absurd h1 (by decide)
        | cons c r => exact ⟨c, r, rfl⟩
      have ne : TL.tl (figs z) ≠ [] := by rw [ec]; simp
      have l2 : (figs z).length ≤ 2 := by omega
      refine ⟨_, rfl, _, _, c, rfl, rfl, f3, (by show atI (TL.tl (figs z)) 0 = some c; rw [ec]; exact at0), rfl, _, rfl, ite2 (fun e => ?_) (fun e => ?_)⟩
      · have h48 : c = 48 := sg_ne.mp (of_decide_eq_true e)
        refine ⟨_, rfl, rfl, _, rfl, ite2 (fun e => ?_) (fun e => ?_)⟩
        · refine qf (fun g => ?_) _ sA
          rcases g.1.2.2 with y | y
          · exact is_ne' (by rw [y]) e
          · exact y (by rw [ec, h48]; rfl)
        · have ez : z = "0" := by
            refine Classical.byContradiction fun h => e (no_ne' fun y => h (V.str.inj y))
          have g : Gfig z := ⟨ne, ad, .inl ez⟩
          have l31 : z.length ≤ 3 := Nat.le_trans (len_figs z) (by omega)
          exact ⟨_, rfl, _, iv z, rfl, iv_int g (Nat.le_trans l31 (by decide)), Nat.le_trans l31 (by decide), qt ⟨g, l2⟩ _ sA⟩
      · have h48 : c ≠ 48 := fun h => e (decide_eq_true (sg_ne.mpr h))
        have g : Gfig z := ⟨ne, ad, .inr fun y => by rw [ec] at y; exact h48 (Option.some.inj y)⟩
        have l31 : z.length ≤ 3 := Nat.le_trans (len_figs z) (by omega)
        exact ⟨_, rfl, _, iv z, rfl, iv_int g (Nat.le_trans l31 (by decide)), Nat.le_trans l31 (by decide), qt ⟨g, l2⟩ _ sA⟩
end

theorem lnums_none {b z : Str} {bs : List RW} (h : (Txt.split z b).length ≠ bs.length ∨ ∃ (i : Nat) (n : Str) (r : RW), (Txt.split z b)[i]? = some n ∧ bs[i]? = some r ∧ inB (lnum n) r = false) : lnums b bs z = none := by
  refine if_neg fun c => ?_
  obtain ⟨c1, c2⟩ := c
  rcases h with h | ⟨i, n, r, h1, h2, h3⟩
  · exact h c1
  · have hm : (lnum n, r) ∈ ((Txt.split z b).map lnum).zip bs := by
      refine List.mem_of_getElem? (i := i) ?_
      rw [List.getElem?_zip_eq_some]
      exact ⟨by rw [List.getElem?_map, h1]; rfl, h2⟩
    have := List.all_eq_true.mp c2 _ hm
    rw [h3] at this
    cases this
theorem lnums_some {b z : Str} {bs : List RW} (h : (Txt.split z b).length = bs.length) (hb : ∀ (i : Nat) (n : Str) (r : RW), (Txt.split z b)[i]? = some n → bs[i]? = some r → inB (lnum n) r = true) : lnums b bs z = some ((Txt.split z b).map lnum) := by
  refine if_pos ⟨h, List.all_eq_true.mpr fun p hp => ?_⟩
  obtain ⟨i, hi⟩ := List.mem_iff_getElem?.mp hp
  obtain ⟨x, r⟩ := p
  obtain ⟨h1, h2⟩ := List.getElem?_zip_eq_some.mp hi
  rw [List.getElem?_map] at h1
  cases e : (Txt.split z b)[i]? with
  | none => rw [e] at h1; cases h1
  | some n =>
    rw [e] at h1
    cases h1
    exact hb i n r e h2
section
variable {P : Program} {w : World} {K : PySem.W.Frag} {mg : Str → Option Value} {base : Heap}
def sp__law_numbers (K : PySem.W.Frag) : Sp := fun vs H Q _ => ∃ (z b : Str) (B : Addr) (us : List V) (bs : List RW), vs = [.str z, .str b, .ref B] ∧ z.length ≤ 8000 ∧ Uok z ∧ b.length = 1 ∧ SqL K H B us ∧ Paired (RowAt K H) us bs ∧
  (lnums b bs z = none → ∀ H', Same H H' → Q .non H') ∧ (∀ ns, lnums b bs z = some ns → ∀ H' p, Same H H' → SqT K H' p (ns.map V.int) → Q (.ref p) H')
theorem ok__law_numbers {f : Addr} {fd : FuncData} (F : Fun K "_law_numbers" "_law_numbers" s__law_numbers f fd) (T : Txt K mg) (D__law_number : Cl P w K mg base 1 "_law_number" ["_law_word"] (sp__law_number K)) : FnOk P w K mg base CX0 2 f fd ["_law_word", "_law_sign", "_law_bounds"] (sp__law_numbers K) := by
  refine F.ok sc__law_numbers (fun vs H Q E h => ?_) (fun cdv A outer s H vs Q E hr h => ?_)
  · obtain ⟨z, b, B, us, bs, rfl, _⟩ := h
    rfl
  · obtain ⟨z, b, B, us, bs, rfl, hz, hu, hb, hB, pb, q0, q1⟩ := h
    have lus := Paired.length pb
    refine ⟨_, (pss_cons (ps_set (i := 3) sc__law_numbers.nd rfl (Or.inl rfl) (pe_bm PySem.F.plainAttrs_str PySem.F.slot_str_split PySem.F.type_str_split mt_split (pv 0) (pa_cons (pv 1) pa_nil)))
      (pss_cons (ps_if (pt_cmpR op_ne (pe_callB call_len_seq (by rfl) T.b_len (by decide +kernel) (pa_cons (pv 3) pa_nil)) (pe_callB call_len_seq (by rfl) T.b_len (by decide +kernel) (pa_cons (pv 2) pa_nil)) (nomark _)) (pss_one (ps_ret pe_non)) pss_nil)
      (pss_cons (ps_setLc (i := 4) (own := [("_law_part", 8)]) (g := (gName 8)) (tt := tYes) (by rfl) sc__law_numbers.nd rfl rfl (sw_true rfl rfl rfl (by decide +kernel)) (pi_list (pv 3)) (blkOk_by (own := [("_law_part", 8)]) (N := ["_law_word", "_law_sign", "_law_bounds", "_law_parts", "_law_found", "_law_number_here", "_law_least", "_law_most", "_law_part"]) (sc := defScope s__law_numbers) (by decide +kernel)) (fun _ _ _ _ _ => (pg_name (i := 8) sc__law_numbers.nd rfl (Or.inl rfl))) (fun _ _ _ _ _ => pts_nil) (fun _ _ _ _ _ => (pe_own D__law_number (hr.mono (by omega)) (by rfl) (pa_cons (pv 8) pa_nil))))
      (pss_cons (ps_for PassesOwn.never rfl (RZ.pi_zipA (by rfl) T.b_zip (pa_cons (pv 4) (pa_cons (pv 2) pa_nil))) (pg_tup (by rfl) (pgs_cons (pg_name (i := 5) sc__law_numbers.nd rfl (Or.inl rfl)) (pgs_cons (pg_tup (by rfl) (pgs_cons (pg_name (i := 6) sc__law_numbers.nd rfl (Or.inl rfl)) (pgs_cons (pg_name (i := 7) sc__law_numbers.nd rfl (Or.inl rfl)) pgs_nil))) pgs_nil)))
        (pss_one (ps_if (pt_not (pt_chain op_le op_le (pv 6) (pv 5) (pv 7))) (pss_one (ps_ret pe_non)) pss_nil)))
      (pss_one (ps_ret (pe_callTy call_tuple_of (by rfl) T.b_tuple (by decide +kernel) (pa_cons (pv 4) pa_nil)))))))), ?_⟩
    refine ⟨_, rfl, rfl, _, rfl, _, _, rfl, rfl, by rw [hb]; rfl, Nat.le_trans (Nat.add_le_add_right hz 2) (by decide), fun p1 np1 => ?_⟩
    obtain ⟨s1, e1⟩ := new_at (.lst ((Txt.split z b).map V.str)) np1
    generalize upd H p1 (.lst ((Txt.split z b).map V.str)) = H1 at s1 e1 ⊢
    have lw := split_len (b := b) hz
    refine ⟨_, rfl, p1, _, rfl, .inl (.inl (.inl e1)), _, rfl, B, us, rfl, .inl (s1.seq hB), rfl, _, rfl, ite2 (fun e => ?_) (fun e => ?_)⟩
    · refine q0 (lnums_none (.inl fun h => is_ne' ?_ e)) _ s1
      rw [List.length_map, lus, h]
    have hl : (Txt.split z b).length = bs.length := by
      refine Classical.byContradiction fun h => e (no_ne' fun y => h ?_)
      have := V.int.inj y
      rw [List.length_map] at this
      omega
    refine ⟨_, rfl, p1, rfl, ⟨_, .inl (.inl e1)⟩, fun D hD => ?_⟩
    refine lcnewB_list (fun _ v d => v = d) (((Txt.split z b).map lnum).map V.int) (fun _ h => h) (by simp) (by rw [List.length_map]; omega) (.inl (.inl e1)) hD (fun i x y H2 R Z hx hy s2 hR => ?_) (fun H2 ts s2 hL pd => ?_)
    · obtain ⟨x', hx', rfl⟩ := list_str2 hx
      rw [List.getElem?_map, List.getElem?_map, hx'] at hy
      cases hy
      have hm := List.mem_of_getElem? hx'
      exact ⟨rfl, yes_ok ⟨_, rfl, x', rfl, Nat.le_trans (part_short hm) hz, uok_part hu hm, fun H3 s3 => hR _ _ s3 rfl⟩⟩
    obtain rfl : ts = ((Txt.split z b).map lnum).map V.int := pd_eq pd
    have s12 := s1.trans s2
    refine ⟨_, rfl, _, rfl, D, B, ((Txt.split z b).map lnum).map V.int, us, rfl, .inl ⟨.inl (.inl hL), s12.seq hB, ?_⟩⟩
    refine for_pairs (J := Itz K D B) (xs := ((Txt.split z b).map lnum).map V.int) (ys := us) (fun i σ H' => Same H2 H' ∧ (∃ y5 y6 y7, σ = [some (.str z), some (.str b), some (.ref B), some (.ref p1), some (.ref D), y5, y6, y7, none]) ∧ ∀ (j : Nat) (n : Str) (r : RW), j < i → (Txt.split z b)[j]? = some n → bs[j]? = some r → inB (lnum n) r = true)
      ⟨Same.refl _, ⟨none, none, none, rfl⟩, fun j n r hj => absurd hj (Nat.not_lt_zero _)⟩
      (fun i σ H' zz hi => ⟨_, us, _, us[i]'(by simp at hi; omega), .inl (.inl (zz.1 _ _ hL)), zz.1.seq (s12.seq hB), List.getElem?_eq_getElem hi, List.getElem?_eq_getElem _⟩)
      (fun σ H' zz => ⟨_, us, .inl (.inl (zz.1 _ _ hL)), zz.1.seq (s12.seq hB), .inl (Nat.le_refl _)⟩)
      (fun i σ H' v H'' zz ⟨T, x, y, f1, f2, f3, f4, f5⟩ => ⟨T, x, y, f1, f2, f3, f4 _ (.inl (.inl (zz.1 _ _ hL))), f5 _ (zz.1.seq (s12.seq hB))⟩) ?_ ?_
    · rintro i x y T σ H3 hx hy ⟨s3, ⟨y5, y6, y7, rfl⟩, hin⟩ nT
      obtain ⟨n, hn, rfl⟩ : ∃ n, (Txt.split z b)[i]? = some n ∧ x = .int (lnum n) := by
        rw [List.getElem?_map, List.getElem?_map] at hx
        cases e : (Txt.split z b)[i]? with
        | none => rw [e] at hx; cases hx
        | some n => rw [e] at hx; exact ⟨n, rfl, (Option.some.inj hx).symm⟩
      obtain ⟨r, hr1, pr, rfl, hrow⟩ := Paired.at pb hy
      obtain ⟨sT, eT⟩ := new_at (.tup [.int (lnum n), .ref pr]) nT
      generalize upd H3 T (.tup [.int (lnum n), .ref pr]) = H4 at sT eT ⊢
      have s4 := s3.trans sT
      refine ⟨T, _, rfl, .inl (.inl eT), rfl, _, _, rfl, _, _, rfl, pr, _, rfl, Same.sqT (s12.trans s4) hrow, rfl, _, _, rfl, _, _, rfl, rfl, rfl, ?_⟩
      refine ⟨_, rfl, _, rfl, _, _, rfl, rfl, _, rfl, ite2 (fun e => ?_) (fun e => ?_)⟩
      · refine ⟨_, rfl, _, _, rfl, rfl, _, rfl, ?_⟩
        by_cases h2 : lnum n ≤ r.2
        · rw [decide_eq_true h2]
          refine iteF ⟨s4, ⟨_, _, _, rfl⟩, fun j n' r' hj e1 e2 => ?_⟩
          rcases Nat.lt_succ_iff_lt_or_eq.mp hj with h | h
          · exact hin j n' r' h e1 e2
          · rw [h, hn] at e1
            rw [h, hr1] at e2
            cases e1
            cases e2
            exact decide_eq_true ⟨of_decide_eq_true e, h2⟩
        · rw [decide_eq_false h2]
          exact iteT (q0 (lnums_none (.inr ⟨i, n, r, hn, hr1, decide_eq_false fun h => h2 h.2⟩)) _ (s12.trans s4))
      · exact ⟨_, rfl, iteT (q0 (lnums_none (.inr ⟨i, n, r, hn, hr1, decide_eq_false fun h => e (decide_eq_true h.1)⟩)) _ (s12.trans s4))⟩
    · rintro σ H3 ⟨s3, ⟨y5, y6, y7, rfl⟩, hin⟩
      rw [List.length_map, List.length_map] at hin
      refine ⟨_, rfl, D, _, rfl, .inl ⟨.inl (.inl (s3 _ _ hL)), fun l nl => ?_⟩⟩
      exact q1 _ (lnums_some hl fun i n r h1 h2 => hin i n r (List.getElem?_eq_some_iff.mp h1).1 h1 h2) _ l ((s12.trans s3).trans (same_upd nl)) (.inl (.inl upd_same))
end

theorem room65 {k : Nat} {A : Around} (r : Room k A) : A.units + 65 < cLine := by
  have := r.un
  omega
def optD (o : Option (List Int)) : PyData := match o with
  | none => .none
  | some ns => .tuple (ns.map .int)
def OAt (K : PySem.W.Frag) (o : Option (List Int)) (H : Hp) (v : V) : Prop := match o with
  | none => v = .non
  | some ns => ∃ p, v = .ref p ∧ SqT K H p (ns.map V.int)
theorem OAt.keep {K : PySem.W.Frag} {o : Option (List Int)} {H H' : Hp} {v : V} (t : TKeep K H H') (h : OAt K o H v) : OAt K o H' v := by
  cases o with
  | none => exact h
  | some ns =>
    obtain ⟨p, e, hp⟩ := h
    exact ⟨p, e, t _ _ hp⟩
theorem OAt.dp {K : PySem.W.Frag} {o : Option (List Int)} {H : Hp} {v : V} (h : OAt K o H v) : Dp K H v (optD o) := by
  cases o with
  | none =>
    rw [show v = .non from h]
    exact .non
  | some ns =>
    obtain ⟨p, rfl, hp⟩ := h
    exact .tup hp (ints_dp _)
theorem oat_dp {K : PySem.W.Frag} {H : Hp} {f : Str → Option (List Int)} : ∀ {ts : List V} {ws : List Str}, Paired (fun v w => OAt K (f w) H v) ts ws → DpAll K H ts (ws.map fun w => optD (f w))
  | _, _, .nil => .nil
  | _, _, .cons h t => .cons h.dp (oat_dp t)
theorem opt_any {f : Str → Option (List Int)} : ∀ ws : List Str, ((ws.map fun w => optD (f w)).any fun z => PyData.eqv z .none) = !(ws.all fun w => (f w).isSome)
  | [] => rfl
  | w :: ws => by
    have ih := opt_any (f := f) ws
    show (PyData.eqv (optD (f w)) .none || (ws.map fun w => optD (f w)).any fun z => PyData.eqv z .none) = !((f w).isSome && ws.all fun w => (f w).isSome)
    rw [ih]
    cases e : f w with
    | none => rfl
    | some ns =>
      show (PyData.eqv (.tuple (ns.map .int)) .none || _) = !(true && _)
      rw [Bool.true_and]
      have : PyData.eqv (.tuple (ns.map .int)) .none = false := by
        cases h : PyData.eqv (.tuple (ns.map .int)) .none with
        | false => rfl
        | true => exact absurd ((nb_eqv Sd.intsT.nb (Sd.none (k := 0)).nb).mp h) (fun z => nomatch z)
      rw [this]
      rfl
theorem sd_opt (o : Option (List Int)) : Sd 1 (optD o) := by
  cases o with
  | none => exact Sd.none
  | some ns => exact Sd.intsT
theorem rows_at {K : PySem.W.Frag} {H : Hp} : ∀ {ts : List V} {ws : List Str}, allR ws = true → Paired (fun v w => OAt K (lnums "x" RB w) H v) ts ws → Paired (RowAt K H) ts (ws.map rowW)
  | _, _, _, .nil => .nil
  | _, w :: ws, ha, .cons h t => by
    have ha' : ((lnums "x" RB w).isSome && allR ws) = true := ha
    rw [Bool.and_eq_true] at ha'
    refine .cons ?_ (rows_at ha'.2 t)
    rcases row_rel w with ⟨r, _, e2, e3, _, _⟩ | ⟨_, e2⟩
    · rw [e2] at h
      rw [e3]
      exact h
    · rw [e2] at ha'
      cases ha'.1
theorem moves_at {K : PySem.W.Frag} {H : Hp} : ∀ {ts : List V} {ws : List Str}, allM ws = true → Paired (fun v w => OAt K (lnums "," MB w) H v) ts ws → Paired (MoveAt K H) ts (ws.map movW)
  | _, _, _, .nil => .nil
  | _, w :: ws, ha, .cons h t => by
    have ha' : ((lnums "," MB w).isSome && allM ws) = true := ha
    rw [Bool.and_eq_true] at ha'
    refine .cons ?_ (moves_at ha'.2 t)
    rcases mov_rel w with ⟨r, _, e2, e3, _, _⟩ | ⟨_, e2⟩
    · rw [e2] at h
      rw [e3]
      exact h
    · rw [e2] at ha'
      cases ha'.1
theorem llay_no {z w0 : Str} {t : List Str} (hs : Txt.split z " " = w0 :: t) (h : w0 ≠ "layer" ∨ t.length < 1 ∨ 9 < t.length) : llay z = none := by
  unfold llay llayW
  rw [hs]
  match t, h with
  | [], _ => rfl
  | b :: ws, h =>
    refine if_neg fun c => ?_
    rcases h with h | h | h
    · exact h c.1.1
    · simp at h
    · have := c.1.2
      simp at h
      omega
theorem llay_is {z w1 : Str} {ws : List Str} (hs : Txt.split z " " = ("layer" : Str) :: w1 :: ws) (h8 : ws.length ≤ 8) : llay z = if allR ws = true ∧ bkL (bkW w1) ws.length = true then some (ws.map rowW, bkW w1) else none := by
  unfold llay llayW
  rw [hs]
  show (if ((("layer" : Str) = "layer" ∧ ws.length ≤ 8) ∧ allR ws = true ∧ bkL (bkW w1) ws.length = true) then some (ws.map rowW, bkW w1) else none) = _
  by_cases c : allR ws = true ∧ bkL (bkW w1) ws.length = true
  · rw [if_pos c, if_pos ⟨⟨rfl, h8⟩, c⟩]
  · rw [if_neg c, if_neg fun y => c y.2]
section
variable {P : Program} {w : World} {K : PySem.W.Frag} {mg : Str → Option Value} {base : Heap}
def sp__law_layer_in (K : PySem.W.Frag) : Sp := fun vs H Q _ => ∃ (z : Str), vs = [.str z] ∧ z.length ≤ 8000 ∧ Uok z ∧ (llay z = none → ∀ H', Same H H' → Q .non H') ∧ (∀ l, llay z = some l → ∀ H' v, Same H H' → LyAt K H' v l → Q v H')
theorem ok__law_layer_in {f : Addr} {fd : FuncData} (F : Fun K "_law_layer_in" "_law_layer_in" s__law_layer_in f fd) (T : Txt K mg) (D__law_numbers : Cl P w K mg base 2 "_law_numbers" ["_law_word", "_law_sign", "_law_bounds"] (sp__law_numbers K)) (D__law_number : Cl P w K mg base 1 "_law_number" ["_law_word"] (sp__law_number K)) : FnOk P w K mg base CX0 3 f fd ["_law_line"] (sp__law_layer_in K) := by
  refine F.ok sc__law_layer_in (fun vs H Q E h => ?_) (fun cdv A outer s H vs Q E hr h => ?_)
  · obtain ⟨z, rfl, _⟩ := h
    rfl
  · obtain ⟨z, rfl, hz, hu, q0, q1⟩ := h
    refine ⟨_, (pss_cons (ps_set (i := 1) sc__law_layer_in.nd rfl (Or.inl rfl) (pe_bm PySem.F.plainAttrs_str PySem.F.slot_str_split PySem.F.type_str_split mt_split (pv 0) (pa_cons pe_str pa_nil)))
      (pss_cons (ps_if (PW.pt (pw_or (pt_cmpR op_ne (pe_ix ix_list (pv 1) pe_int (fun _ _ => rfl)) pe_str (nomark _)) (pw_or (pt_cmpR op_lt (pe_callB call_len_seq (by rfl) T.b_len (by decide +kernel) (pa_cons (pv 1) pa_nil)) pe_int (nomark _)) (pw_or1 (pt_cmpR op_gt (pe_callB call_len_seq (by rfl) T.b_len (by decide +kernel) (pa_cons (pv 1) pa_nil)) pe_int (nomark _)))))) (pss_one (ps_ret pe_non)) pss_nil)
      (pss_cons (ps_setLc (i := 2) (own := [("_law_word", 4)]) (g := (gName 4)) (tt := tYes) (by rfl) sc__law_layer_in.nd rfl rfl (sw_true rfl rfl rfl (by decide +kernel)) (pi_list (pe_slice sl_list (pv 1) (po_some pe_int) po_none)) (blkOk_by (own := [("_law_word", 4)]) (N := ["_law_line", "_law_words", "_law_rows", "_law_back", "_law_word"]) (sc := defScope s__law_layer_in) (by decide +kernel)) (fun _ _ _ _ _ => (pg_name (i := 4) sc__law_layer_in.nd rfl (Or.inl rfl))) (fun _ _ _ _ _ => pts_nil) (fun _ _ _ _ _ => (pe_own D__law_numbers (hr.mono (by omega)) (by rfl) (pa_cons (pv 4) (pa_cons pe_str (pa_cons (pe_lst (pa_cons (pe_tup (pa_cons pe_int (pa_cons pe_int pa_nil))) (pa_cons (pe_tup (pa_cons pe_int (pa_cons pe_int pa_nil))) pa_nil))) pa_nil))))))
      (pss_cons (ps_set (i := 3) sc__law_layer_in.nd rfl (Or.inl rfl) (pe_ifExp (pt_cmpR op_eq (pe_ix ix_list (pv 1) pe_int (fun _ _ => rfl)) pe_str (nomark _)) pe_non (pe_own D__law_number (hr.mono (by omega)) (by rfl) (pa_cons (pe_ix ix_list (pv 1) pe_int (fun _ _ => rfl)) pa_nil))))
      (pss_cons (ps_if (PW.pt (pw_or (pt_cmpR (op_inD (room65 hr)) pe_non (pv 2) (by rfl)) (pw_or1 (PW.pt (pw_and (pt_cmpR op_notN (pv 3) pe_non (nomark _)) (pw_and1 (pt_not (pt_chain op_le op_lt pe_int (pv 3) (pe_callB call_len_seq (by rfl) T.b_len (by decide +kernel) (pa_cons (pv 2) pa_nil)))))))))) (pss_one (ps_ret pe_non)) pss_nil)
      (pss_one (ps_ret (pe_tup (pa_cons (pe_callTy call_tuple_of (by rfl) T.b_tuple (by decide +kernel) (pa_cons (pv 2) pa_nil)) (pa_cons (pv 3) pa_nil)))))))))), ?_⟩
    refine ⟨_, rfl, rfl, _, _, rfl, rfl, by decide, Nat.le_trans (Nat.add_le_add_right hz 2) (by decide), fun p1 np1 => ?_⟩
    obtain ⟨w0, t, hs⟩ := spl_cons z " "
    have lp : ∀ p ∈ Txt.split z " ", p.length ≤ 8000 ∧ Uok p := fun p hp => ⟨Nat.le_trans (part_short hp) hz, uok_part hu hp⟩
    rw [hs] at lp ⊢
    obtain ⟨s1, e1⟩ := new_at (.lst ((w0 :: t).map V.str)) np1
    generalize upd H p1 (.lst ((w0 :: t).map V.str)) = H1 at s1 e1 ⊢
    refine ⟨_, rfl, p1, _, 0, .str w0, rfl, rfl, .inl (.inl e1), at_n 0 rfl, rfl, _, rfl, ite2 (fun e => ?_) (fun e0 => ?_)⟩
    · exact q0 (llay_no hs (.inl fun h => is_ne' (by rw [h]) e)) _ s1
    refine ⟨_, rfl, p1, _, rfl, .inl (.inl (.inl e1)), _, 2, rfl, rfl, _, rfl, ite2 (fun e => ?_) (fun e => ?_)⟩
    · have l3 : (((w0 :: t).map V.str).length : Int) < 2 := of_decide_eq_true e
      rw [List.length_map, List.length_cons] at l3
      exact q0 (llay_no hs (.inr (.inl (by omega)))) _ s1
    refine ⟨_, rfl, p1, _, rfl, .inl (.inl (.inl e1)), _, 10, rfl, rfl, _, rfl, ite2 (fun e' => ?_) (fun e' => ?_)⟩
    · have l3 : (10 : Int) < (((w0 :: t).map V.str).length : Int) := of_decide_eq_true e'
      rw [List.length_map, List.length_cons] at l3
      exact q0 (llay_no hs (.inr (.inr (by omega)))) _ s1
    obtain rfl : w0 = "layer" := by
      refine Classical.byContradiction fun h => e0 (no_ne' fun y => h (V.str.inj y))
    obtain ⟨w1, ws, rfl⟩ : ∃ w1 ws, t = w1 :: ws := by
      match t, e with
      | [], e => exact absurd (decide_eq_true (by show (1 : Int) < 2; decide)) e
      | a :: ws, _ => exact ⟨a, ws, rfl⟩
    have h8 : ws.length ≤ 8 := by
      have l3 : ¬ (10 : Int) < ((((("layer" : Str) :: w1 :: ws)).map V.str).length : Int) := fun h => e' (decide_eq_true h)
      rw [List.length_map, List.length_cons, List.length_cons] at l3
      omega
    have el := llay_is hs h8
    refine ⟨_, rfl, 2, rfl, p1, _, rfl, .inl (.inl e1), fun p2 np2 => ?_⟩
    rw [cut_2, show ((("layer" : Str) :: w1 :: ws).map V.str).drop 2 = ws.map V.str from rfl]
    obtain ⟨s2, e2⟩ := new_at (.lst (ws.map V.str)) np2
    generalize upd H1 p2 (.lst (ws.map V.str)) = H2 at s2 e2 ⊢
    refine ⟨p2, rfl, ⟨_, .inl (.inl e2)⟩, fun D hD => ?_⟩
    refine lcnewB_list (fun H v w => OAt K (lnums "x" RB w) H v) ws (fun k h => OAt.keep k h) (by rw [List.length_map]) (by rw [List.length_map]; omega) (.inl (.inl e2)) hD (fun i u m H3 R Z hx hm s3 hR => ?_) (fun H3 ts s3 hL pd => ?_)
    · obtain ⟨x', hx', rfl⟩ := list_str2 hx
      rw [hm] at hx'
      cases hx'
      obtain ⟨lm, um⟩ := lp m (by simp [List.mem_of_getElem? hm])
      refine ⟨rfl, yes_ok ⟨_, rfl, (by show 2 ≤ sizeLine; decide), fun pa npa => ?_⟩⟩
      obtain ⟨sa, ea⟩ := new_at (.tup [.int 0, .int 9]) npa
      generalize upd H3 pa (.tup [.int 0, .int 9]) = Ha at sa ea ⊢
      refine ⟨(by show 2 ≤ sizeLine; decide), fun pb npb => ?_⟩
      obtain ⟨sb, eb⟩ := new_at (.tup [.int 1, .int 24]) npb
      generalize upd Ha pb (.tup [.int 1, .int 24]) = Hb at sb eb ⊢
      refine ⟨(by show 2 ≤ sizeLine; decide), fun pc npc => ?_⟩
      obtain ⟨sc, ec⟩ := new_at (.lst [.ref pa, .ref pb]) npc
      generalize upd Hb pc (.lst [.ref pa, .ref pb]) = Hc at sc ec ⊢
      have sA := (sa.trans sb).trans sc
      refine ⟨m, "x", pc, _, RB, rfl, lm, um, by decide, .inl (.inl ec), .cons ⟨pa, rfl, .inl (.inl (sc _ _ (sb _ _ ea)))⟩ (.cons ⟨pb, rfl, .inl (.inl (sc _ _ eb))⟩ .nil), fun hn H4 s4 => hR _ _ (sA.trans s4) ?_, fun ns hn H4 p s4 hp => hR _ _ (sA.trans s4) ?_⟩
      · rw [hn]
        exact rfl
      · rw [hn]
        exact ⟨p, rfl, hp⟩
    have lt : ts.length = ws.length := Paired.length pd
    have s13 := (s1.trans s2).trans s3
    have e13 := s3 _ _ (s2 _ _ e1)
    have back : ∀ (R : Prop), (∀ H4, Same H3 H4 → True) → True := fun _ _ => trivial
    obtain ⟨l1, u1⟩ := lp w1 (by simp)
    -- the rest, once the back is told
    have rest : ∀ H4, Same H3 H4 → ∃ d ds, Dp K H4 .non d ∧ Dp K H4 (.ref D) (.list ds) ∧ SeqAt.shaped d = true ∧ SeqAt.shaped (.list ds) = true ∧ (ds.any fun z => PyData.eqv z d) = !allR ws := fun H4 s4 =>
      ⟨.none, _, .non, .lst (.inl (.inl (s4 _ _ hL))) (oat_dp (Paired.mono pd fun _ _ h => OAt.keep (Same.tk s4) h)), (Sd.none (k := 0)).sh (by decide), (Sd.lst (k := 1) fun e he => by
        obtain ⟨w', _, rfl⟩ := List.mem_map.mp he
        exact sd_opt _).sh (by decide), opt_any ws⟩
    have fin : ∀ H4 p4 p5, Same H3 H4 → H4 p4 = none → upd H4 p4 (.tup ts) p5 = none → allR ws = true → LyAt K (upd (upd H4 p4 (.tup ts)) p5 (.tup [.ref p4, bkV (bkW w1)])) (.ref p5) (ws.map rowW, bkW w1) := fun H4 p4 p5 s4 n4 n5 ha => by
      obtain ⟨sa, ea⟩ := new_at (.tup ts) n4
      have sb := same_upd (o := .tup [.ref p4, bkV (bkW w1)]) n5
      exact ⟨p5, _, rfl, .inl (.inl upd_same), p4, ts, rfl, .inl (.inl (sb _ _ ea)), rows_at ha (Paired.mono pd fun _ _ h => OAt.keep (Same.tk (s4.trans (sa.trans sb))) h)⟩
    refine ⟨_, rfl, p1, _, 1, .str w1, rfl, rfl, .inl (.inl e13), at_n 1 rfl, rfl, _, rfl, ite2 (fun e => ?_) (fun e => ?_)⟩
    · have eb : bkW w1 = none := if_pos (V.str.inj (of_decide_eq_true e))
      rw [eb] at el fin
      obtain ⟨d, ds, a1, a2, a3, a4, a5⟩ := rest H3 (Same.refl _)
      refine ⟨_, rfl, d, ds, a1, a2, a3, a4, ?_⟩
      rw [a5]
      cases ha : allR ws with
      | false =>
        refine ⟨_, rfl, iteT (q0 ?_ _ s13)⟩
        rw [el, ha]
        exact if_neg fun c => by cases c.1
      | true =>
        refine ⟨_, rfl, iteF ⟨_, rfl, rfl, _, rfl, iteF ?_⟩⟩
        refine ⟨_, rfl, D, _, rfl, .inl ⟨.inl (.inl hL), fun p4 n4 => ⟨_, rfl, (by show 2 ≤ sizeLine; decide), fun p5 n5 => ?_⟩⟩⟩
        refine q1 _ ?_ _ _ (s13.trans ((same_upd n4).trans (same_upd n5))) (fin H3 p4 p5 (Same.refl _) n4 n5 ha)
        rw [el, ha]
        exact if_pos ⟨rfl, rfl⟩
    · have eb : bkW w1 = some (lnum w1) := if_neg fun h => e (decide_eq_true (by rw [h]))
      rw [eb] at el fin
      refine ⟨_, rfl, p1, _, 1, .str w1, rfl, rfl, .inl (.inl e13), at_n 1 rfl, w1, rfl, l1, u1, fun H4 s4 => ?_⟩
      obtain ⟨d, ds, a1, a2, a3, a4, a5⟩ := rest H4 s4
      refine ⟨_, rfl, d, ds, a1, a2, a3, a4, ?_⟩
      rw [a5]
      cases ha : allR ws with
      | false =>
        refine ⟨_, rfl, iteT (q0 ?_ _ (s13.trans s4))⟩
        rw [el, ha]
        exact if_neg fun c => by cases c.1
      | true =>
        have e1b : ∀ (b : Bool), (bkL (some (lnum w1)) ws.length = b) ↔ (decide (0 ≤ lnum w1 ∧ lnum w1 < (ws.length : Int)) = b) := fun b => Iff.rfl
        have bad : bkL (some (lnum w1)) ws.length = false → ∀ H', Same H H' → Q .non H' := fun hb => q0 (by
          rw [el, ha, hb]
          exact if_neg fun c => by cases c.2)
        refine ⟨_, rfl, iteF ⟨_, rfl, rfl, _, rfl, iteT ⟨_, rfl, _, _, rfl, rfl, _, rfl, ite2 (fun e => ?_) (fun e => ?_)⟩⟩⟩
        · refine ⟨_, rfl, D, _, rfl, .inl (.inl (.inl (s4 _ _ hL))), _, _, rfl, rfl, _, rfl, ?_⟩
          rw [lt]
          by_cases h2 : lnum w1 < (ws.length : Int)
          · rw [decide_eq_true h2]
            refine iteF ?_
            refine ⟨_, rfl, D, _, rfl, .inl ⟨.inl (.inl (s4 _ _ hL)), fun p4 n4 => ⟨_, rfl, (by show 2 ≤ sizeLine; decide), fun p5 n5 => ?_⟩⟩⟩
            refine q1 _ ?_ _ _ ((s13.trans s4).trans ((same_upd n4).trans (same_upd n5))) (fin H4 p4 p5 s4 n4 n5 ha)
            rw [el, ha]
            exact if_pos ⟨rfl, decide_eq_true ⟨of_decide_eq_true e, h2⟩⟩
          · rw [decide_eq_false h2]
            exact iteT (bad (decide_eq_false fun h => h2 h.2) _ (s13.trans s4))
        · exact ⟨_, rfl, iteT (bad (decide_eq_false fun h => e (decide_eq_true h.1)) _ (s13.trans s4))⟩
end

theorem ifY {b : Bool} {A B : Prop} (e : b = true) (h : A) : if b = true then A else B := by rw [if_pos e]; exact h
theorem ifN {b : Bool} {A B : Prop} (e : b = false) (h : B) : if b = true then A else B := by rw [if_neg (by rw [e]; decide)]; exact h
theorem at_last {α : Type} {xs : List α} {v : α} (h : xs.getLast? = some v) : atI xs (-1) = some v := by
  have ne : xs ≠ [] := fun e => by rw [e] at h; cases h
  have hp := List.length_pos_iff.mpr ne
  rw [List.getLast?_eq_getElem?] at h
  unfold atI ixN
  rw [if_neg (by decide), if_pos (by omega)]
  show xs[((-1 : Int) + (xs.length : Int)).toNat]? = some v
  rw [show ((-1 : Int) + (xs.length : Int)).toNat = xs.length - 1 by omega]
  exact h
theorem cut_mid55 (xs : List V) (h : 2 ≤ xs.length) : cutV xs (some 1) (some (-1)) = (xs.drop 1).dropLast := by
  unfold cutV
  have e1 : HT.sIx xs.length 0 (some 1) = 1 := by
    show (if (1 : Int) < 0 then (1 + (xs.length : Int)).toNat else min (1 : Int).toNat xs.length) = 1
    rw [if_neg (by decide)]
    show min 1 xs.length = 1
    omega
  have e2 : HT.sIx xs.length xs.length (some (-1)) = xs.length - 1 := by
    show (if (-1 : Int) < 0 then (-1 + (xs.length : Int)).toNat else min (-1 : Int).toNat xs.length) = _
    rw [if_pos (by decide)]
    omega
  rw [e1, e2, List.dropLast_eq_take, List.length_drop]
theorem cut_13 (a b c : V) (ws : List V) : cutV (a :: b :: c :: ws) (some 1) (some 3) = [b, c] := by
  unfold cutV
  have e1 : HT.sIx (a :: b :: c :: ws).length 0 (some 1) = 1 := by
    show (if (1 : Int) < 0 then (1 + ((a :: b :: c :: ws).length : Int)).toNat else min (1 : Int).toNat (a :: b :: c :: ws).length) = 1
    rw [if_neg (by decide)]
    show min 1 (ws.length + 1 + 1 + 1) = 1
    omega
  have e2 : HT.sIx (a :: b :: c :: ws).length (a :: b :: c :: ws).length (some 3) = 3 := by
    show (if (3 : Int) < 0 then (3 + ((a :: b :: c :: ws).length : Int)).toNat else min (3 : Int).toNat (a :: b :: c :: ws).length) = 3
    rw [if_neg (by decide)]
    show min 3 (ws.length + 1 + 1 + 1) = 3
    omega
  rw [e1, e2]
  rfl
def lopD (o : Option LY) : PyData := match o with
  | none => .none
  | some l => lyD l
def LAt (K : PySem.W.Frag) (o : Option LY) (H : Hp) (v : V) : Prop := match o with
  | none => v = .non
  | some l => LyAt K H v l
theorem LAt.keep {K : PySem.W.Frag} {o : Option LY} {H H' : Hp} {v : V} (t : TKeep K H H') (h : LAt K o H v) : LAt K o H' v := by
  cases o with
  | none => exact h
  | some l => exact LyAt.keep t h
theorem LAt.dp {K : PySem.W.Frag} {o : Option LY} {H : Hp} {v : V} (h : LAt K o H v) : Dp K H v (lopD o) := by
  cases o with
  | none =>
    rw [show v = .non from h]
    exact .non
  | some l => exact LyAt.dp h
theorem lat_dp {K : PySem.W.Frag} {H : Hp} : ∀ {ts : List V} {ws : List Str}, Paired (fun v w => LAt K (llay w) H v) ts ws → DpAll K H ts (ws.map fun w => lopD (llay w))
  | _, _, .nil => .nil
  | _, _, .cons h t => .cons h.dp (lat_dp t)
theorem lop_any : ∀ ws : List Str, ((ws.map fun w => lopD (llay w)).any fun z => PyData.eqv z .none) = !(allL ws)
  | [] => rfl
  | w :: ws => by
    have ih := lop_any ws
    show (PyData.eqv (lopD (llay w)) .none || (ws.map fun w => lopD (llay w)).any fun z => PyData.eqv z .none) = !((llay w).isSome && allL ws)
    rw [ih]
    cases e : llay w with
    | none => rfl
    | some l =>
      show (PyData.eqv (lyD l) .none || _) = !(true && _)
      rw [Bool.true_and]
      have : PyData.eqv (lyD l) .none = false := by
        cases h : PyData.eqv (lyD l) .none with
        | false => rfl
        | true => exact absurd ((nb_eqv (sd_ly l).nb (Sd.none (k := 0)).nb).mp h) (fun z => nomatch z)
      rw [this]
      rfl
theorem lats_at {K : PySem.W.Frag} {H : Hp} : ∀ {ts : List V} {ws : List Str}, allL ws = true → Paired (fun v w => LAt K (llay w) H v) ts ws → Paired (LyAt K H) ts (ws.map layWW)
  | _, _, _, .nil => .nil
  | _, w :: ws, ha, .cons h t => by
    have ha' : ((llay w).isSome && allL ws) = true := ha
    rw [Bool.and_eq_true] at ha'
    refine .cons ?_ (lats_at ha'.2 t)
    unfold layWW
    cases e : llay w with
    | none => rw [e] at ha'; cases ha'.1
    | some l =>
      rw [e] at h
      exact h
theorem lread_is {z l0 : Str} {rest : List Str} (hs : Txt.split z "\n" = l0 :: rest) : lread z = if (rest.getLast? = some ("" : Str) ∧ 2 ≤ rest.length ∧ rest.length ≤ 5) ∧ allL rest.dropLast = true then (lwin l0).map fun w => (rest.dropLast.map layWW, w) else none := by
  unfold lread lreadL
  rw [hs]
theorem lread_no {z l0 : Str} {rest : List Str} (hs : Txt.split z "\n" = l0 :: rest) (h : lwin l0 = none) : lread z = none := by
  rw [lread_is hs, h]
  split <;> rfl
theorem lwin_no {z w0 : Str} {t : List Str} (hs : Txt.split z " " = w0 :: t) (h : w0 ≠ "window" ∨ t.length < 2 ∨ 10 < t.length) : lwin z = none := by
  unfold lwin lwinW
  rw [hs]
  match t, h with
  | [], _ => rfl
  | [_], _ => rfl
  | a :: b :: ws, h =>
    refine if_neg fun c => ?_
    rcases h with h | h | h
    · exact h c.1.1
    · rw [List.length_cons, List.length_cons] at h; omega
    · have := c.1.2
      rw [List.length_cons, List.length_cons] at h
      omega
theorem lwin_is {z w1 w2 : Str} {ws : List Str} (hs : Txt.split z " " = ("window" : Str) :: w1 :: w2 :: ws) (h8 : ws.length ≤ 8) : lwin z = if allM ws = true ∧ inB (lnum w1) (-20, 20) = true ∧ inB (lnum w2) (-20, 20) = true then some (lnum w1, lnum w2, ws.map movW) else none := by
  unfold lwin lwinW
  rw [hs]
  show (if ((("window" : Str) = "window" ∧ ws.length ≤ 8) ∧ allM ws = true ∧ inB (lnum w1) (-20, 20) = true ∧ inB (lnum w2) (-20, 20) = true) then some (lnum w1, lnum w2, ws.map movW) else none) = _
  by_cases c : allM ws = true ∧ inB (lnum w1) (-20, 20) = true ∧ inB (lnum w2) (-20, 20) = true
  · rw [if_pos c, if_pos ⟨⟨rfl, h8⟩, c⟩]
  · rw [if_neg c, if_neg fun y => c y.2]
section
variable {P : Program} {w : World} {K : PySem.W.Frag} {mg : Str → Option Value} {base : Heap}
def sp__law_read (K : PySem.W.Frag) : Sp := fun vs H Q _ => ∃ (z : Str), vs = [.str z] ∧ z.length ≤ 8000 ∧ Uok z ∧ (lread z = none → ∀ H', Same H H' → Q .non H') ∧ (∀ ls x y ms, lread z = some (ls, x, y, ms) → ∀ H' v, Same H H' → ShAt K H' v ls x y ms → Q v H')
theorem ok__law_read {f : Addr} {fd : FuncData} (F : Fun K "_law_read" "_law_read" s__law_read f fd) (T : Txt K mg) (D__law_number : Cl P w K mg base 1 "_law_number" ["_law_word"] (sp__law_number K)) (D__law_numbers : Cl P w K mg base 2 "_law_numbers" ["_law_word", "_law_sign", "_law_bounds"] (sp__law_numbers K)) (D__law_layer_in : Cl P w K mg base 3 "_law_layer_in" ["_law_line"] (sp__law_layer_in K)) : FnOk P w K mg base CX0 4 f fd ["_law_text"] (sp__law_read K) := by
  refine F.ok sc__law_read (fun vs H Q E h => ?_) (fun cdv A outer s H vs Q E hr h => ?_)
  · obtain ⟨z, rfl, _⟩ := h
    rfl
  · obtain ⟨z, rfl, hz, hu, q0, q1⟩ := h
    refine ⟨_, (pss_cons (ps_set (i := 1) sc__law_read.nd rfl (Or.inl rfl) (pe_bm PySem.F.plainAttrs_str PySem.F.slot_str_split PySem.F.type_str_split mt_split (pv 0) (pa_cons pe_str pa_nil)))
      (pss_cons (ps_asg (pe_tup (pa_cons (pe_bm PySem.F.plainAttrs_str PySem.F.slot_str_split PySem.F.type_str_split mt_split (pe_ix ix_list (pv 1) pe_int (fun _ _ => rfl)) (pa_cons pe_str pa_nil)) (pa_cons (pe_tup (pa_cons (pe_un un_neg pe_int) (pa_cons pe_int pa_nil))) pa_nil))) (pg_tup (by rfl) (pgs_cons (pg_name (i := 2) sc__law_read.nd rfl (Or.inl rfl)) (pgs_cons (pg_name (i := 3) sc__law_read.nd rfl (Or.inr rfl)) pgs_nil))))
      (pss_cons (ps_if (PW.pt (pw_or (pt_cmpR op_ne (pe_ix ix_list (pv 1) (pe_un un_neg pe_int) (fun _ _ => rfl)) pe_str (nomark _)) (pw_or (pt_not (pt_chain op_le op_le pe_int (pe_callB call_len_seq (by rfl) T.b_len (by decide +kernel) (pa_cons (pv 1) pa_nil)) pe_int)) (pw_or (pt_cmpR op_ne (pe_ix ix_list (pv 2) pe_int (fun _ _ => rfl)) pe_str (nomark _)) (pw_or1 (pt_not (pt_chain op_le op_le pe_int (pe_callB call_len_seq (by rfl) T.b_len (by decide +kernel) (pa_cons (pv 2) pa_nil)) pe_int))))))) (pss_one (ps_ret pe_non)) pss_nil)
      (pss_cons (ps_setLc (i := 4) (own := [("_law_word", 7)]) (g := (gName 7)) (tt := tYes) (by rfl) sc__law_read.nd rfl rfl (sw_true rfl rfl rfl (by decide +kernel)) (pi_list (pe_slice sl_list (pv 2) (po_some pe_int) (po_some pe_int))) (blkOk_by (own := [("_law_word", 7)]) (N := ["_law_text", "_law_lines", "_law_words", "_law_far", "_law_place", "_law_moves", "_law_layers", "_law_word", "_law_line"]) (sc := defScope s__law_read) (by decide +kernel)) (fun _ _ _ _ _ => (pg_name (i := 7) sc__law_read.nd rfl (Or.inl rfl))) (fun _ _ _ _ _ => pts_nil) (fun _ _ _ _ _ => (pe_own D__law_number (hr.mono (by omega)) (by rfl) (pa_cons (pv 7) pa_nil))))
      (pss_cons (ps_setLc (i := 5) (own := [("_law_word", 7)]) (g := (gName 7)) (tt := tYes) (by rfl) sc__law_read.nd rfl rfl (sw_true rfl rfl rfl (by decide +kernel)) (pi_list (pe_slice sl_list (pv 2) (po_some pe_int) po_none)) (blkOk_by (own := [("_law_word", 7)]) (N := ["_law_text", "_law_lines", "_law_words", "_law_far", "_law_place", "_law_moves", "_law_layers", "_law_word", "_law_line"]) (sc := defScope s__law_read) (by decide +kernel)) (fun _ _ _ _ _ => (pg_name (i := 7) sc__law_read.nd rfl (Or.inl rfl))) (fun _ _ _ _ _ => pts_nil) (fun _ _ _ _ _ => (pe_own D__law_numbers (hr.mono (by omega)) (by rfl) (pa_cons (pv 7) (pa_cons pe_str (pa_cons (pe_lst (pa_cons (pv 3) (pa_cons (pv 3) (pa_cons (pe_tup (pa_cons pe_int (pa_cons pe_int pa_nil))) pa_nil)))) pa_nil))))))
      (pss_cons (ps_setLc (i := 6) (own := [("_law_line", 8)]) (g := (gName 8)) (tt := tYes) (by rfl) sc__law_read.nd rfl rfl (sw_true rfl rfl rfl (by decide +kernel)) (pi_list (pe_slice sl_list (pv 1) (po_some pe_int) (po_some (pe_un un_neg pe_int)))) (blkOk_by (own := [("_law_line", 8)]) (N := ["_law_text", "_law_lines", "_law_words", "_law_far", "_law_place", "_law_moves", "_law_layers", "_law_word", "_law_line"]) (sc := defScope s__law_read) (by decide +kernel)) (fun _ _ _ _ _ => (pg_name (i := 8) sc__law_read.nd rfl (Or.inl rfl))) (fun _ _ _ _ _ => pts_nil) (fun _ _ _ _ _ => (pe_own D__law_layer_in (hr.mono (by omega)) (by rfl) (pa_cons (pv 8) pa_nil))))
      (pss_cons (ps_if (PW.pt (pw_or (pt_cmpR (op_inD (room65 hr)) pe_non (pv 6) (by rfl)) (pw_or (pt_cmpR (op_inD (room65 hr)) pe_non (pv 5) (by rfl)) (pw_or (pt_cmpR op_gt (pe_callB (cr_max rfl) (by rfl) T.b_max (by decide +kernel) (pa_cons (pv 4) pa_nil)) pe_int (nomark _)) (pw_or1 (pt_cmpR op_lt (pe_callB (cr_min rfl) (by rfl) T.b_min (by decide +kernel) (pa_cons (pv 4) pa_nil)) (pe_un un_neg pe_int) (nomark _))))))) (pss_one (ps_ret pe_non)) pss_nil)
      (pss_one (ps_ret (pe_tup (pa_cons (pe_callTy call_tuple_of (by rfl) T.b_tuple (by decide +kernel) (pa_cons (pv 6) pa_nil)) (pa_cons (pe_tup (pa_cons (pe_ix ix_list (pv 4) pe_int (fun _ _ => rfl)) (pa_cons (pe_ix ix_list (pv 4) pe_int (fun _ _ => rfl)) (pa_cons (pe_callTy call_tuple_of (by rfl) T.b_tuple (by decide +kernel) (pa_cons (pv 5) pa_nil)) pa_nil)))) pa_nil)))))))))))), ?_⟩
    refine ⟨_, rfl, rfl, _, _, rfl, rfl, by decide, Nat.le_trans (Nat.add_le_add_right hz 2) (by decide), fun p1 np1 => ?_⟩
    obtain ⟨l0, rest, hs⟩ := spl_cons z "\n"
    have lp : ∀ p ∈ Txt.split z "\n", p.length ≤ 8000 ∧ Uok p := fun p hp => ⟨Nat.le_trans (part_short hp) hz, uok_part hu hp⟩
    rw [hs] at lp ⊢
    have er := lread_is hs
    obtain ⟨s1, e1⟩ := new_at (.lst ((l0 :: rest).map V.str)) np1
    generalize upd H p1 (.lst ((l0 :: rest).map V.str)) = H1 at s1 e1 ⊢
    obtain ⟨z0, u0⟩ := lp l0 (by simp)
    refine ⟨_, rfl, p1, _, 0, .str l0, rfl, rfl, .inl (.inl e1), at_n 0 rfl, rfl, _, _, rfl, rfl, by decide, Nat.le_trans (Nat.add_le_add_right z0 2) (by decide), fun p2 np2 => ?_⟩
    obtain ⟨w0, t, hw⟩ := spl_cons l0 " "
    have lq : ∀ p ∈ Txt.split l0 " ", p.length ≤ 8000 ∧ Uok p := fun p hp => ⟨Nat.le_trans (part_short hp) z0, uok_part u0 hp⟩
    rw [hw] at lq ⊢
    obtain ⟨s2, e2⟩ := new_at (.lst ((w0 :: t).map V.str)) np2
    generalize upd H1 p2 (.lst ((w0 :: t).map V.str)) = H2 at s2 e2 ⊢
    refine ⟨20, rfl, (by show 2 ≤ sizeLine; decide), fun pf npf => ?_⟩
    obtain ⟨s3, e3⟩ := new_at (.tup [.int (-20), .int 20]) npf
    generalize upd H2 pf (.tup [.int (-20), .int 20]) = H3 at s3 e3 ⊢
    refine ⟨(by show 2 ≤ sizeLine; decide), fun pp npp => ?_⟩
    obtain ⟨s4, e4⟩ := new_at (.tup [.ref p2, .ref pf]) npp
    generalize upd H3 pp (.tup [.ref p2, .ref pf]) = H4 at s4 e4 ⊢
    have s14 := (s2.trans s3).trans s4
    have s04 := s1.trans s14
    have f1 := s14 _ _ e1
    have f2 := s4 _ _ (s3 _ _ e2)
    have f3 := s4 _ _ e3
    refine ⟨pp, _, rfl, .inl (.inl e4), rfl, _, _, rfl, _, _, rfl, rfl, ?_⟩
    clear e4 e3 e2 e1
    -- the looks
    obtain ⟨la, hla⟩ : ∃ la, (l0 :: rest).getLast? = some la := ⟨_, List.getLast?_eq_some_getLast (by simp)⟩
    refine ⟨_, rfl, 1, rfl, p1, _, -1, .str la, rfl, rfl, .inl (.inl f1), at_last (by rw [List.getLast?_map, hla]; rfl), rfl, _, rfl, ite2 (fun e => ?_) (fun ea => ?_)⟩
    · refine q0 ?_ _ s04
      rw [er]
      refine if_neg fun c => is_ne' ?_ e
      have h1 := c.1.1
      have nr : rest ≠ [] := fun h => by rw [h] at h1; cases h1
      rw [List.getLast?_cons_of_ne_nil nr, h1] at hla
      rw [← Option.some.inj hla]
    have ela : la = "" := by
      refine Classical.byContradiction fun h => ea (no_ne' fun y => h (V.str.inj y))
    subst ela
    have ll : (((l0 :: rest).map V.str).length : Int) = (rest.length : Int) + 1 := by
      rw [List.length_map, List.length_cons]
      omega
    refine ⟨_, rfl, p1, _, rfl, .inl (.inl (.inl f1)), _, _, rfl, rfl, _, rfl, ite2 (fun e3 => ?_) (fun e3 => ?_)⟩
    rotate_left 1
    · refine ⟨_, rfl, iteT (q0 ?_ _ s04)⟩
      rw [er]
      refine if_neg fun c => e3 (decide_eq_true ?_)
      have := c.1.2.1
      omega
    have h3 : (3 : Int) ≤ (((l0 :: rest).map V.str).length : Int) := of_decide_eq_true e3
    refine ⟨_, _, rfl, rfl, _, rfl, ?_⟩
    by_cases h6 : (((l0 :: rest).map V.str).length : Int) ≤ 6
    rotate_left 1
    · rw [decide_eq_false h6]
      refine iteT (q0 ?_ _ s04)
      rw [er]
      refine if_neg fun c => h6 ?_
      have := c.1.2.2
      omega
    rw [decide_eq_true h6]
    refine iteF ?_
    have r2 : 2 ≤ rest.length := by omega
    have r5 : rest.length ≤ 5 := by omega
    have rl : rest.getLast? = some ("" : Str) := by
      rw [← hla, List.getLast?_cons_of_ne_nil (fun h => by rw [h] at r2; exact absurd r2 (by decide))]
    refine ⟨_, rfl, p2, _, 0, .str w0, rfl, rfl, .inl (.inl f2), at_n 0 rfl, rfl, _, rfl, ite2 (fun e => ?_) (fun ew => ?_)⟩
    · exact q0 (lread_no hs (lwin_no hw (.inl fun h => is_ne' (by rw [h]) e))) _ s04
    obtain rfl : w0 = "window" := by
      refine Classical.byContradiction fun h => ew (no_ne' fun y => h (V.str.inj y))
    have lt : (((("window" : Str) :: t).map V.str).length : Int) = (t.length : Int) + 1 := by
      rw [List.length_map, List.length_cons]
      omega
    refine ⟨_, rfl, p2, _, rfl, .inl (.inl (.inl f2)), _, _, rfl, rfl, _, rfl, ite2 (fun e4 => ?_) (fun e4 => ?_)⟩
    rotate_left 1
    · refine ⟨_, rfl, iteT (q0 (lread_no hs (lwin_no hw (.inr (.inl ?_)))) _ s04)⟩
      have : ¬ (3 : Int) ≤ (((("window" : Str) :: t).map V.str).length : Int) := fun h => e4 (decide_eq_true h)
      omega
    have h43 : (3 : Int) ≤ (((("window" : Str) :: t).map V.str).length : Int) := of_decide_eq_true e4
    refine ⟨_, _, rfl, rfl, _, rfl, ?_⟩
    by_cases h11 : (((("window" : Str) :: t).map V.str).length : Int) ≤ 11
    rotate_left 1
    · rw [decide_eq_false h11]
      exact iteT (q0 (lread_no hs (lwin_no hw (.inr (.inr (by omega))))) _ s04)
    rw [decide_eq_true h11]
    refine iteF ?_
    obtain ⟨w1, w2, ws, rfl⟩ : ∃ w1 w2 ws, t = w1 :: w2 :: ws := by
      match t, lt, h43 with
      | [], lt, h43 => exact absurd h43 (by decide)
      | [_], lt, h43 => exact absurd h43 (by show ¬ (3 : Int) ≤ 2; decide)
      | a :: b :: ws, _, _ => exact ⟨a, b, ws, rfl⟩
    have h8 : ws.length ≤ 8 := by
      rw [List.length_cons, List.length_cons] at lt
      omega
    have ewin := lwin_is hw h8
    clear ew ea e3 e4 h43 h11 lt h6 h3 ll
    -- the place
    refine ⟨_, rfl, 1, rfl, 3, rfl, p2, _, rfl, .inl (.inl f2), fun p5 np5 => ?_⟩
    rw [show (("window" : Str) :: w1 :: w2 :: ws).map V.str = .str "window" :: .str w1 :: .str w2 :: ws.map V.str from rfl] at f2 ⊢
    rw [cut_13]
    obtain ⟨s5, e5⟩ := new_at (.lst [.str w1, .str w2]) np5
    generalize upd H4 p5 (.lst [.str w1, .str w2]) = H5 at s5 e5 ⊢
    refine ⟨p5, rfl, ⟨_, .inl (.inl e5)⟩, fun D1 hD1 => ?_⟩
    refine lcnewB_list (xs := [.str w1, .str w2]) (fun _ v d => v = d) (([w1, w2].map lnum).map V.int) (fun _ h => h) rfl (by show 2 ≤ 10000; decide) (.inl (.inl e5)) hD1 (fun i x y H6 R Z hx hy s6 hR => ?_) (fun H6 ts6 s6 e6 pd6 => ?_)
    · obtain ⟨x', hx', rfl⟩ := list_str2 (xs := [w1, w2]) hx
      rw [List.getElem?_map, List.getElem?_map, hx'] at hy
      cases hy
      have hm : x' = w1 ∨ x' = w2 := mem2 (List.mem_of_getElem? hx')
      obtain ⟨lx, ux⟩ : x'.length ≤ 8000 ∧ Uok x' := by
        rcases hm with rfl | rfl
        · exact lq _ (by simp)
        · exact lq _ (by simp)
      exact ⟨rfl, yes_ok ⟨_, rfl, x', rfl, lx, ux, fun H7 s7 => hR _ _ s7 rfl⟩⟩
    obtain rfl : ts6 = ([w1, w2].map lnum).map V.int := pd_eq pd6
    clear pd6
    have s46 := s5.trans s6
    -- the moves
    refine ⟨_, rfl, 3, rfl, p2, _, rfl, .inl (.inl (s46 _ _ f2)), fun p7 np7 => ?_⟩
    rw [cut_3, show (V.str "window" :: .str w1 :: .str w2 :: ws.map V.str).drop 3 = ws.map V.str from rfl]
    obtain ⟨s7, e7⟩ := new_at (.lst (ws.map V.str)) np7
    generalize upd H6 p7 (.lst (ws.map V.str)) = H7 at s7 e7 ⊢
    refine ⟨p7, rfl, ⟨_, .inl (.inl e7)⟩, fun D2 hD2 => ?_⟩
    refine lcnewB_list (fun H v w => OAt K (lnums "," MB w) H v) ws (fun k h => OAt.keep k h) (by rw [List.length_map]) (by rw [List.length_map]; omega) (.inl (.inl e7)) hD2 (fun i u m H8 R Z hx hm s8 hR => ?_) (fun H8 ts8 s8 e8 pd8 => ?_)
    · obtain ⟨x', hx', rfl⟩ := list_str2 hx
      rw [hm] at hx'
      cases hx'
      obtain ⟨lm, um⟩ := lq m (by simp [List.mem_of_getElem? hm])
      have g3 := s8 _ _ (s7 _ _ (s46 _ _ f3))
      refine ⟨rfl, yes_ok ⟨_, rfl, _, rfl, _, rfl, (by show 2 ≤ sizeLine; decide), fun pb npb => ?_⟩⟩
      obtain ⟨sb, eb⟩ := new_at (.tup [.int 0, .int 24]) npb
      generalize upd H8 pb (.tup [.int 0, .int 24]) = Hb at sb eb ⊢
      refine ⟨(by show 3 ≤ sizeLine; decide), fun pc npc => ?_⟩
      obtain ⟨sc, ec⟩ := new_at (.lst [.ref pf, .ref pf, .ref pb]) npc
      generalize upd Hb pc (.lst [.ref pf, .ref pf, .ref pb]) = Hc at sc ec ⊢
      have sA := sb.trans sc
      have gf : RowAt K Hc (.ref pf) (-20, 20) := ⟨pf, rfl, .inl (.inl (sA _ _ g3))⟩
      refine ⟨m, ",", pc, _, MB, rfl, lm, um, by decide, .inl (.inl ec), .cons gf (.cons gf (.cons ⟨pb, rfl, .inl (.inl (sc _ _ eb))⟩ .nil)), fun hn H9 s9 => hR _ _ (sA.trans s9) ?_, fun ns hn H9 p s9 hp => hR _ _ (sA.trans s9) ?_⟩
      · rw [hn]
        exact rfl
      · rw [hn]
        exact ⟨p, rfl, hp⟩
    have s48 := (s46.trans s7).trans s8
    -- the layers
    refine ⟨_, rfl, 1, rfl, 1, rfl, -1, rfl, p1, _, rfl, .inl (.inl (s48 _ _ f1)), fun p9 np9 => ?_⟩
    rw [cut_mid55 _ (by rw [List.length_map, List.length_cons]; omega), show ((l0 :: rest).map V.str).drop 1 = rest.map V.str from rfl, ← List.map_dropLast]
    obtain ⟨s9, e9⟩ := new_at (.lst (rest.dropLast.map V.str)) np9
    generalize upd H8 p9 (.lst (rest.dropLast.map V.str)) = H9 at s9 e9 ⊢
    refine ⟨p9, rfl, ⟨_, .inl (.inl e9)⟩, fun D3 hD3 => ?_⟩
    have lmid : rest.dropLast.length ≤ 4 := by rw [List.length_dropLast]; omega
    refine lcnewB_list (fun H v w => LAt K (llay w) H v) rest.dropLast (fun k h => LAt.keep k h) (by rw [List.length_map]) (by rw [List.length_map]; omega) (.inl (.inl e9)) hD3 (fun i u m H10 R Z hx hm s10 hR => ?_) (fun H10 ts10 s10 e10 pd10 => ?_)
    · obtain ⟨x', hx', rfl⟩ := list_str2 hx
      rw [hm] at hx'
      cases hx'
      obtain ⟨lm, um⟩ := lp m (List.mem_cons_of_mem _ (List.dropLast_subset _ (List.mem_of_getElem? hm)))
      refine ⟨rfl, yes_ok ⟨_, rfl, m, rfl, lm, um, fun hn H11 s11 => hR _ _ s11 ?_, fun l hn H11 v s11 hv => hR _ _ s11 ?_⟩⟩
      · rw [hn]
        exact rfl
      · rw [hn]
        exact hv
    have s810 := s9.trans s10
    have s410 := s48.trans s810
    have s010 := s04.trans s410
    have g6 := (s7.trans (s8.trans s810)) _ _ e6
    have g8 := s810 _ _ e8
    -- None in layers
    refine ⟨_, rfl, .none, _, .non, .lst (.inl (.inl e10)) (lat_dp pd10), (Sd.none (k := 0)).sh (by decide), (Sd.lst (k := 3) fun e he => by
        obtain ⟨w', _, rfl⟩ := List.mem_map.mp he
        cases llay w' with
        | none => exact Sd.none
        | some l => exact sd_ly l).sh (by decide), ?_⟩
    rw [lop_any]
    cases hal : allL rest.dropLast with
    | false =>
      refine ⟨_, rfl, iteT (q0 ?_ _ s010)⟩
      rw [er, hal]
      exact if_neg fun c => by cases c.2
    | true =>
    refine ⟨_, rfl, iteF ?_⟩
    refine ⟨_, rfl, .none, _, .non, .lst (.inl (.inl g8)) (oat_dp (Paired.mono pd8 fun _ _ h => OAt.keep (Same.tk s810) h)), (Sd.none (k := 0)).sh (by decide), (Sd.lst (k := 1) fun e he => by
        obtain ⟨w', _, rfl⟩ := List.mem_map.mp he
        exact sd_opt _).sh (by decide), ?_⟩
    rw [opt_any]
    cases ham : allM ws with
    | false =>
      refine ⟨_, rfl, ifY (by show (!allM ws) = true; rw [ham]; rfl) (q0 (lread_no hs ?_) _ s010)⟩
      rw [ewin, ham]
      exact if_neg fun c => by cases c.1
    | true =>
    refine ⟨_, rfl, ifN (by show (!allM ws) = false; rw [ham]; rfl) ?_⟩
    have bad : ¬ (inB (lnum w1) (-20, 20) = true ∧ inB (lnum w2) (-20, 20) = true) → ∀ H', Same H H' → Q .non H' := fun h => q0 (lread_no hs (by
      rw [ewin]
      exact if_neg fun c => h c.2))
    -- the greatest, the least
    refine ⟨_, rfl, D1, [lnum w1, lnum w2], rfl, .inl (.inl g6), (by show 0 < 2; decide), fun m hm hmx => ?_⟩
    refine ⟨_, _, rfl, rfl, _, rfl, ite2 (fun e => ?_) (fun e => ?_)⟩
    · refine bad (fun h => ?_) _ s010
      have e' : (20 : Int) < m := of_decide_eq_true e
      have a1 := of_decide_eq_true h.1
      have a2 := of_decide_eq_true h.2
      rcases mem2 hm with rfl | rfl
      · have := a1.2
        omega
      · have := a2.2
        omega
    have hm20 : m ≤ 20 := by
      have : ¬ (20 : Int) < m := fun h => e (decide_eq_true h)
      omega
    refine ⟨_, rfl, D1, [lnum w1, lnum w2], rfl, .inl (.inl g6), (by show 0 < 2; decide), fun n hn hnx => ?_⟩
    refine ⟨20, rfl, _, _, rfl, rfl, _, rfl, ite2 (fun e => ?_) (fun e => ?_)⟩
    · refine bad (fun h => ?_) _ s010
      have e' : n < -20 := of_decide_eq_true e
      have a1 := of_decide_eq_true h.1
      have a2 := of_decide_eq_true h.2
      rcases mem2 hn with rfl | rfl
      · have := a1.1
        omega
      · have := a2.1
        omega
    have hn20 : -20 ≤ n := by
      have : ¬ n < -20 := fun h => e (decide_eq_true h)
      omega
    have b1 : inB (lnum w1) (-20, 20) = true := decide_eq_true ⟨Int.le_trans hn20 (hnx _ (by simp)), Int.le_trans (hmx _ (by simp)) hm20⟩
    have b2 : inB (lnum w2) (-20, 20) = true := decide_eq_true ⟨Int.le_trans hn20 (hnx _ (by simp)), Int.le_trans (hmx _ (by simp)) hm20⟩
    refine ⟨_, rfl, D3, _, rfl, .inl ⟨.inl (.inl e10), fun pl npl => ?_⟩⟩
    obtain ⟨sl, el⟩ := new_at (.tup ts10) npl
    generalize upd H10 pl (.tup ts10) = H11 at sl el ⊢
    have g6' := sl _ _ g6
    refine ⟨_, rfl, D1, _, 0, .int (lnum w1), rfl, rfl, .inl (.inl g6'), at_n 0 rfl, _, rfl, D1, _, 1, .int (lnum w2), rfl, rfl, .inl (.inl g6'), at_n 1 rfl, ?_⟩
    refine ⟨_, rfl, D2, _, rfl, .inl ⟨.inl (.inl (sl _ _ g8)), fun pm npm => ?_⟩⟩
    obtain ⟨sm, em⟩ := new_at (.tup ts8) npm
    generalize upd H11 pm (.tup ts8) = H12 at sm em ⊢
    refine ⟨(by show 3 ≤ sizeLine; decide), fun pw npw => ?_⟩
    obtain ⟨sw, ew⟩ := new_at (.tup [.int (lnum w1), .int (lnum w2), .ref pm]) npw
    generalize upd H12 pw (.tup [.int (lnum w1), .int (lnum w2), .ref pm]) = H13 at sw ew ⊢
    refine ⟨(by show 2 ≤ sizeLine; decide), fun ps nps => ?_⟩
    obtain ⟨sp, ep⟩ := new_at (.tup [.ref pl, .ref pw]) nps
    generalize upd H13 ps (.tup [.ref pl, .ref pw]) = H14 at sp ep ⊢
    have t1 := (sl.trans sm).trans (sw.trans sp)
    refine q1 (rest.dropLast.map layWW) (lnum w1) (lnum w2) (ws.map movW) ?_ _ _ (s010.trans t1) ⟨ps, _, _, rfl, .inl (.inl ep), ⟨pl, ts10, rfl, .inl (.inl ((sm.trans (sw.trans sp)) _ _ el)), lats_at hal (Paired.mono pd10 fun _ _ h => LAt.keep (Same.tk t1) h)⟩, ⟨pw, _, rfl, .inl (.inl (sp _ _ ew)), pm, ts8, rfl, .inl (.inl ((sw.trans sp) _ _ em)), moves_at ham (Paired.mono pd8 fun _ _ h => OAt.keep (Same.tk (s810.trans t1)) h)⟩⟩
    rw [er, if_pos ⟨⟨rl, r2, r5⟩, hal⟩, ewin, if_pos ⟨ham, b1, b2⟩]
    rfl
end

section
variable {P : Program} {w : World} {K : PySem.W.Frag} {mg : Str → Option Value} {base : Heap}
def sp__law_cell_at (K : PySem.W.Frag) : Sp := fun vs H Q _ => ∃ (a : Addr) (ns : List Int) (k : Int), vs = [.ref a, .int k] ∧ SqL K H a (ns.map V.int) ∧ 0 ≤ k ∧ ∀ c, Q (.int c) H
theorem ok__law_cell_at {f : Addr} {fd : FuncData} (F : Fun K "_law_cell_at" "_law_cell_at" s__law_cell_at f fd) (T : Txt K mg) : FnOk P w K mg base CX0 1 f fd ["_law_script", "_law_k"] (sp__law_cell_at K) := by
  refine F.ok sc__law_cell_at (fun vs H Q E h => ?_) (fun cdv A outer s H vs Q E hr h => ?_)
  · obtain ⟨a, ns, k, rfl, _⟩ := h
    rfl
  · obtain ⟨a, ns, k, rfl, hS, hk, q⟩ := h
    refine ⟨_, (pss_cons (ps_if (pt_cmpR op_lt (pv 1) (pe_callB call_len_seq (by rfl) T.b_len (by decide +kernel) (pa_cons (pv 0) pa_nil)) (nomark _)) (pss_one (ps_ret (pe_ix ix_list (pv 0) (pv 1) (fun _ _ => rfl)))) pss_nil)
      (pss_one (ps_ret pe_int))), ?_⟩
    refine ⟨_, rfl, _, rfl, a, _, rfl, .inl hS, k, _, rfl, rfl, _, rfl, ite2 (fun e => ?_) (fun _ => q 0)⟩
    have e1 : k < ((ns.map V.int).length : Int) := of_decide_eq_true e
    rw [List.length_map] at e1
    have hj : k.toNat < ns.length := by omega
    have g : (ns.map V.int)[k.toNat]? = some (.int ns[k.toNat]) := by
      rw [List.getElem?_map, List.getElem?_eq_getElem hj]
      rfl
    exact ⟨_, rfl, _, rfl, a, _, k, _, rfl, rfl, hS, at_of (j := k.toNat) (by omega) g, q _⟩
def sp__law_state (K : PySem.W.Frag) : Sp := fun vs H Q _ => ∃ (a : Addr) (ns : List Int) (k : Int), vs = [.ref a, .int k] ∧ SqL K H a (ns.map V.int) ∧ 0 ≤ k ∧ ∀ H' p, Same H H' → H p = none → IsSx H' p → Q (.ref p) H'
theorem ok__law_state {f : Addr} {fd : FuncData} (F : Fun K "_law_state" "_law_state" s__law_state f fd) (T : Txt K mg) (D__law_cell_at : Cl P w K mg base 1 "_law_cell_at" ["_law_script", "_law_k"] (sp__law_cell_at K)) : FnOk P w K mg base CX0 2 f fd ["_law_script", "_law_k"] (sp__law_state K) := by
  refine F.ok sc__law_state (fun vs H Q E h => ?_) (fun cdv A outer s H vs Q E hr h => ?_)
  · obtain ⟨a, ns, k, rfl, _⟩ := h
    rfl
  · obtain ⟨a, ns, k, rfl, hS, hk, q⟩ := h
    refine ⟨_, (pss_cons (ps_set (i := 2) sc__law_state.nd rfl (Or.inl rfl) (pe_own D__law_cell_at (hr.mono (by omega)) (by rfl) (pa_cons (pv 0) (pa_cons (pv 1) pa_nil))))
      (pss_cons (ps_if (pt_cmpR op_ge (pv 2) (pe_op op_pow pe_int pe_int) (nomark _)) (pss_one (ps_ret (pe_lst (pa_cons (pe_op op_sub (pv 2) (pe_op op_pow pe_int pe_int)) (pa_cons pe_bl pa_nil))))) pss_nil)
      (pss_one (ps_ret (pe_lst (pa_cons (pe_op op_modN (pv 2) pe_int) (pa_cons pe_bl pa_nil))))))), ?_⟩
    refine ⟨_, rfl, _, rfl, a, ns, k, rfl, hS, hk, fun c => ?_⟩
    refine ⟨_, rfl, 10, 18, rfl, rfl, ⟨by decide, by decide, by decide⟩, _, _, rfl, rfl, _, rfl, ite2 (fun e => ?_) (fun e => ?_)⟩
    · have e1 := of_decide_eq_true e
      refine ⟨_, rfl, 10, 18, rfl, rfl, ⟨by decide, by decide, by decide⟩, _, _, rfl, rfl, (by show 2 ≤ sizeLine; decide), fun p np => ?_⟩
      exact q _ p (same_upd np) np ⟨_, _, upd_same, by omega, fun z => Bool.noConfusion z⟩
    · refine ⟨_, rfl, _, _, rfl, rfl, (by show (2147483647 : Int) ≠ 0; decide), (by show 2 ≤ sizeLine; decide), fun p np => ?_⟩
      exact q _ p (same_upd np) np ⟨_, _, upd_same, (fm (by decide)).1, fun _ => (fm (by decide)).2⟩
def sp__law_take (K : PySem.W.Frag) : Sp := fun vs H Q _ => ∃ (st : Addr) (n : Int), vs = [.ref st, .int n] ∧ IsSx H st ∧ 0 < n ∧ n < 1073741824 ∧ ∀ r H', 0 ≤ r → r < n → Gx st H H' → Q (.int r) H'
theorem ok__law_take {f : Addr} {fd : FuncData} (F : Fun K "_law_take" "_law_take" s__law_take f fd) (T : Txt K mg) : FnOk P w K mg base CX0 1 f fd ["_law_state_here", "_law_many"] (sp__law_take K) := by
  refine F.ok sc__law_take (fun vs H Q E h => ?_) (fun cdv A outer s H vs Q E hr h => ?_)
  · obtain ⟨st, n, rfl, _⟩ := h
    rfl
  · obtain ⟨st, n, rfl, ⟨a, b, hs, ha, hb⟩, n0, n1, q⟩ := h
    refine ⟨_, (pss_cons (ps_if (pt_val (pe_ix ix_list (pv 0) pe_int (fun _ _ => rfl))) (pss_cons (ps_set (i := 2) sc__law_take.nd rfl (Or.inl rfl) (pe_op op_modN (pe_ix ix_list (pv 0) pe_int (fun _ _ => rfl)) (pv 1)))
      (pss_cons (ps_asg (pe_op op_fdivN (pe_ix ix_list (pv 0) pe_int (fun _ _ => rfl)) (pv 1)) (pg_sub (pv 0) pe_int set_list))
      (pss_one (ps_ret (pv 2))))) pss_nil)
      (pss_cons (ps_asg (pe_op op_modN (pe_op op_add (pe_op op_mul (pe_ix ix_list (pv 0) pe_int (fun _ _ => rfl)) pe_int) pe_int) pe_int) (pg_sub (pv 0) pe_int set_list))
      (pss_cons (ps_set (i := 3) sc__law_take.nd rfl (Or.inl rfl) (pe_op op_modN (pe_op op_add (pe_op op_add (pe_op op_mul (pe_ix ix_list (pv 0) pe_int (fun _ _ => rfl)) (pe_ix ix_list (pv 0) pe_int (fun _ _ => rfl))) (pe_op op_mul pe_int (pe_ix ix_list (pv 0) pe_int (fun _ _ => rfl)))) pe_int) pe_int))
      (pss_cons (ps_set (i := 3) sc__law_take.nd rfl (Or.inl rfl) (pe_op op_modN (pe_op op_add (pe_op op_mul (pv 3) (pv 3)) (pe_op op_mul pe_int (pv 3))) pe_int))
      (pss_one (ps_ret (pe_op op_modN (pe_op op_fdivN (pv 3) pe_int) (pv 1)))))))), ?_⟩
    refine ⟨_, rfl, st, _, 1, _, rfl, rfl, .inl (.inl hs), rfl, b, rfl, ?_⟩
    cases b with
    | true =>
      refine iteT ?_
      refine ⟨_, rfl, st, _, 0, _, rfl, rfl, .inl (.inl hs), rfl, _, rfl, a, n, rfl, rfl, by omega, ?_⟩
      refine ⟨_, rfl, st, _, 0, _, rfl, rfl, .inl (.inl hs), rfl, _, rfl, a, n, rfl, rfl, ⟨by omega, by omega⟩, _, rfl, st, _, 0, 0, rfl, rfl, hs, rfl, ?_⟩
      refine ⟨_, rfl, q _ _ (fm n0).1 (fm n0).2 (gx_set hs ?_ (fun z => Bool.noConfusion z))⟩
      rw [Int.fdiv_eq_ediv_of_nonneg _ (by omega)]
      exact Int.ediv_nonneg ha (by omega)
    | false =>
      have hb1 := hb rfl
      refine iteF ?_
      refine ⟨_, rfl, st, _, 0, _, rfl, rfl, .inl (.inl hs), rfl, a, 48271, rfl, rfl, .inl ⟨by omega, by omega⟩, _, _, rfl, rfl, _, _, rfl, rfl, (by show (2147483647 : Int) ≠ 0; decide), _, rfl, st, _, 0, 0, rfl, rfl, hs, rfl, ?_⟩
      dsimp only
      have f1 := fm (x := a * 48271 + 29) (m := 2147483647) (by decide)
      generalize (a * 48271 + 29).fmod 2147483647 = b1 at f1 ⊢
      obtain ⟨f1a, f1b⟩ := f1
      have hs1 : (upd H st (.lst [.int b1, .bl false])) st = some (.lst [.int b1, .bl false]) := upd_same
      refine ⟨_, rfl, st, _, 0, _, rfl, rfl, .inl (.inl hs1), rfl, _, rfl, st, _, 0, _, rfl, rfl, .inl (.inl hs1), rfl, b1, b1, rfl, rfl, .inl ⟨by omega, by omega⟩, _, rfl, st, _, 0, _, rfl, rfl, .inl (.inl hs1), rfl, 39373, b1, rfl, rfl, .inl ⟨by decide, by decide⟩, _, _, rfl, rfl, _, _, rfl, rfl, _, _, rfl, rfl, (by show (2147483629 : Int) ≠ 0; decide), ?_⟩
      dsimp only
      have f2 := fm (x := b1 * b1 + 39373 * b1 + 7) (m := 2147483629) (by decide)
      generalize (b1 * b1 + 39373 * b1 + 7).fmod 2147483629 = b2 at f2 ⊢
      obtain ⟨f2a, f2b⟩ := f2
      refine ⟨_, rfl, _, rfl, b2, b2, rfl, rfl, .inl ⟨by omega, by omega⟩, _, rfl, 16807, b2, rfl, rfl, .inl ⟨by decide, by decide⟩, _, _, rfl, rfl, _, _, rfl, rfl, (by show (2147483587 : Int) ≠ 0; decide), ?_⟩
      dsimp only
      generalize (b2 * b2 + 16807 * b2).fmod 2147483587 = b3
      refine ⟨_, rfl, b3, 8, rfl, rfl, ⟨by decide, by decide⟩, _, rfl, _, n, rfl, rfl, by omega, ?_⟩
      exact q _ _ (fm n0).1 (fm n0).2 (gx_set hs f1a (fun _ => f1b))
end

section
variable {P : Program} {w : World} {K : PySem.W.Frag} {mg : Str → Option Value} {base : Heap}
def sp__law_row (K : PySem.W.Frag) : Sp := fun vs H Q _ => ∃ (st : Addr), vs = [.ref st] ∧ IsSx H st ∧ ∀ (r : RW) (p : Addr) (H' : Hp), VRow r → Gx st H H' → H' p = some (.tup [.int r.1, .int r.2]) → Q (.ref p) H'
theorem ok__law_row {f : Addr} {fd : FuncData} (F : Fun K "_law_row" "_law_row" s__law_row f fd) (T : Txt K mg) (D__law_take : Cl P w K mg base 1 "_law_take" ["_law_state_here", "_law_many"] (sp__law_take K)) : FnOk P w K mg base CX0 2 f fd ["_law_state_here"] (sp__law_row K) := by
  refine F.ok sc__law_row (fun vs H Q E h => ?_) (fun cdv A outer s H vs Q E hr h => ?_)
  · obtain ⟨st, rfl, _⟩ := h
    rfl
  · obtain ⟨st, rfl, hs, q⟩ := h
    refine ⟨_, (pss_cons (ps_set (i := 1) sc__law_row.nd rfl (Or.inl rfl) (pe_ix ix_list (pe_lst (pa_cons (pe_own D__law_take (hr.mono (by omega)) (by rfl) (pa_cons (pv 0) (pa_cons pe_int pa_nil))) (pa_cons (pe_own D__law_take (hr.mono (by omega)) (by rfl) (pa_cons (pv 0) (pa_cons pe_int pa_nil))) pa_nil))) (pe_own D__law_take (hr.mono (by omega)) (by rfl) (pa_cons (pv 0) (pa_cons pe_int pa_nil))) (fun _ _ => rfl)))
      (pss_one (ps_ret (pe_tup (pa_cons (pv 1) (pa_cons (pe_op op_add pe_int (pe_own D__law_take (hr.mono (by omega)) (by rfl) (pa_cons (pv 0) (pa_cons (pe_ix ix_list (pe_lst (pa_cons pe_int (pa_cons pe_int (pa_cons pe_int pa_nil)))) (pe_own D__law_take (hr.mono (by omega)) (by rfl) (pa_cons (pv 0) (pa_cons pe_int pa_nil))) (fun _ _ => rfl)) pa_nil)))) pa_nil)))))), ?_⟩
    refine ⟨_, rfl, st, 10, rfl, hs, by decide, by decide, fun r1 H1 a1 b1 g1 => ?_⟩
    refine ⟨_, rfl, st, 3, rfl, g1.2.1 hs, by decide, by decide, fun r2 H2 a2 b2 g2 => ?_⟩
    have g12 := g1.trans g2
    refine ⟨(by show 2 ≤ sizeLine; decide), fun p np => ?_⟩
    obtain ⟨s3, e3⟩ := new_at (.lst [.int r1, .int r2]) np
    have np' := sx_ne (g12.2.1 hs) np
    generalize upd H2 p (.lst [.int r1, .int r2]) = H3 at s3 e3 ⊢
    have g13 := g12.trans (gx_same (st := st) s3)
    refine ⟨_, rfl, st, 2, rfl, g13.2.1 hs, by decide, by decide, fun r4 H4 a4 b4 g4 => ?_⟩
    have g14 := g13.trans g4
    obtain ⟨d, d0, d1, ed⟩ : ∃ d : Int, 0 ≤ d ∧ d ≤ 9 ∧ atI [V.int r1, .int r2] r4 = some (.int d) := by
      rcases (by omega : r4 = 0 ∨ r4 = 1) with e | e <;> subst e
      · exact ⟨r1, by omega, by omega, rfl⟩
      · exact ⟨r2, by omega, by omega, rfl⟩
    refine ⟨p, _, _, _, rfl, rfl, .inl (.inl (g4.1 _ _ np' lst_tbl e3)), ed, ?_⟩
    refine ⟨_, rfl, _, rfl, (by show 3 ≤ sizeLine; decide), fun p2 np2 => ?_⟩
    obtain ⟨s5, e5⟩ := new_at (.lst [.int 24, .int 3, .int 6]) np2
    have np2' := sx_ne (g14.2.1 hs) np2
    generalize upd H4 p2 (.lst [.int 24, .int 3, .int 6]) = H5 at s5 e5 ⊢
    have g15 := g14.trans (gx_same (st := st) s5)
    refine ⟨_, rfl, st, 3, rfl, g15.2.1 hs, by decide, by decide, fun r6 H6 a6 b6 g6 => ?_⟩
    have g16 := g15.trans g6
    obtain ⟨m, m0, m1, em⟩ : ∃ m : Int, 0 < m ∧ m ≤ 24 ∧ atI [V.int 24, .int 3, .int 6] r6 = some (.int m) := by
      rcases (by omega : r6 = 0 ∨ r6 = 1 ∨ r6 = 2) with e | e | e <;> subst e
      · exact ⟨24, by omega, by omega, rfl⟩
      · exact ⟨3, by omega, by omega, rfl⟩
      · exact ⟨6, by omega, by omega, rfl⟩
    refine ⟨p2, _, r6, _, rfl, rfl, .inl (.inl (g6.1 _ _ np2' lst_tbl e5)), em, st, m, rfl, g16.2.1 hs, m0, by omega, fun r7 H7 a7 b7 g7 => ?_⟩
    refine ⟨_, _, rfl, rfl, (by show 2 ≤ sizeLine; decide), fun p8 np8 => ?_⟩
    exact q (d, 1 + r7) p8 _ ⟨d0, d1, by show 1 ≤ 1 + r7; omega, by show 1 + r7 ≤ 24; omega⟩ ((g16.trans g7).trans (gx_same (same_upd np8))) upd_same
def sp__law_layer (K : PySem.W.Frag) : Sp := fun vs H Q _ => ∃ (st : Addr) (mo : Int) (en : Bool), vs = [.ref st, .int mo, .bl en] ∧ IsSx H st ∧ 0 ≤ mo ∧ mo ≤ 8 ∧
  ∀ (v : V) (l : LY) (H' : Hp), Gx st H H' → LyAt K H' v l → VLy l → (l.1.length : Int) ≤ mo → (en = true → l.2 = none) → Q v H'
theorem ok__law_layer {f : Addr} {fd : FuncData} (F : Fun K "_law_layer" "_law_layer" s__law_layer f fd) (T : Txt K mg) (D__law_row : Cl P w K mg base 2 "_law_row" ["_law_state_here"] (sp__law_row K)) (D__law_take : Cl P w K mg base 1 "_law_take" ["_law_state_here", "_law_many"] (sp__law_take K)) : FnOk P w K mg base CX0 3 f fd ["_law_state_here", "_law_most", "_law_ended"] (sp__law_layer K) := by
  refine F.ok sc__law_layer (fun vs H Q E h => ?_) (fun cdv A outer s H vs Q E hr h => ?_)
  · obtain ⟨st, mo, en, rfl, _⟩ := h
    rfl
  · obtain ⟨st, mo, en, rfl, hs, mo0, mo1, q⟩ := h
    refine ⟨_, (pss_cons (ps_set (i := 3) sc__law_layer.nd rfl (Or.inl rfl) (pe_callTy call_tuple_of (by rfl) T.b_tuple (by decide +kernel) (pa_cons (pe_lc (own := [("_law_turn", 6)]) (g := (gName 6)) (tt := tYes) (by rfl) sc__law_layer.nd (pi_range1 (by rfl) T.b_range (pa_cons (pe_own D__law_take (hr.mono (by omega)) (by rfl) (pa_cons (pv 0) (pa_cons (pe_op op_add (pv 1) pe_int) pa_nil))) pa_nil)) (blkOk_by (own := [("_law_turn", 6)]) (N := ["_law_state_here", "_law_most", "_law_ended", "_law_rows", "_law_way", "_law_back", "_law_turn"]) (sc := defScope s__law_layer) (by decide +kernel)) (fun _ _ _ _ _ => (pg_name (i := 6) sc__law_layer.nd rfl (Or.inl rfl))) (fun _ _ _ _ _ => pts_nil) (fun _ _ _ _ _ => (pe_own D__law_row (hr.mono (by omega)) (by rfl) (pa_cons (pv 0) pa_nil)))) pa_nil)))
      (pss_cons (ps_par (i := 4) (j := 5) (by rfl) sc__law_layer.nd rfl rfl (by decide) rfl rfl (pa_cons (pe_own D__law_take (hr.mono (by omega)) (by rfl) (pa_cons (pv 0) (pa_cons pe_int pa_nil))) (pa_cons (pe_own D__law_take (hr.mono (by omega)) (by rfl) (pa_cons (pv 0) (pa_cons (pe_callB (call_max2 rfl) (by rfl) T.b_max (by decide +kernel) (pa_cons pe_int (pa_cons (pe_callB call_len_seq (by rfl) T.b_len (by decide +kernel) (pa_cons (pv 3) pa_nil)) pa_nil))) pa_nil))) pa_nil)) (by rfl))
      (pss_one (ps_ret (pe_tup (pa_cons (pv 3) (pa_cons (pe_ifExp (PW.pt (pw_or (pt_truth (pv 2) (by intro _; rfl)) (pw_or (pt_cmpR (op_eqD hr.units) (pv 3) (pe_tup pa_nil) (nomark _)) (pw_or1 (pt_cmpR op_eq (pv 4) pe_int (nomark _)))))) pe_non (pv 5)) pa_nil))))))), ?_⟩
    refine ⟨_, rfl, _, rfl, mo, 1, rfl, rfl, st, mo + 1, rfl, hs, by omega, by omega, fun mn H1 m0 m1 g1 => ?_⟩
    have hs1 := g1.2.1 hs
    refine ⟨mn, rfl, by omega, by omega, fun D hD => ?_⟩
    have nD := sx_ne hs1 hD
    have gD : Gx st H1 (upd H1 D (.lst [])) := gx_same (same_upd hD)
    refine lc_range (lo := 0) (n := mn.toNat) (fun i H' => Gx st H1 H' ∧ ∃ (vs : List V) (rs : List RW), H' D = some (.lst vs) ∧ vs.length = i ∧ Paired (RowAt K H') vs rs ∧ ∀ r ∈ rs, VRow r)
      ⟨gD, [], [], upd_same, rfl, .nil, fun r hr => by cases hr⟩ (fun i H7 hi p7 => ?_) (fun H7 p7 => ?_)
    · obtain ⟨g7, vs, rs, hL, hlen, pd, vr⟩ := p7
      refine ⟨rfl, yes_ok ⟨_, rfl, st, rfl, g7.2.1 hs1, fun r p8 H8 vr8 g8 e8 => ?_⟩⟩
      have hL8 := g8.1 D _ nD lst_tbl hL
      refine ⟨vs, hL8, small1000 (by omega), gx_upd (g7.trans g8) hD nD hL8 _, vs ++ [.ref p8], rs ++ [r], upd_same, ?_, ?_, ?_⟩
      · rw [List.length_append, hlen]
        rfl
      · have k1 : TKeep K H7 (upd H8 D (.lst (vs ++ [.ref p8]))) := fun a xs h => tk_updL hL8 _ _ (g8.sqT (g7.2.1 hs1) h)
        exact Paired.snocP (Paired.mono pd fun _ _ => RowAt.keep k1) ⟨p8, rfl, tk_updL hL8 _ _ (.inl (.inl e8))⟩
      · intro x hx
        rcases List.mem_append.mp hx with z | z
        · exact vr x z
        · rw [List.mem_singleton.mp z]
          exact vr8
    obtain ⟨g7, vs, rs, hL, hlen, pd, vr⟩ := p7
    have hl : vs.length = rs.length := Paired.length pd
    refine ⟨D, vs, rfl, .inl ⟨.inl (.inl hL), fun l nl => ?_⟩⟩
    obtain ⟨s8, e8⟩ := new_at (.tup vs) nl
    generalize upd H7 l (.tup vs) = H8 at s8 e8 ⊢
    have g8 := (g1.trans g7).trans (gx_same (st := st) s8)
    have hr8 : RowsAt K H8 (.ref l) rs := ⟨l, vs, rfl, .inl (.inl e8), Paired.mono pd fun _ _ => RowAt.keep (Same.tk s8)⟩
    refine ⟨_, rfl, st, 2, rfl, g8.2.1 hs, by decide, by decide, fun wy H9 w0 w1 g9 => ?_⟩
    have g19 := g8.trans g9
    have hr9 := hr8.keep (g9.tk (g8.2.1 hs))
    obtain ⟨l', vs', el, hq9, pd9⟩ := id hr9
    cases el
    have hl9 : vs'.length = rs.length := Paired.length pd9
    refine ⟨_, rfl, _, rfl, l, vs', rfl, .inr hq9, _, _, rfl, ?_⟩
    obtain ⟨mx, x0, x1, x2, ex⟩ : ∃ m : Int, 1 ≤ m ∧ m ≤ 8 ∧ (0 < rs.length → m = (rs.length : Int)) ∧ (if (vs'.length : Int) > 1 then (vs'.length : Int) else 1) = m := by
      refine ⟨_, ?_, ?_, ?_, rfl⟩ <;> split <;> omega
    rw [ex]
    refine ⟨st, mx, rfl, g19.2.1 hs, by omega, by omega, fun bk H10 b0 b1 g10 => ⟨_, _, rfl, ?_⟩⟩
    have g110 := g19.trans g10
    have hr10 := hr9.keep (g10.tk (g19.2.1 hs))
    have vR : VRows rs := ⟨by omega, vr⟩
    have done : ∀ (o : Option Int) (H11 : Hp), Same H10 H11 → VBack rs o → (en = true → o = none) → ∀ p, H11 p = none → Q (.ref p) (upd H11 p (.tup [.ref l, bkV o])) := fun o H11 s11 vb he p np => by
      have sp' := same_upd (o := .tup [.ref l, bkV o]) np
      exact q _ (rs, o) _ ((g110.trans (gx_same s11)).trans (gx_same sp')) ⟨p, _, rfl, .inl (.inl upd_same), hr10.keep (Same.tk (s11.trans sp'))⟩ ⟨vR, vb⟩ (by show (rs.length : Int) ≤ mo; omega) he
    refine ⟨_, rfl, _, rfl, _, rfl, ?_⟩
    cases en with
    | true => exact iteT (iteT ⟨(by show 2 ≤ sizeLine; decide), done none H10 (Same.refl _) (fun i e => nomatch e) (fun _ => rfl)⟩)
    | false =>
      refine iteF ⟨_, rfl, (by show 0 ≤ sizeLine; decide), fun t nt => ?_⟩
      obtain ⟨s11, e11⟩ := new_at (.tup []) nt
      generalize upd H10 t (.tup []) = H11 at s11 e11 ⊢
      have dr : Dp K H11 (.ref l) (.tuple (rs.map rwD)) := by
        obtain ⟨l2, vs2, e2, hq2, pd2⟩ := hr10.keep (Same.tk s11)
        cases e2
        exact .tup hq2 (dpAll_of (fun _ _ h => h.dp) pd2)
      refine eq_data (k := 2) dr (.tup (.inl (.inl e11)) .nil) (Sd.tup fun e he => ?_) (Sd.tup fun e he => by cases he) (by decide) fun b hb => ⟨_, rfl, ?_⟩
      · obtain ⟨r, _, rfl⟩ := List.mem_map.mp he
        exact sd_rw r
      cases b with
      | true => exact iteT (iteT ⟨(by show 2 ≤ sizeLine; decide), done none H11 s11 (fun i e => nomatch e) (fun _ => rfl)⟩)
      | false =>
        have ne : 0 < rs.length := by
          rcases Nat.eq_zero_or_pos rs.length with z | z
          · exfalso
            rw [List.length_eq_zero_iff.mp z] at hb
            exact Bool.noConfusion (hb.mpr rfl)
          · exact z
        have := x2 ne
        refine iteF ⟨_, rfl, rfl, _, rfl, ite2 (fun e => ?_) (fun e => ?_)⟩
        · exact ⟨(by show 2 ≤ sizeLine; decide), done none H11 s11 (fun i e => nomatch e) (fun _ => rfl)⟩
        · exact ⟨_, rfl, (by show 2 ≤ sizeLine; decide), done (some bk) H11 s11 (fun i e => by cases e; exact ⟨b0, by omega⟩) (fun z => Bool.noConfusion z)⟩
end

section
variable {P : Program} {w : World} {K : PySem.W.Frag} {mg : Str → Option Value} {base : Heap}
def sp__law_window (K : PySem.W.Frag) : Sp := fun vs H Q _ => ∃ (st : Addr) (mo : Int), vs = [.ref st, .int mo] ∧ IsSx H st ∧ 0 ≤ mo ∧ mo ≤ 8 ∧
  ∀ (v : V) (x y : Int) (ms : List MV) (H' : Hp), Gx st H H' → WinAt K H' v x y ms → VWin x y ms → (ms.length : Int) ≤ mo → Q v H'
theorem ok__law_window {f : Addr} {fd : FuncData} (F : Fun K "_law_window" "_law_window" s__law_window f fd) (T : Txt K mg) (D__law_take : Cl P w K mg base 1 "_law_take" ["_law_state_here", "_law_many"] (sp__law_take K)) : FnOk P w K mg base CX0 2 f fd ["_law_state_here", "_law_most"] (sp__law_window K) := by
  refine F.ok sc__law_window (fun vs H Q E h => ?_) (fun cdv A outer s H vs Q E hr h => ?_)
  · obtain ⟨st, mo, rfl, _⟩ := h
    rfl
  · obtain ⟨st, mo, rfl, hs, mo0, mo1, q⟩ := h
    refine ⟨_, (pss_cons (ps_set (i := 2) sc__law_window.nd rfl (Or.inl rfl) (pe_lst pa_nil))
      (pss_cons (ps_for PassesOwn.never rfl (pi_range1 (by rfl) T.b_range (pa_cons (pe_own D__law_take (hr.mono (by omega)) (by rfl) (pa_cons (pv 0) (pa_cons (pe_op op_add (pv 1) pe_int) pa_nil))) pa_nil)) (pg_name (i := 3) sc__law_window.nd rfl (Or.inl rfl))
        (pss_cons (ps_set (i := 4) sc__law_window.nd rfl (Or.inl rfl) (pe_ix ix_list (pe_lst (pa_cons (pe_own D__law_take (hr.mono (by omega)) (by rfl) (pa_cons (pv 0) (pa_cons pe_int pa_nil))) (pa_cons (pe_own D__law_take (hr.mono (by omega)) (by rfl) (pa_cons (pv 0) (pa_cons pe_int pa_nil))) pa_nil))) (pe_own D__law_take (hr.mono (by omega)) (by rfl) (pa_cons (pv 0) (pa_cons pe_int pa_nil))) (fun _ _ => rfl)))
      (pss_one (ps_expr (pe_bm PySem.F.plainAttrs_list PySem.F.slot_list_append PySem.F.type_list_append mt_append (pv 2) (pa_cons (pe_tup (pa_cons (pe_op op_sub (pe_own D__law_take (hr.mono (by omega)) (by rfl) (pa_cons (pv 0) (pa_cons pe_int pa_nil))) pe_int) (pa_cons (pe_op op_sub (pe_own D__law_take (hr.mono (by omega)) (by rfl) (pa_cons (pv 0) (pa_cons pe_int pa_nil))) pe_int) (pa_cons (pv 4) pa_nil)))) pa_nil))))))
      (pss_one (ps_ret (pe_tup (pa_cons (pe_op op_sub (pe_own D__law_take (hr.mono (by omega)) (by rfl) (pa_cons (pv 0) (pa_cons pe_int pa_nil))) pe_int) (pa_cons (pe_op op_sub (pe_own D__law_take (hr.mono (by omega)) (by rfl) (pa_cons (pv 0) (pa_cons pe_int pa_nil))) pe_int) (pa_cons (pe_callTy call_tuple_of (by rfl) T.b_tuple (by decide +kernel) (pa_cons (pv 2) pa_nil)) pa_nil)))))))), ?_⟩
    refine ⟨Nat.zero_le _, fun F nF => ?_⟩
    have nFs := sx_ne hs nF
    have gF : Gx st H (upd H F (.lst [])) := gx_same (same_upd nF)
    have eF : (upd H F (.lst [])) F = some (.lst []) := upd_same
    generalize upd H F (.lst []) = H0 at gF eF ⊢
    have hs0 := gF.2.1 hs
    refine ⟨_, rfl, _, rfl, mo, 1, rfl, rfl, st, mo + 1, rfl, hs0, by omega, by omega, fun mn H1 m0 m1 g1 => ?_⟩
    have g01 := gF.trans g1
    refine ⟨mn, rfl, by omega, by omega, ?_⟩
    refine for_range (lo := 0) (n := mn.toNat) (fun i σ H' => Gx st H H' ∧ ∃ (y3 y4 : Option V) (vs : List V) (ms : List MV), σ = [some (.ref st), some (.int mo), some (.ref F), y3, y4] ∧ H' F = some (.lst vs) ∧ vs.length = i ∧ Paired (MoveAt K H') vs ms ∧ ∀ m ∈ ms, VMove m)
      ⟨g01, _, _, [], [], rfl, g1.1 _ _ nFs lst_tbl eF, rfl, .nil, fun m hm => by cases hm⟩ ?_ ?_
    · rintro i σ H2 hi ⟨g2, y3, y4, vs, ms, rfl, hF, hlen, pd, vm⟩
      have hs2 := g2.2.1 hs
      refine ⟨_, rfl, st, 25, rfl, hs2, by decide, by decide, fun r3 H3 a3 b3 g3 => ⟨_, rfl, st, 4, rfl, g3.2.1 hs2, by decide, by decide, fun r4 H4 a4 b4 g4 => ?_⟩⟩
      have g34 := g3.trans g4
      refine ⟨(by show 2 ≤ sizeLine; decide), fun p np => ?_⟩
      obtain ⟨s5, e5⟩ := new_at (.lst [.int r3, .int r4]) np
      have np' := sx_ne (g34.2.1 hs2) np
      generalize upd H4 p (.lst [.int r3, .int r4]) = H5 at s5 e5 ⊢
      have g35 := g34.trans (gx_same (st := st) s5)
      refine ⟨_, rfl, st, 2, rfl, g35.2.1 hs2, by decide, by decide, fun r6 H6 a6 b6 g6 => ?_⟩
      have g36 := g35.trans g6
      obtain ⟨n, n0, n1, en⟩ : ∃ n : Int, 0 ≤ n ∧ n ≤ 24 ∧ atI [V.int r3, .int r4] r6 = some (.int n) := by
        rcases (by omega : r6 = 0 ∨ r6 = 1) with e | e <;> subst e
        · exact ⟨r3, by omega, by omega, rfl⟩
        · exact ⟨r4, by omega, by omega, rfl⟩
      refine ⟨p, _, _, _, rfl, rfl, .inl (.inl (g6.1 _ _ np' lst_tbl e5)), en, ?_⟩
      refine ⟨_, rfl, .inl ⟨rfl, _, .inl (.inl (g36.1 _ _ nFs lst_tbl hF))⟩, ?_⟩
      refine ⟨_, rfl, st, 41, rfl, g36.2.1 hs2, by decide, by decide, fun r7 H7 a7 b7 g7 => ⟨_, _, rfl, rfl, ?_⟩⟩
      have g37 := g36.trans g7
      refine ⟨_, rfl, st, 41, rfl, g37.2.1 hs2, by decide, by decide, fun r8 H8 a8 b8 g8 => ⟨_, _, rfl, rfl, _, rfl, (by show 3 ≤ sizeLine; decide), fun q9 nq9 => ?_⟩⟩
      have g38 := g37.trans g8
      obtain ⟨s9, e9⟩ := new_at (.tup [.int (r7 - 20), .int (r8 - 20), .int n]) nq9
      generalize upd H8 q9 (.tup [.int (r7 - 20), .int (r8 - 20), .int n]) = H9 at s9 e9 ⊢
      have g39 := g38.trans (gx_same (st := st) s9)
      have hF9 := g39.1 _ _ nFs lst_tbl hF
      refine ⟨F, _, _, rfl, rfl, hF9, small1000 (by omega), ?_⟩
      have k1 : TKeep K H2 (upd H9 F (.lst (vs ++ [.ref q9]))) := fun a xs h => tk_updL hF9 _ _ (g39.sqT hs2 h)
      refine ⟨gx_upd (g2.trans g39) nF nFs hF9 _, _, _, vs ++ [.ref q9], ms ++ [(r7 - 20, r8 - 20, n)], rfl, upd_same, ?_, ?_, ?_⟩
      · rw [List.length_append, hlen]
        rfl
      · exact Paired.snocP (Paired.mono pd fun _ _ => MoveAt.keep k1) ⟨q9, rfl, tk_updL hF9 _ _ (.inl (.inl e9))⟩
      · intro x hx
        rcases List.mem_append.mp hx with z | z
        · exact vm x z
        · rw [List.mem_singleton.mp z]
          refine ⟨⟨?_, ?_⟩, ⟨?_, ?_⟩, n0, n1⟩
          · show -20 ≤ r7 - 20; omega
          · show r7 - 20 ≤ 20; omega
          · show -20 ≤ r8 - 20; omega
          · show r8 - 20 ≤ 20; omega
    · rintro σ H2 ⟨g2, y3, y4, vs, ms, rfl, hF, hlen, pd, vm⟩
      have hs2 := g2.2.1 hs
      have hl : vs.length = ms.length := Paired.length pd
      refine ⟨_, rfl, st, 41, rfl, hs2, by decide, by decide, fun r3 H3 a3 b3 g3 => ⟨_, _, rfl, rfl, ?_⟩⟩
      refine ⟨_, rfl, st, 41, rfl, g3.2.1 hs2, by decide, by decide, fun r4 H4 a4 b4 g4 => ⟨_, _, rfl, rfl, ?_⟩⟩
      have g34 := g3.trans g4
      have hF4 := g34.1 _ _ nFs lst_tbl hF
      refine ⟨_, rfl, F, vs, rfl, .inl ⟨.inl (.inl hF4), fun l nl => ?_⟩⟩
      obtain ⟨s5, e5⟩ := new_at (.tup vs) nl
      generalize upd H4 l (.tup vs) = H5 at s5 e5 ⊢
      refine ⟨(by show 3 ≤ sizeLine; decide), fun p6 np6 => ?_⟩
      have s6 := same_upd (o := .tup [.int (r3 - 20), .int (r4 - 20), .ref l]) np6
      have k : TKeep K H2 (upd H5 p6 (.tup [.int (r3 - 20), .int (r4 - 20), .ref l])) := (g34.trans (gx_same (st := st) (s5.trans s6))).tk hs2
      refine q _ (r3 - 20) (r4 - 20) ms _ ((g2.trans g34).trans (gx_same (s5.trans s6))) ⟨p6, _, rfl, .inl (.inl upd_same), l, vs, rfl, .inl (.inl (s6 _ _ e5)), Paired.mono pd fun _ _ => MoveAt.keep k⟩ ⟨⟨by omega, by omega⟩, ⟨by omega, by omega⟩, by omega, vm⟩ (by omega)
def sp__law_sheet (K : PySem.W.Frag) : Sp := fun vs H Q _ => ∃ (st : Addr) (n mo : Int) (en : Bool), vs = [.ref st, .int n, .int mo, .bl en] ∧ IsSx H st ∧ 1 ≤ n ∧ n ≤ 4 ∧ 0 ≤ mo ∧ mo ≤ 8 ∧
  ∀ (v : V) (ls : List LY) (x y : Int) (ms : List MV) (H' : Hp), Gx st H H' → ShAt K H' v ls x y ms → VLays ls → VWin x y ms → (ls.length : Int) = n → (∀ l ∈ ls, (l.1.length : Int) ≤ mo) → (ms.length : Int) ≤ mo → (en = true → ∀ l ∈ ls, l.2 = none) → Q v H'
theorem ok__law_sheet {f : Addr} {fd : FuncData} (F : Fun K "_law_sheet" "_law_sheet" s__law_sheet f fd) (T : Txt K mg) (D__law_window : Cl P w K mg base 2 "_law_window" ["_law_state_here", "_law_most"] (sp__law_window K)) (D__law_layer : Cl P w K mg base 3 "_law_layer" ["_law_state_here", "_law_most", "_law_ended"] (sp__law_layer K)) : FnOk P w K mg base CX0 4 f fd ["_law_state_here", "_law_layers", "_law_most", "_law_ended"] (sp__law_sheet K) := by
  refine F.ok sc__law_sheet (fun vs H Q E h => ?_) (fun cdv A outer s H vs Q E hr h => ?_)
  · obtain ⟨st, n, mo, en, rfl, _⟩ := h
    rfl
  · obtain ⟨st, n, mo, en, rfl, hs, n1, n4, mo0, mo8, q⟩ := h
    refine ⟨_, (pss_one (ps_ret (pe_tup (pa_cons (pe_callTy call_tuple_of (by rfl) T.b_tuple (by decide +kernel) (pa_cons (pe_lc (own := [("_law_turn", 4)]) (g := (gName 4)) (tt := tYes) (by rfl) sc__law_sheet.nd (pi_range1 (by rfl) T.b_range (pa_cons (pv 1) pa_nil)) (blkOk_by (own := [("_law_turn", 4)]) (N := ["_law_state_here", "_law_layers", "_law_most", "_law_ended", "_law_turn"]) (sc := defScope s__law_sheet) (by decide +kernel)) (fun _ _ _ _ _ => (pg_name (i := 4) sc__law_sheet.nd rfl (Or.inl rfl))) (fun _ _ _ _ _ => pts_nil) (fun _ _ _ _ _ => (pe_own D__law_layer (hr.mono (by omega)) (by rfl) (pa_cons (pv 0) (pa_cons (pv 2) (pa_cons (pv 3) pa_nil)))))) pa_nil)) (pa_cons (pe_own D__law_window (hr.mono (by omega)) (by rfl) (pa_cons (pv 0) (pa_cons (pv 2) pa_nil))) pa_nil))))), ?_⟩
    refine ⟨_, rfl, n, rfl, by omega, by omega, fun D hD => ?_⟩
    have nD := sx_ne hs hD
    refine lc_range (lo := 0) (n := n.toNat) (fun i H' => Gx st H H' ∧ ∃ (vs : List V) (ls : List LY), H' D = some (.lst vs) ∧ vs.length = i ∧ Paired (LyAt K H') vs ls ∧ ∀ l ∈ ls, VLy l ∧ (l.1.length : Int) ≤ mo ∧ (en = true → l.2 = none))
      ⟨gx_same (same_upd hD), [], [], upd_same, rfl, .nil, fun r hr => by cases hr⟩ (fun i H7 hi p7 => ?_) (fun H7 p7 => ?_)
    · obtain ⟨g7, vs, ls, hL, hlen, pd, vl⟩ := p7
      refine ⟨rfl, yes_ok ⟨_, rfl, _, rfl, _, rfl, st, mo, en, rfl, g7.2.1 hs, mo0, mo8, fun v8 l H8 g8 h8 vl8 ll8 en8 => ?_⟩⟩
      have hL8 := g8.1 D _ nD lst_tbl hL
      refine ⟨vs, hL8, small1000 (by omega), gx_upd (g7.trans g8) hD nD hL8 _, vs ++ [v8], ls ++ [l], upd_same, ?_, ?_, ?_⟩
      · rw [List.length_append, hlen]
        rfl
      · have k1 : TKeep K H7 (upd H8 D (.lst (vs ++ [v8]))) := fun a xs h => tk_updL hL8 _ _ (g8.sqT (g7.2.1 hs) h)
        exact Paired.snocP (Paired.mono pd fun _ _ => LyAt.keep k1) (h8.keep fun a xs h => tk_updL hL8 _ _ h)
      · intro x hx
        rcases List.mem_append.mp hx with z | z
        · exact vl x z
        · rw [List.mem_singleton.mp z]
          exact ⟨vl8, ll8, en8⟩
    · obtain ⟨g7, vs, ls, hL, hlen, pd, vl⟩ := p7
      have hl : vs.length = ls.length := Paired.length pd
      have hs7 := g7.2.1 hs
      refine ⟨D, vs, rfl, .inl ⟨.inl (.inl hL), fun l nl => ?_⟩⟩
      obtain ⟨s8, e8⟩ := new_at (.tup vs) nl
      generalize upd H7 l (.tup vs) = H8 at s8 e8 ⊢
      have g78 := gx_same (st := st) s8
      have hs8 := g78.2.1 hs7
      refine ⟨_, rfl, _, rfl, st, mo, rfl, hs8, mo0, mo8, fun wv x y ms H9 g9 hw vw lm => ⟨(by show 2 ≤ sizeLine; decide), fun p np => ?_⟩⟩
      have sp' := same_upd (o := .tup [.ref l, wv]) np
      have g79 := (g78.trans g9).trans (gx_same (st := st) sp')
      have k : TKeep K H7 (upd H9 p (.tup [.ref l, wv])) := g79.tk hs7
      refine q _ ls x y ms _ (g7.trans g79) ⟨p, _, _, rfl, .inl (.inl upd_same), ⟨l, vs, rfl, ?_, Paired.mono pd fun _ _ => LyAt.keep k⟩, hw.keep (Same.tk sp')⟩ ⟨by omega, by omega, fun l hl => (vl l hl).1⟩ vw (by omega) (fun l hl => (vl l hl).2.1) lm (fun he l hl => (vl l hl).2.2 he)
      exact Same.sqT sp' (g9.sqT hs8 (.inl (.inl e8)))
end

theorem cut2_len (z : Str) {a : Int} (ha : 0 ≤ a) : (cutS z (some a) (some (a + 2))).length ≤ 2 := by
  show (((z.cps.toList.drop (HT.sIx z.length 0 (some a))).take (HT.sIx z.length z.length (some (a + 2)) - HT.sIx z.length 0 (some a))).toArray).size ≤ 2
  have e1 : HT.sIx z.length 0 (some a) = min a.toNat z.length := by
    show (if a < 0 then (a + (z.length : Int)).toNat else min a.toNat z.length) = _
    rw [if_neg (by omega)]
  have e2 : HT.sIx z.length z.length (some (a + 2)) = min (a + 2).toNat z.length := by
    show (if a + 2 < 0 then (a + 2 + (z.length : Int)).toNat else min (a + 2).toNat z.length) = _
    rw [if_neg (by omega)]
  rw [List.size_toArray, List.length_take, e1, e2]
  omega
/-- how much texts weigh when joined -/
def wt (ps : List Str) : Nat := (ps.map (·.length)).sum + ps.length
theorem wt_app (a b : List Str) : wt (a ++ b) = wt a + wt b := by
  unfold wt
  rw [List.map_append, List.sum_append, List.length_append]
  omega
theorem wt_part (ps : List Str) (a b : Nat) : wt ((ps.drop a).take b) ≤ wt ps := by
  have e : ps = ps.take a ++ ((ps.drop a).take b ++ (ps.drop a).drop b) := by rw [List.take_append_drop, List.take_append_drop]
  have h1 : wt ps = wt (ps.take a) + (wt ((ps.drop a).take b) + wt ((ps.drop a).drop b)) := by rw [← wt_app, ← wt_app, ← e]
  omega
theorem cutV_str (ps : List Str) (lo hi : Option Int) : ∃ qs : List Str, cutV (ps.map V.str) lo hi = qs.map V.str ∧ (∀ q ∈ qs, q ∈ ps) ∧ wt qs ≤ wt ps := by
  unfold cutV
  rw [List.length_map]
  generalize HT.sIx ps.length 0 lo = a
  generalize HT.sIx ps.length ps.length hi - a = b
  refine ⟨(ps.drop a).take b, ?_, fun q hq => List.mem_of_mem_drop (List.mem_of_mem_take hq), wt_part ps a b⟩
  rw [List.map_take, List.map_drop]
theorem wt_join {y : Str} {ps : List Str} (hy : y.length ≤ 1) : (ps.map (·.length)).sum + ps.length * y.length ≤ wt ps := by
  unfold wt
  have : ps.length * y.length ≤ ps.length * 1 := Nat.mul_le_mul_left _ hy
  omega
theorem wt_len {y : Str} {ps : List Str} (hy : y.length ≤ 1) : (Txt.join y ps).length ≤ wt ps := by
  refine Nat.le_trans ?_ (wt_join (ps := ps) hy)
  rw [TL.len_tl, tl_txt]
  refine Nat.le_trans (joinL_len _) ?_
  rw [List.map_map, List.length_map, ← TL.len_tl]
  exact Nat.le_refl _
theorem wt_split (z : Str) {y : Str} (hy : 1 ≤ y.length) : wt (Txt.split z y) ≤ z.length + 1 := split_weight z y hy
theorem at_int {α : Type} {xs : List α} {r : Int} (h0 : 0 ≤ r) (h1 : r < (xs.length : Int)) : ∃ c, atI xs r = some c ∧ c ∈ xs := by
  obtain ⟨k, rfl⟩ : ∃ k : Nat, r = (k : Int) := ⟨r.toNat, by omega⟩
  have hk : k < xs.length := by omega
  exact ⟨xs[k], at_n k (List.getElem?_eq_getElem hk), List.getElem_mem hk⟩
theorem at_strs {xs : List Str} {r : Int} (h0 : 0 ≤ r) (h1 : r < (xs.length : Int)) : ∃ c, atI (xs.map V.str) r = some (.str c) ∧ c ∈ xs := by
  obtain ⟨c, hc, hm⟩ := at_int (xs := xs.map V.str) (r := r) h0 (by rw [List.length_map]; exact h1)
  obtain ⟨d, hd, rfl⟩ := List.mem_map.mp hm
  exact ⟨d, hc, hd⟩
theorem uok_sg {c : Nat} (h : c < 1114112) : Uok (sg c) := fun d hd => by
  have : d ∈ [c] := hd
  rw [List.mem_singleton.mp this]
  exact h
def news13 : List Str := ["-", "0", "-0", "21", "-21", "1x24", "1x25", "0x0", "10x1", "3,4,24", "3,4,25", "07", Txt.mul "9" 30]
def news3 : List Str := ["", "1,2", "1x2x3"]
theorem news_ok : ((news13 ++ news3).all fun n => decide (n.length ≤ 30) && n.cps.toList.all fun c => decide (c < 1114112)) = true := by decide +kernel
theorem news_all : ∀ n ∈ news13 ++ news3, n.length ≤ 30 ∧ Uok n := fun n hn => by
  have h := List.all_eq_true.mp news_ok n hn
  rw [Bool.and_eq_true, decide_eq_true_eq, List.all_eq_true] at h
  exact ⟨h.1, fun c hc => of_decide_eq_true (h.2 c hc)⟩
theorem heap_eq {P : Hp → Prop} {A B : Hp} (e : A = B) (h : P B) : P A := e ▸ h
theorem sz {n : Nat} (h : n ≤ 100000) : n ≤ sizeLine := Nat.le_trans h (by decide)
section
variable {P : Program} {w : World} {K : PySem.W.Frag} {mg : Str → Option Value} {base : Heap}
def sp__law_other (K : PySem.W.Frag) : Sp := fun vs H Q _ => ∃ (st : Addr) (z : Str), vs = [.ref st, .str z] ∧ IsSx H st ∧ z.length ≤ 2300 ∧ Uok z ∧ ∀ (y : Str) (H' : Hp), Gx st H H' → y.length ≤ 3 * z.length + 100 → Uok y → Q (.str y) H'
theorem ok__law_other {f : Addr} {fd : FuncData} (F : Fun K "_law_other" "_law_other" s__law_other f fd) (T : Txt K mg) (D__law_take : Cl P w K mg base 1 "_law_take" ["_law_state_here", "_law_many"] (sp__law_take K)) : FnOk P w K mg base CX0 2 f fd ["_law_state_here", "_law_text"] (sp__law_other K) := by
  refine F.ok sc__law_other (fun vs H Q E h => ?_) (fun cdv A outer s H vs Q E hr h => ?_)
  · obtain ⟨st, z, rfl, _⟩ := h
    rfl
  · obtain ⟨st, z, rfl, hs, hz, hu, q⟩ := h
    have lz : z.length ≤ sizeLine := Nat.le_trans hz (by decide)
    refine ⟨_, (pss_cons (ps_set (i := 2) sc__law_other.nd rfl (Or.inl rfl) pe_str)
      (C8.pss_cut (ps_set (i := 2) sc__law_other.nd rfl (Or.inl rfl) (pe_op op_add_str (pv 2) (pe_op op_mulS pe_str pe_int)))
      (C8.pss_cut (ps_par3 (i := 3) (j := 4) (l := 5) (by rfl) sc__law_other.nd rfl rfl rfl (by decide) (by decide) (by decide) rfl rfl rfl (pa_cons (pe_ix ix_str (pv 2) (pe_own D__law_take (hr.mono (by omega)) (by rfl) (pa_cons (pv 0) (pa_cons (pe_callB call_len_str (by rfl) T.b_len (by decide +kernel) (pa_cons (pv 2) pa_nil)) pa_nil))) (fun _ _ => rfl)) (pa_cons (pe_own D__law_take (hr.mono (by omega)) (by rfl) (pa_cons (pv 0) (pa_cons (pe_op op_add (pe_callB call_len_str (by rfl) T.b_len (by decide +kernel) (pa_cons (pv 1) pa_nil)) pe_int) pa_nil))) (pa_cons (pe_own D__law_take (hr.mono (by omega)) (by rfl) (pa_cons (pv 0) (pa_cons pe_int pa_nil))) pa_nil))) (by rfl))
      (pss_cons (ps_set (i := 6) sc__law_other.nd rfl (Or.inl rfl) (pe_bm PySem.F.plainAttrs_str PySem.F.slot_str_split PySem.F.type_str_split mt_split (pv 1) (pa_cons pe_str pa_nil)))
      (pss_cons (ps_set (i := 7) sc__law_other.nd rfl (Or.inl rfl) (pe_own D__law_take (hr.mono (by omega)) (by rfl) (pa_cons (pv 0) (pa_cons (pe_callB call_len_seq (by rfl) T.b_len (by decide +kernel) (pa_cons (pv 6) pa_nil)) pa_nil))))
      (pss_cons (ps_if (pt_cmpR op_lt (pv 5) pe_int (nomark _)) (pss_one (ps_ret (pe_op op_add_str (pe_op op_add_str (pe_slice sl_str (pv 1) po_none (po_some (pv 4))) (pv 3)) (pe_slice sl_str (pv 1) (po_some (pe_op op_add (pv 4) (pv 5))) po_none)))) pss_nil)
      (pss_cons (ps_if (pt_cmpR op_eq (pv 5) pe_int (nomark _)) (pss_one (ps_ret (pe_op op_add_str (pe_slice sl_str (pv 1) po_none (po_some (pv 4))) (pe_slice sl_str (pv 1) (po_some (pe_op op_add (pv 4) pe_int)) po_none)))) pss_nil)
      (pss_cons (ps_if (pt_cmpR op_eq (pv 5) pe_int (nomark _)) (pss_one (ps_ret (pe_op op_add_str (pe_op op_add_str (pe_slice sl_str (pv 1) po_none (po_some (pv 4))) (pe_rev (pe_slice sl_str (pv 1) (po_some (pv 4)) (po_some (pe_op op_add (pv 4) pe_int))) (po_some (pe_un un_neg pe_int)))) (pe_slice sl_str (pv 1) (po_some (pe_op op_add (pv 4) pe_int)) po_none)))) pss_nil)
      (pss_cons (ps_if (pt_cmpR op_eq (pv 5) pe_int (nomark _)) (pss_one (ps_ret (pe_bm PySem.F.plainAttrs_str PySem.F.slot_str_join PySem.F.type_str_join mt_join pe_str (pa_cons (pe_op op_cat (pe_slice sl_list (pv 6) po_none (po_some (pv 7))) (pe_slice sl_list (pv 6) (po_some (pe_op op_add (pv 7) pe_int)) po_none)) pa_nil)))) pss_nil)
      (pss_cons (ps_if (pt_cmpR op_eq (pv 5) pe_int (nomark _)) (pss_one (ps_ret (pe_bm PySem.F.plainAttrs_str PySem.F.slot_str_join PySem.F.type_str_join mt_join pe_str (pa_cons (pe_op op_cat (pe_op op_cat (pe_slice sl_list (pv 6) po_none (po_some (pv 7))) (pe_slice sl_list (pv 6) (po_some (pv 7)) (po_some (pe_op op_add (pv 7) pe_int)))) (pe_slice sl_list (pv 6) (po_some (pv 7)) po_none)) pa_nil)))) pss_nil)
      (pss_cons (ps_set (i := 8) sc__law_other.nd rfl (Or.inl rfl) (pe_bm PySem.F.plainAttrs_str PySem.F.slot_str_split PySem.F.type_str_split mt_split (pv 1) (pa_cons pe_str pa_nil)))
      (pss_cons (ps_set (i := 9) sc__law_other.nd rfl (Or.inl rfl) (pe_own D__law_take (hr.mono (by omega)) (by rfl) (pa_cons (pv 0) (pa_cons (pe_callB call_len_seq (by rfl) T.b_len (by decide +kernel) (pa_cons (pv 8) pa_nil)) pa_nil))))
      (pss_cons (ps_set (i := 10) sc__law_other.nd rfl (Or.inl rfl) (pe_lst (pa_cons pe_str (pa_cons pe_str (pa_cons pe_str (pa_cons pe_str (pa_cons pe_str (pa_cons pe_str (pa_cons pe_str (pa_cons pe_str (pa_cons pe_str (pa_cons pe_str (pa_cons pe_str (pa_cons pe_str (pa_cons (pe_op op_mulS pe_str pe_int) pa_nil)))))))))))))))
      (C8.pss_cut (ps_set (i := 10) sc__law_other.nd rfl (Or.inl rfl) (pe_op op_cat (pv 10) (pe_lst (pa_cons pe_str (pa_cons pe_str (pa_cons pe_str pa_nil))))))
      (pss_cons (ps_if (pt_cmpR op_lt (pv 5) pe_int (nomark _)) (pss_one (ps_ret (pe_bm PySem.F.plainAttrs_str PySem.F.slot_str_join PySem.F.type_str_join mt_join pe_str (pa_cons (pe_op op_cat (pe_op op_cat (pe_slice sl_list (pv 8) po_none (po_some (pv 9))) (pe_lst (pa_cons (pe_ix ix_list (pv 10) (pe_own D__law_take (hr.mono (by omega)) (by rfl) (pa_cons (pv 0) (pa_cons pe_int pa_nil))) (fun _ _ => rfl)) pa_nil))) (pe_slice sl_list (pv 8) (po_some (pe_op op_sub (pe_op op_add (pv 9) (pv 5)) pe_int)) po_none)) pa_nil)))) pss_nil)
      (pss_one (ps_ret (pe_ix ix_list (pe_lst (pa_cons (pe_slice sl_str (pv 1) po_none (po_some (pe_un un_neg pe_int))) (pa_cons (pe_op op_add_str pe_str (pv 1)) (pa_cons (pe_op op_add_str (pv 1) pe_str) (pa_cons (pe_op op_add_str (pv 1) pe_str) (pa_cons (pe_op op_add_str (pv 1) pe_str) pa_nil)))))) (pe_own D__law_take (hr.mono (by omega)) (by rfl) (pa_cons (pv 0) (pa_cons pe_int pa_nil))) (fun _ _ => rfl))))))))))))))))))), ?_⟩
    refine ⟨fun σ' H' => H' = H ∧ ∃ S : Str, σ' = [some (.ref st), some (.str z), some (.str S), none, none, none, none, none, none, none, none] ∧ 0 < S.length ∧ S.length ≤ 300 ∧ Uok S, ?_, ?_⟩
    · refine ⟨_, rfl, _, _, rfl, rfl, ⟨by decide, fun _ _ => by decide +kernel, fun _ _ => by decide +kernel⟩, _, _, rfl, rfl, (by decide +kernel), rfl, _, rfl, (by decide +kernel), (by decide +kernel), ?_⟩
      unfold Uok
      decide +kernel
    rintro σ H1 ⟨rfl, S, rfl, S0, S1, uS⟩
    have lS : S.length ≤ sizeLine := Nat.le_trans S1 (by decide)
    refine ⟨fun σ' H' => Gx st H1 H' ∧ ∃ (c : Nat) (a b : Int), σ' = [some (.ref st), some (.str z), some (.str S), some (.str (sg c)), some (.int a), some (.int b), none, none, none, none, none] ∧ c < 1114112 ∧ 0 ≤ a ∧ a ≤ z.length ∧ 0 ≤ b ∧ b < 9, ?_, ?_⟩
    · refine ⟨_, rfl, _, rfl, _, rfl, _, rfl, lS, st, _, rfl, hs, by omega, by omega, fun r2 H2 a2 b2 g2 => ?_⟩
      obtain ⟨c, hc, hm⟩ := at_int (xs := S.cps.toList) (r := r2) a2 (by rw [Array.length_toList]; exact b2)
      have hs2 := g2.2.1 hs
      refine ⟨_, _, c, rfl, rfl, lS, hc, ?_⟩
      refine ⟨_, rfl, _, rfl, _, rfl, lz, _, _, rfl, rfl, st, _, rfl, hs2, by omega, by omega, fun r3 H3 a3 b3 g3 => ?_⟩
      have g13 := g2.trans g3
      refine ⟨_, rfl, st, 9, rfl, g13.2.1 hs, by decide, by decide, fun r4 H4 a4 b4 g4 => ⟨_, _, _, rfl, ?_⟩⟩
      exact ⟨g13.trans g4, c, r3, r4, rfl, uS c hm, a3, by omega, a4, b4⟩
    rintro σ H2 ⟨g2, c, a, b, rfl, hc, a0, a1, b0, b9⟩
    have hs2 := g2.2.1 hs
    have uc := uok_sg hc
    refine ⟨_, rfl, rfl, _, _, rfl, rfl, by decide, Nat.le_trans (Nat.add_le_add_right hz 2) (by decide), fun p3 np3 => ?_⟩
    have n3 := sx_ne hs2 np3
    obtain ⟨s3, e3⟩ := new_at (.lst ((Txt.split z "\n").map V.str)) np3
    generalize upd H2 p3 (.lst ((Txt.split z "\n").map V.str)) = H3 at s3 e3 ⊢
    have g23 := gx_same (st := st) s3
    have hs3 := g23.2.1 hs2
    have lsp := split_le z "\n"
    have lsp1 := split_pos z "\n"
    refine ⟨_, rfl, _, rfl, p3, _, rfl, .inl (.inl (.inl e3)), st, _, rfl, hs3, (by rw [List.length_map]; omega), (by rw [List.length_map]; omega), fun r4 H4 a4 b4 g4 => ?_⟩
    have g24 := g23.trans g4
    have g14 := g2.trans g24
    have hs4 := g14.2.1 hs
    have e4 := g4.1 _ _ n3 lst_tbl e3
    have cu : ∀ lo hi, (cutS z lo hi).length ≤ z.length ∧ Uok (cutS z lo hi) := fun lo hi => ⟨cutS_length z lo hi, uok_cut hu lo hi⟩
    have one : (sg c).length = 1 := rfl
    refine ⟨_, rfl, _, _, rfl, rfl, _, rfl, ite2 (fun e => ?_) (fun eA => ?_)⟩
    · have c1 := cu none (some a)
      have c2 := cu (some (a + b)) none
      refine ⟨_, rfl, _, rfl, a, rfl, _, rfl, lz, _, rfl, _, _, rfl, rfl, ?_, _, rfl, _, rfl, _, rfl, _, _, rfl, rfl, a + b, rfl, _, rfl, lz, _, _, rfl, rfl, ?_, ?_⟩
      · have := c1.1
        exact sz (by omega)
      · rw [strLen_append]
        have := c1.1
        have := c2.1
        exact sz (by omega)
      · refine q _ _ g14 ?_ (uok_app (uok_app c1.2 uc) c2.2)
        rw [strLen_append, strLen_append]
        have := c1.1
        have := c2.1
        omega
    refine ⟨_, rfl, rfl, _, rfl, ite2 (fun e => ?_) (fun eB => ?_)⟩
    · have c1 := cu none (some a)
      have c2 := cu (some (a + 1)) none
      have l1 := c1.1
      have l2 := c2.1
      refine ⟨_, rfl, _, rfl, a, rfl, _, rfl, lz, _, rfl, _, rfl, _, _, rfl, rfl, a + 1, rfl, _, rfl, lz, _, _, rfl, rfl, sz (by omega), ?_⟩
      refine q _ _ g14 ?_ (uok_app c1.2 c2.2)
      rw [strLen_append]
      omega
    refine ⟨_, rfl, rfl, _, rfl, ite2 (fun e => ?_) (fun eC => ?_)⟩
    · have c1 := cu none (some a)
      have c2 := cu (some (a + 2)) none
      have c3 := cu (some a) (some (a + 2))
      have l1 := c1.1
      have l2 := c2.1
      refine ⟨_, rfl, _, rfl, a, rfl, _, rfl, lz, ?_⟩
      refine ⟨_, rfl, _, rfl, a, rfl, _, rfl, _, _, rfl, rfl, a + 2, rfl, _, rfl, lz, ?_⟩
      refine ⟨1, rfl, -1, rfl, rfl, _, rfl, cut2_len z a0, fun y hy hyc => ?_⟩
      have uy : Uok y := fun d hd => c3.2 d (hyc d hd)
      refine ⟨_, _, rfl, rfl, sz (by omega), _, rfl, _, rfl, _, _, rfl, rfl, a + 2, rfl, _, rfl, lz, _, _, rfl, rfl, ?_, ?_⟩
      · rw [strLen_append]
        exact sz (by omega)
      refine q _ _ g14 ?_ (uok_app (uok_app c1.2 uy) c2.2)
      rw [strLen_append, strLen_append]
      omega
    have wl := wt_split z (y := "\n") (by decide)
    have up : ∀ p ∈ Txt.split z "\n", Uok p := fun p hp => uok_part hu hp
    have unl : Uok ("\n" : Str) := by unfold Uok; decide +kernel
    refine ⟨_, rfl, rfl, _, rfl, ite2 (fun e => ?_) (fun eD => ?_)⟩
    · obtain ⟨q1, f1, m1, w1⟩ := cutV_str (Txt.split z "\n") none (some r4)
      obtain ⟨q2, f2, m2, w2⟩ := cutV_str (Txt.split z "\n") (some (r4 + 1)) none
      refine ⟨rfl, _, rfl, _, rfl, r4, rfl, p3, _, rfl, .inl (.inl e4), fun p5 np5 => ?_⟩
      rw [f1]
      obtain ⟨s5, e5⟩ := new_at (.lst (q1.map V.str)) np5
      generalize upd H4 p5 (.lst (q1.map V.str)) = H5 at s5 e5 ⊢
      refine ⟨_, rfl, _, rfl, _, _, rfl, rfl, r4 + 1, rfl, p3, _, rfl, .inl (.inl (s5 _ _ e4)), fun p6 np6 => ?_⟩
      rw [f2]
      obtain ⟨s6, e6⟩ := new_at (.lst (q2.map V.str)) np6
      generalize upd H5 p6 (.lst (q2.map V.str)) = H6 at s6 e6 ⊢
      have lq : (q1.map V.str).length + (q2.map V.str).length ≤ 100000 := by
        rw [List.length_map, List.length_map]
        unfold wt at w1 w2 wl
        omega
      refine ⟨p5, p6, _, _, rfl, rfl, s6 _ _ e5, e6, sz lq, fun p7 np7 => ?_⟩
      rw [← List.map_append]
      obtain ⟨s7, e7⟩ := new_at (.lst ((q1 ++ q2).map V.str)) np7
      generalize upd H6 p7 (.lst ((q1 ++ q2).map V.str)) = H7 at s7 e7 ⊢
      have w12 := wt_app q1 q2
      have wj := wt_join (y := "\n") (ps := q1 ++ q2) (by decide)
      have wln := wt_len (y := "\n") (ps := q1 ++ q2) (by decide)
      refine ⟨_, p7, _, rfl, rfl, .inl (.inl (.inl e7)), sz (by omega), ?_⟩
      refine q _ _ (g14.trans (gx_same ((s5.trans s6).trans s7))) (by omega) (uok_join unl fun p hp => ?_)
      rcases List.mem_append.mp hp with h | h
      · exact up p (m1 p h)
      · exact up p (m2 p h)
    refine ⟨_, rfl, rfl, _, rfl, ite2 (fun e => ?_) (fun eE => ?_)⟩
    · obtain ⟨q1, f1, m1, w1⟩ := cutV_str (Txt.split z "\n") none (some r4)
      obtain ⟨q2, f2, m2, w2⟩ := cutV_str (Txt.split z "\n") (some r4) (some (r4 + 1))
      obtain ⟨q3, f3, m3, w3⟩ := cutV_str (Txt.split z "\n") (some r4) none
      refine ⟨rfl, _, rfl, _, rfl, r4, rfl, p3, _, rfl, .inl (.inl e4), fun p5 np5 => ?_⟩
      rw [f1]
      obtain ⟨s5, e5⟩ := new_at (.lst (q1.map V.str)) np5
      generalize upd H4 p5 (.lst (q1.map V.str)) = H5 at s5 e5 ⊢
      refine ⟨_, rfl, _, rfl, r4, rfl, _, rfl, _, _, rfl, rfl, r4 + 1, rfl, p3, _, rfl, .inl (.inl (s5 _ _ e4)), fun p6 np6 => ?_⟩
      rw [f2]
      obtain ⟨s6, e6⟩ := new_at (.lst (q2.map V.str)) np6
      generalize upd H5 p6 (.lst (q2.map V.str)) = H6 at s6 e6 ⊢
      have lq : (q1.map V.str).length + (q2.map V.str).length ≤ 100000 := by
        rw [List.length_map, List.length_map]
        unfold wt at w1 w2 wl
        omega
      refine ⟨p5, p6, _, _, rfl, rfl, s6 _ _ e5, e6, sz lq, fun p7 np7 => ?_⟩
      rw [← List.map_append]
      obtain ⟨s7, e7⟩ := new_at (.lst ((q1 ++ q2).map V.str)) np7
      generalize upd H6 p7 (.lst ((q1 ++ q2).map V.str)) = H7 at s7 e7 ⊢
      have s57 := (s5.trans s6).trans s7
      refine ⟨_, rfl, _, rfl, r4, rfl, p3, _, rfl, .inl (.inl (s57 _ _ e4)), fun p8 np8 => ?_⟩
      rw [f3]
      obtain ⟨s8, e8⟩ := new_at (.lst (q3.map V.str)) np8
      generalize upd H7 p8 (.lst (q3.map V.str)) = H8 at s8 e8 ⊢
      have lq3 : ((q1 ++ q2).map V.str).length + (q3.map V.str).length ≤ 100000 := by
        rw [List.length_map, List.length_map, List.length_append]
        unfold wt at w1 w2 w3 wl
        omega
      refine ⟨p7, p8, _, _, rfl, rfl, s8 _ _ e7, e8, sz lq3, fun p9 np9 => ?_⟩
      rw [← List.map_append]
      obtain ⟨s9, e9⟩ := new_at (.lst (((q1 ++ q2) ++ q3).map V.str)) np9
      generalize upd H8 p9 (.lst (((q1 ++ q2) ++ q3).map V.str)) = H9 at s9 e9 ⊢
      have w12 := wt_app q1 q2
      have w123 := wt_app (q1 ++ q2) q3
      have wj := wt_join (y := "\n") (ps := (q1 ++ q2) ++ q3) (by decide)
      have wln := wt_len (y := "\n") (ps := (q1 ++ q2) ++ q3) (by decide)
      refine ⟨_, p9, _, rfl, rfl, .inl (.inl (.inl e9)), sz (by omega), ?_⟩
      refine q _ _ (g14.trans (gx_same ((s57.trans s8).trans s9))) (by omega) (uok_join unl fun p hp => ?_)
      rcases List.mem_append.mp hp with h | h
      · rcases List.mem_append.mp h with h | h
        · exact up p (m1 p h)
        · exact up p (m2 p h)
      · exact up p (m3 p h)
    clear wl up unl
    -- the words
    refine ⟨_, rfl, rfl, _, _, rfl, rfl, by decide, sz (by omega), fun p5 np5 => ?_⟩
    have n5 := sx_ne hs4 np5
    obtain ⟨s5, e5⟩ := new_at (.lst ((Txt.split z " ").map V.str)) np5
    generalize upd H4 p5 (.lst ((Txt.split z " ").map V.str)) = H5 at s5 e5 ⊢
    have g45 := gx_same (st := st) s5
    have hs5 := g45.2.1 hs4
    have lsq := split_le z " "
    have lsq1 := split_pos z " "
    refine ⟨_, rfl, _, rfl, p5, _, rfl, .inl (.inl (.inl e5)), st, _, rfl, hs5, (by rw [List.length_map]; omega), (by rw [List.length_map]; omega), fun r6 H6 a6 b6 g6 => ?_⟩
    have g46 := g45.trans g6
    have g16 := g14.trans g46
    have hs6 := g16.2.1 hs
    have e6 := g6.1 _ _ n5 lst_tbl e5
    rw [List.length_map] at b6
    -- the news
    refine ⟨_, _, rfl, rfl, ⟨by decide, fun _ _ => by decide +kernel, fun _ _ => by decide +kernel⟩, (by show 13 ≤ sizeLine; decide), fun p7 np7 => ?_⟩
    have n7 := sx_ne hs6 np7
    obtain ⟨s7, e7⟩ := new_at (.lst (news13.map V.str)) np7
    obtain ⟨H7, hH7⟩ : ∃ H7, upd H6 p7 (.lst (news13.map V.str)) = H7 := ⟨_, rfl⟩
    rw [hH7] at s7 e7
    refine heap_eq hH7 ?_
    refine ⟨fun σ' H' => Gx st H7 H' ∧ ∃ (N : Addr) (ns : List Str), σ' = [some (.ref st), some (.str z), some (.str S), some (.str (sg c)), some (.int a), some (.int b), some (.ref p3), some (.int r4), some (.ref p5), some (.int r6), some (.ref N)] ∧ H' N = some (.lst (ns.map V.str)) ∧ N ≠ st ∧ ns.length = 16 ∧ ∀ n ∈ ns, n.length ≤ 30 ∧ Uok n, ?_, ?_⟩
    · refine ⟨_, rfl, (by show 3 ≤ sizeLine; decide), fun p8 np8 => ?_⟩
      obtain ⟨s8, e8⟩ := new_at (.lst (news3.map V.str)) np8
      refine ⟨p7, p8, _, _, rfl, rfl, s8 _ _ e7, e8, (by show 16 ≤ sizeLine; decide), fun p9 np9 => ?_⟩
      have hs8 := (g16.trans ((gx_same s7).trans (gx_same s8))).2.1 hs
      have n9 := sx_ne hs8 np9
      obtain ⟨s9, e9⟩ := new_at (.lst (news13.map V.str ++ news3.map V.str)) np9
      refine ⟨gx_same (s8.trans s9), p9, news13 ++ news3, rfl, ?_, n9, rfl, news_all⟩
      rw [List.map_append]
      exact e9
    rintro σ H8 ⟨g8, N, ns, rfl, eN, nN, ln, hns⟩
    have g68 := (gx_same (st := st) s7).trans g8
    have g18 := g16.trans g68
    have hs8 := g18.2.1 hs
    have e58 := g68.1 _ _ n5 lst_tbl e6
    clear hH7 e7 s7
    refine ⟨_, rfl, _, _, rfl, rfl, _, rfl, ite2 (fun e => ?_) (fun eF => ?_)⟩
    · have wl := wt_split z (y := " ") (by decide)
      have up : ∀ p ∈ Txt.split z " ", Uok p := fun p hp => uok_part hu hp
      have usp : Uok (" " : Str) := by unfold Uok; decide +kernel
      obtain ⟨q1, f1, m1, w1⟩ := cutV_str (Txt.split z " ") none (some r6)
      obtain ⟨q3, f3, m3, w3⟩ := cutV_str (Txt.split z " ") (some (r6 + b - 6)) none
      refine ⟨rfl, _, rfl, _, rfl, r6, rfl, p5, _, rfl, .inl (.inl e58), fun pA npA => ?_⟩
      rw [f1]
      have nA := sx_ne hs8 npA
      obtain ⟨sA, eA⟩ := new_at (.lst (q1.map V.str)) npA
      generalize upd H8 pA (.lst (q1.map V.str)) = HA at sA eA ⊢
      have gA := gx_same (st := st) sA
      refine ⟨_, rfl, _, rfl, st, 16, rfl, gA.2.1 hs8, by decide, by decide, fun r9 H9 a9 b9 g9 => ?_⟩
      have gA9 := gA.trans g9
      obtain ⟨n, hn, mn⟩ := at_strs (xs := ns) (r := r9) a9 (by rw [ln]; exact b9)
      obtain ⟨ln30, un⟩ := hns n mn
      refine ⟨N, _, r9, .str n, rfl, rfl, .inl (.inl (gA9.1 _ _ nN lst_tbl eN)), hn, (by show 1 ≤ sizeLine; decide), fun pB npB => ?_⟩
      obtain ⟨sB, eB⟩ := new_at (.lst [.str n]) npB
      generalize upd H9 pB (.lst [.str n]) = HB at sB eB ⊢
      have lq : (q1.map V.str).length + [V.str n].length ≤ 100000 := by
        rw [List.length_map]
        show q1.length + 1 ≤ _
        unfold wt at w1 wl
        omega
      refine ⟨pA, pB, _, _, rfl, rfl, sB _ _ (g9.1 _ _ nA lst_tbl eA), eB, sz lq, fun pC npC => ?_⟩
      rw [show q1.map V.str ++ [V.str n] = (q1 ++ [n]).map V.str by rw [List.map_append]; rfl]
      obtain ⟨sC, eC⟩ := new_at (.lst ((q1 ++ [n]).map V.str)) npC
      generalize upd HB pC (.lst ((q1 ++ [n]).map V.str)) = HC at sC eC ⊢
      have sBC := sB.trans sC
      refine ⟨_, rfl, _, rfl, _, rfl, _, _, rfl, rfl, _, _, rfl, rfl, r6 + b - 6, rfl, p5, _, rfl, .inl (.inl (sBC _ _ (gA9.1 _ _ n5 lst_tbl e58))), fun pD npD => ?_⟩
      rw [f3]
      obtain ⟨sD, eD⟩ := new_at (.lst (q3.map V.str)) npD
      generalize upd HC pD (.lst (q3.map V.str)) = HD at sD eD ⊢
      have lq3 : ((q1 ++ [n]).map V.str).length + (q3.map V.str).length ≤ 100000 := by
        rw [List.length_map, List.length_map, List.length_append]
        show q1.length + 1 + _ ≤ _
        unfold wt at w1 w3 wl
        omega
      refine ⟨pC, pD, _, _, rfl, rfl, sD _ _ eC, eD, sz lq3, fun pE npE => ?_⟩
      rw [← List.map_append]
      obtain ⟨sE, eE⟩ := new_at (.lst (((q1 ++ [n]) ++ q3).map V.str)) npE
      generalize upd HD pE (.lst (((q1 ++ [n]) ++ q3).map V.str)) = HE at sE eE ⊢
      have w12 := wt_app q1 [n]
      have w123 := wt_app (q1 ++ [n]) q3
      have wn : wt [n] ≤ 31 := by
        show n.length + 0 + 1 ≤ 31
        omega
      have wj := wt_join (y := " ") (ps := (q1 ++ [n]) ++ q3) (by decide)
      have wln := wt_len (y := " ") (ps := (q1 ++ [n]) ++ q3) (by decide)
      refine ⟨_, pE, _, rfl, rfl, .inl (.inl (.inl eE)), sz (by omega), ?_⟩
      refine q _ _ ((g18.trans gA9).trans (gx_same ((sBC.trans sD).trans sE))) (by omega) (uok_join usp fun p hp => ?_)
      rcases List.mem_append.mp hp with h | h
      · rcases List.mem_append.mp h with h | h
        · exact up p (m1 p h)
        · rw [List.mem_singleton.mp h]
          exact un
      · exact up p (m3 p h)
    -- the last ones
    have c1 := cu none (some (-1))
    have l1 := c1.1
    refine ⟨_, rfl, 1, rfl, -1, rfl, _, rfl, lz, ?_⟩
    refine ⟨_, rfl, _, _, rfl, rfl, sz (by show 1 + z.length ≤ _; omega), ?_⟩
    refine ⟨_, rfl, _, _, rfl, rfl, sz (by show z.length + 7 ≤ _; omega), ?_⟩
    refine ⟨_, rfl, _, _, rfl, rfl, sz (by show z.length + 1 ≤ _; omega), ?_⟩
    refine ⟨_, rfl, _, _, rfl, rfl, sz (by show z.length + 12 ≤ _; omega), (by show 5 ≤ sizeLine; decide), fun pL npL => ?_⟩
    have nL := sx_ne hs8 npL
    obtain ⟨sL, eL⟩ := new_at (.lst ([cutS z none (some (-1)), "\n" ++ z, z ++ "layer -", z ++ " ", z ++ "layer - 5x5\n"].map V.str)) npL
    obtain ⟨HL, hHL⟩ : ∃ HL, upd H8 pL (.lst ([cutS z none (some (-1)), "\n" ++ z, z ++ "layer -", z ++ " ", z ++ "layer - 5x5\n"].map V.str)) = HL := ⟨_, rfl⟩
    rw [hHL] at sL eL
    refine heap_eq hHL ?_
    have gL := gx_same (st := st) sL
    refine ⟨_, rfl, st, 5, rfl, gL.2.1 hs8, by decide, by decide, fun r9 H9 a9 b9 g9 => ?_⟩
    obtain ⟨y, hy, my⟩ := at_strs (xs := [cutS z none (some (-1)), "\n" ++ z, z ++ "layer -", z ++ " ", z ++ "layer - 5x5\n"]) (r := r9) a9 b9
    refine ⟨pL, _, r9, .str y, rfl, rfl, .inl (.inl (g9.1 _ _ nL lst_tbl eL)), hy, ?_⟩
    have u1 : Uok ("\n" : Str) := by unfold Uok; decide +kernel
    have u2 : Uok ("layer -" : Str) := by unfold Uok; decide +kernel
    have u3 : Uok (" " : Str) := by unfold Uok; decide +kernel
    have u4 : Uok ("layer - 5x5\n" : Str) := by unfold Uok; decide +kernel
    have fin : y.length ≤ 3 * z.length + 100 ∧ Uok y := by
      have my' : y = cutS z none (some (-1)) ∨ y = "\n" ++ z ∨ y = z ++ "layer -" ∨ y = z ++ " " ∨ y = z ++ "layer - 5x5\n" := by simpa using my
      rcases my' with rfl | rfl | rfl | rfl | rfl
      · exact ⟨by omega, c1.2⟩
      · refine ⟨?_, uok_app u1 hu⟩
        rw [strLen_append]
        show 1 + z.length ≤ _
        omega
      · refine ⟨?_, uok_app hu u2⟩
        rw [strLen_append]
        show z.length + 7 ≤ _
        omega
      · refine ⟨?_, uok_app hu u3⟩
        rw [strLen_append]
        show z.length + 1 ≤ _
        omega
      · refine ⟨?_, uok_app hu u4⟩
        rw [strLen_append]
        show z.length + 12 ≤ _
        omega
    exact q _ _ (g18.trans (gL.trans g9)) fin.1 fin.2
end

def accL (z : Str) : List LY → Str
  | [] => z
  | l :: ls => accL (z ++ layT l ++ "\n") ls
theorem accL_snoc : ∀ (ls : List LY) (z : Str) (l : LY), accL z (ls ++ [l]) = accL z ls ++ layT l ++ "\n"
  | [], _, _ => rfl
  | k :: ls, z, l => accL_snoc ls (z ++ layT k ++ "\n") l
theorem tl_nl : TL.tl ("\n" : Str) = [10] := by decide +kernel
theorem accL_tl : ∀ (ls : List LY) (z : Str), TL.tl (accL z ls) = TL.tl z ++ (ls.map fun l => TL.tl (layT l) ++ [10]).flatten
  | [], z => by
    show TL.tl z = _
    simp
  | l :: ls, z => by
    show TL.tl (accL (z ++ layT l ++ "\n") ls) = _
    rw [accL_tl ls, TL.tl_append, TL.tl_append, tl_nl]
    simp
theorem joinL_nil : ∀ ps : List (List Nat), TL.joinL [] ps = ps.flatten
  | [] => rfl
  | [p] => by simp [TL.joinL]
  | p :: q :: r => by
    show p ++ ([] ++ TL.joinL [] (q :: r)) = _
    rw [joinL_nil (q :: r)]
    rfl
theorem accL_shT (ls : List LY) (x y : Int) (ms : List MV) : accL (winT x y ms ++ "\n") ls = shT ls x y ms := by
  refine TL.ext_tl ?_
  unfold shT linT
  rw [accL_tl, TL.tl_append, tl_nl, tl_txt, show TL.tl ("" : Str) = [] by decide +kernel, joinL_nil, List.map_append, List.map_append, List.flatten_append]
  have e : ∀ z : Str, TL.tl (z ++ "\n") = TL.tl z ++ [10] := fun z => by rw [TL.tl_append, tl_nl]
  congr 1
  · simp [e]
  · rw [List.map_map, List.map_map]
    congr 1
    refine List.map_congr_left fun l _ => ?_
    exact (e _).symm
theorem accL_len {ls : List LY} (h : ∀ l ∈ ls, VLy l) (z : Str) : (accL z ls).length ≤ z.length + 144 * ls.length := by
  induction ls generalizing z with
  | nil => exact Nat.le_refl _
  | cons l ls ih =>
    show (accL (z ++ layT l ++ "\n") ls).length ≤ _
    refine Nat.le_trans (ih (fun k hk => h k (List.mem_cons_of_mem _ hk)) _) ?_
    have := (layT_f (h l (List.mem_cons_self ..))).1
    rw [strLen_append, strLen_append, List.length_cons, show ("\n" : Str).length = 1 by decide]
    omega
theorem rwT_add (r : RW) : nT r.1 ++ "x" ++ nT r.2 = rwT r := by
  refine TL.ext_tl ?_
  unfold rwT
  rw [TL.tl_append, TL.tl_append, tl_txt]
  show _ = TL.tl (nT r.1) ++ (TL.tl "x" ++ TL.tl (nT r.2))
  rw [List.append_assoc]
section
variable {P : Program} {w : World} {K : PySem.W.Frag} {mg : Str → Option Value} {base : Heap}
def sp__law_sheet_text (K : PySem.W.Frag) : Sp := fun vs H Q _ => ∃ (v : V) (ls : List LY) (x y : Int) (ms : List MV), vs = [v] ∧ ShAt K H v ls x y ms ∧ VLays ls ∧ VWin x y ms ∧ ∀ H', Same H H' → Q (.str (shT ls x y ms)) H'
theorem ok__law_sheet_text {f : Addr} {fd : FuncData} (F : Fun K "_law_sheet_text" "_law_sheet_text" s__law_sheet_text f fd) (T : Txt K mg) : FnOk P w K mg base CX0 1 f fd ["_law_sheet_here"] (sp__law_sheet_text K) := by
  refine F.ok sc__law_sheet_text (fun vs H Q E h => ?_) (fun cdv A outer s H vs Q E hr h => ?_)
  · obtain ⟨v, ls, x, y, ms, rfl, _⟩ := h
    rfl
  · obtain ⟨v, ls, x, y, ms, rfl, ⟨p, lv, wv, rfl, hp, ⟨pl, us, rfl, hm, pd⟩, ⟨pw, mv, rfl, hw, pm, mvs, rfl, hmm, pdm⟩⟩, vL, vw, q⟩ := h
    have lus := Paired.length pd
    have lms := Paired.length pdm
    have l4 := vL.2.1
    have l8 := vw.2.2.1
    have sx : Sm x := ⟨by have := vw.1; omega, by have := vw.1; omega⟩
    have sy : Sm y := ⟨by have := vw.2.1; omega, by have := vw.2.1; omega⟩
    refine ⟨_, (pss_cons (ps_set (i := 1) sc__law_sheet_text.nd rfl (Or.inl rfl) (pe_lst (pa_cons pe_str (pa_cons (pe_callTy call_str_int (by rfl) T.b_str (by decide +kernel) (pa_cons (pe_ix ix_tup (pe_ix ix_tup (pv 0) pe_int (fun _ _ => rfl)) pe_int (fun _ _ => rfl)) pa_nil)) (pa_cons (pe_callTy call_str_int (by rfl) T.b_str (by decide +kernel) (pa_cons (pe_ix ix_tup (pe_ix ix_tup (pv 0) pe_int (fun _ _ => rfl)) pe_int (fun _ _ => rfl)) pa_nil)) pa_nil)))))
      (pss_cons (ps_for PassesOwn.never rfl (pi_tup (pe_ix ix_tup (pe_ix ix_tup (pv 0) pe_int (fun _ _ => rfl)) pe_int (fun _ _ => rfl))) (pg_name (i := 2) sc__law_sheet_text.nd rfl (Or.inl rfl))
        (pss_one (ps_expr (pe_bm PySem.F.plainAttrs_list PySem.F.slot_list_append PySem.F.type_list_append mt_append (pv 1) (pa_cons (pe_bm PySem.F.plainAttrs_str PySem.F.slot_str_join PySem.F.type_str_join mt_join pe_str (pa_cons (pe_lc (own := [("_law_part", 9)]) (g := (gName 9)) (tt := tYes) (by rfl) sc__law_sheet_text.nd (pi_tup (pv 2)) (blkOk_by (own := [("_law_part", 9)]) (N := ["_law_sheet_here", "_law_words", "_law_move", "_law_lines", "_law_rows", "_law_back", "_law_parts", "_law_drawing", "_law_hold", "_law_part"]) (sc := defScope s__law_sheet_text) (by decide +kernel)) (fun _ _ _ _ _ => (pg_name (i := 9) sc__law_sheet_text.nd rfl (Or.inl rfl))) (fun _ _ _ _ _ => pts_nil) (fun _ _ _ _ _ => (pe_callTy call_str_int (by rfl) T.b_str (by decide +kernel) (pa_cons (pv 9) pa_nil)))) pa_nil)) pa_nil)))))
      (pss_cons (ps_set (i := 3) sc__law_sheet_text.nd rfl (Or.inl rfl) (pe_op op_add_str (pe_bm PySem.F.plainAttrs_str PySem.F.slot_str_join PySem.F.type_str_join mt_join pe_str (pa_cons (pv 1) pa_nil)) pe_str))
      (pss_cons (ps_for PassesOwn.never rfl (pi_tup (pe_ix ix_tup (pv 0) pe_int (fun _ _ => rfl))) (pg_tup (by rfl) (pgs_cons (pg_name (i := 4) sc__law_sheet_text.nd rfl (Or.inl rfl)) (pgs_cons (pg_name (i := 5) sc__law_sheet_text.nd rfl (Or.inl rfl)) pgs_nil)))
        (pss_cons (ps_set (i := 6) sc__law_sheet_text.nd rfl (Or.inl rfl) (pe_lst (pa_cons pe_str (pa_cons (pe_ifExp (pt_cmpR op_isN (pv 5) pe_non (nomark _)) pe_str (pe_callTy call_str_int (by rfl) T.b_str (by decide +kernel) (pa_cons (pv 5) pa_nil))) pa_nil))))
      (pss_cons (ps_for PassesOwn.never rfl (pi_tup (pv 4)) (pg_tup (by rfl) (pgs_cons (pg_name (i := 7) sc__law_sheet_text.nd rfl (Or.inl rfl)) (pgs_cons (pg_name (i := 8) sc__law_sheet_text.nd rfl (Or.inl rfl)) pgs_nil)))
        (pss_one (ps_expr (pe_bm PySem.F.plainAttrs_list PySem.F.slot_list_append PySem.F.type_list_append mt_append (pv 6) (pa_cons (pe_op op_add_str (pe_op op_add_str (pe_callTy call_str_int (by rfl) T.b_str (by decide +kernel) (pa_cons (pv 7) pa_nil)) pe_str) (pe_callTy call_str_int (by rfl) T.b_str (by decide +kernel) (pa_cons (pv 8) pa_nil))) pa_nil)))))
      (pss_one (ps_set (i := 3) sc__law_sheet_text.nd rfl (Or.inl rfl) (pe_op op_add_str (pe_op op_add_str (pv 3) (pe_bm PySem.F.plainAttrs_str PySem.F.slot_str_join PySem.F.type_str_join mt_join pe_str (pa_cons (pv 6) pa_nil))) pe_str))))))
      (pss_one (ps_ret (pv 3))))))), ?_⟩
    refine ⟨_, rfl, p, _, 1, _, rfl, rfl, hp, rfl, pw, _, 0, _, rfl, rfl, hw, rfl, x, rfl, log_small sx, ?_⟩
    refine ⟨_, rfl, p, _, 1, _, rfl, rfl, hp, rfl, pw, _, 1, _, rfl, rfl, hw, rfl, y, rfl, log_small sy, (by show 3 ≤ sizeLine; decide), fun F nF => ?_⟩
    obtain ⟨s1, e1⟩ := new_at (.lst [.str "window", .str (Str.ofString (toString x)), .str (Str.ofString (toString y))]) nF
    generalize upd H F (.lst [.str "window", .str (Str.ofString (toString x)), .str (Str.ofString (toString y))]) = H1 at s1 e1 ⊢
    refine ⟨_, rfl, p, _, 1, _, rfl, rfl, Same.sqT s1 hp, rfl, pw, _, 2, _, rfl, rfl, Same.sqT s1 hw, rfl, pm, rfl, ⟨_, Same.sqT s1 hmm⟩, for_tup (K := K) (a := pm) (xs := mvs) (fun i σ H' => Same H H' ∧ ∃ y2, σ = [some (.ref p), some (.ref F), y2, none, none, none, none, none, none, none] ∧ H' F = some (.lst (([("window" : Str), nT x, nT y] ++ (ms.take i).map mvT).map V.str)))
      ⟨s1, none, rfl, e1⟩ (fun i σ H' _ z => Same.sqT z.1 hmm) ?_ ?_⟩
    · rintro i u σ H2 hu ⟨s2, y2, rfl, eF⟩
      obtain ⟨m, hm1, hmv⟩ := Paired.at pdm hu
      have vm := vw.2.2.2 m (List.mem_of_getElem? hm1)
      obtain ⟨p3, rfl, h3⟩ := hmv.keep (Same.tk s2)
      obtain ⟨a1, a2, a3⟩ := vm_sm vm
      have hi : i < ms.length := (List.getElem?_eq_some_iff.mp hm1).1
      refine ⟨_, rfl, .inl ⟨rfl, _, .inl (.inl eF)⟩, rfl, _, rfl, p3, rfl, ⟨_, h3⟩, fun D hD => ?_⟩
      refine lcmap_tup (xs := [.int m.1, .int m.2.1, .int m.2.2]) ([nT m.1, nT m.2.1, nT m.2.2].map V.str) rfl (by show 3 ≤ 1000; decide) h3 hD (fun i x y H4 R Z hx hy s4 hR => ?_) (fun H4 s4 hL => ?_)
      · obtain ⟨n, rfl, rfl, sn⟩ : ∃ n, x = .int n ∧ y = .str (nT n) ∧ Sm n := by
          match i, hx, hy with
          | 0, hx, hy => cases hx; cases hy; exact ⟨_, rfl, rfl, a1⟩
          | 1, hx, hy => cases hx; cases hy; exact ⟨_, rfl, rfl, a2⟩
          | 2, hx, hy => cases hx; cases hy; exact ⟨_, rfl, rfl, a3⟩
          | k + 3, hx, hy => cases hx
        exact ⟨rfl, yes_ok ⟨_, rfl, n, rfl, log_small sn, hR _ (Same.refl _)⟩⟩
      · refine ⟨_, D, _, rfl, rfl, .inl (.inl (.inl hL)), ?_, F, _, _, rfl, rfl, s4 _ _ eF, ?_, ?_, _, rfl, ?_⟩
        · exact Nat.le_trans (join_bound (n := 3) (B := 3) (by decide) (fun p hp => (mv_parts vm p hp).1) (by show 3 ≤ 3; decide)) (by decide)
        · refine small1000 ?_
          rw [List.length_map, List.length_append, List.length_map, List.length_take]
          show 3 + _ ≤ 1000
          omega
        · intro b o e
          rw [upd_ne (ne_of_none e nF)]
          exact (s2.trans s4) _ _ e
        · rw [upd_same, List.take_add_one, hm1, List.map_append (l₂ := (some m).toList), ← List.append_assoc, List.map_append (l₂ := ((some m).toList.map mvT))]
          rfl
    rintro σ H2 ⟨s2, y2, rfl, eF⟩
    rw [lms, List.take_length] at eF
    refine ⟨rfl, _, rfl, _, F, winW x y ms, rfl, rfl, .inl (.inl (.inl eF)), ?_, _, _, rfl, rfl, ?_, ?_⟩
    · exact Nat.le_trans (join_bound (n := 11) (B := 12) (by decide) (fun p hp => (winW_f vw p hp).1) (winW_len vw)) (by decide)
    · exact Nat.le_trans (Nat.add_le_add_right (winT_f vw).1 _) (by decide)
    refine ⟨_, rfl, p, _, 0, _, rfl, rfl, Same.sqT s2 hp, rfl, pl, rfl, ⟨_, Same.sqT s2 hm⟩, for_tup (K := K) (a := pl) (xs := us) (fun i σ H' => Same H H' ∧ ∃ y4 y5 y6 y7 y8, σ = [some (.ref p), some (.ref F), y2, some (.str (accL (winT x y ms ++ "\n") (ls.take i))), y4, y5, y6, y7, y8, none])
      ⟨s2, none, none, none, none, none, rfl⟩ (fun i σ H' _ z => Same.sqT z.1 hm) ?_ ?_⟩
    · rintro i u σ H3 hu ⟨s3, y4, y5, y6, y7, y8, rfl⟩
      obtain ⟨l, hl1, hly⟩ := Paired.at pd hu
      have vl := vL.2.2 l (List.mem_of_getElem? hl1)
      obtain ⟨rs, bk⟩ := l
      obtain ⟨p4, rv, rfl, h4, pr, rus, rfl, hr4, pdr⟩ := hly.keep (Same.tk s3)
      have lrs : rus.length = rs.length := Paired.length pdr
      have l8r : rs.length ≤ 8 := vl.1.1
      have hi : i < ls.length := (List.getElem?_eq_some_iff.mp hl1).1
      refine ⟨p4, _, rfl, h4, rfl, _, _, rfl, _, _, rfl, rfl, ?_⟩
      refine ⟨_, rfl, rfl, _, rfl, ite2 (fun e => ?g1) (fun e => ?g2)⟩
      case' g1 =>
        obtain ⟨z, ez, hz⟩ : ∃ z : Str, z = "-" ∧ z = bkT bk := by
          cases bk with
          | none => exact ⟨_, rfl, rfl⟩
          | some b => cases e
        rw [← ez]
      case' g2 =>
        obtain ⟨b, rfl⟩ : ∃ b, bk = some b := by
          cases bk with
          | none => exact absurd rfl e
          | some b => exact ⟨b, rfl⟩
        refine ⟨_, rfl, b, rfl, log_small (vb_sm vl rfl), ?_⟩
        obtain ⟨z, ez, hz⟩ : ∃ z : Str, z = Str.ofString (toString b) ∧ z = bkT (some b) := ⟨_, rfl, rfl⟩
        rw [← ez]
      all_goals
        refine ⟨(by show 2 ≤ sizeLine; decide), fun G nG => ?_⟩
        obtain ⟨s5, e5⟩ := new_at (.lst [.str "layer", .str z]) nG
        generalize upd H3 G (.lst [.str "layer", .str z]) = H5 at s5 e5 ⊢
        have nG0 := s3.free nG
        refine ⟨_, rfl, pr, rfl, ⟨_, Same.sqT s5 hr4⟩, for_tup (K := K) (a := pr) (xs := rus) (fun j σ H' => Same H3 H' ∧ ∃ y7 y8, σ = [some (.ref p), some (.ref F), y2, some (.str (accL (winT x y ms ++ "\n") (ls.take i))), some (.ref pr), some (bkV _), some (.ref G), y7, y8, none] ∧ H' G = some (.lst (([("layer" : Str), z] ++ (rs.take j).map rwT).map V.str)))
          ⟨s5, y7, y8, rfl, e5⟩ (fun i σ H' _ z => Same.sqT z.1 hr4) ?_ ?_⟩
        · rintro j u6 σ H6 hu6 ⟨s6, z7, z8, rfl, eG⟩
          obtain ⟨r, hr1, pw6, rfl, hrow⟩ := Paired.at pdr hu6
          have vr := vl.1.2 r (List.mem_of_getElem? hr1)
          obtain ⟨a1, a2⟩ := vr_sm vr
          have hj : j < rs.length := (List.getElem?_eq_some_iff.mp hr1).1
          refine ⟨pw6, _, rfl, Same.sqT s6 hrow, rfl, _, _, rfl, _, _, rfl, rfl, ?_⟩
          refine ⟨_, rfl, .inl ⟨rfl, _, .inl (.inl eG)⟩, _, rfl, r.1, rfl, log_small a1, _, _, rfl, rfl, ?_, _, rfl, r.2, rfl, log_small a2, _, _, rfl, rfl, ?_, G, _, _, rfl, rfl, eG, ?_, ?_, _, _, rfl, ?_⟩
          · exact Nat.le_trans (Nat.add_le_add_right a1.f.len _) (by decide)
          · have := js_len (b := ("x" : Str)) (n := 1) a1.f.len (by decide)
            exact Nat.le_trans (Nat.add_le_add this a2.f.len) (by decide)
          · refine small1000 ?_
            rw [List.length_map, List.length_append, List.length_map, List.length_take]
            show 2 + _ ≤ 1000
            omega
          · intro b o e
            rw [upd_ne (ne_of_none e nG)]
            exact s6 _ _ e
          · rw [upd_same, List.take_add_one, hr1, List.map_append (l₂ := (some r).toList), ← List.append_assoc, List.map_append (l₂ := ((some r).toList.map rwT))]
            show some (HO.lst (_ ++ [V.str (nT r.1 ++ "x" ++ nT r.2)])) = _
            rw [rwT_add]
            rfl
        · rintro σ H6 ⟨s6, z7, z8, rfl, eG⟩
          rw [lrs, List.take_length, hz] at eG
          have la := accL_len (ls := ls.take i) (fun k hk => vL.2.2 k (List.mem_of_mem_take hk)) (winT x y ms ++ "\n")
          have lw : (winT x y ms ++ "\n").length ≤ 144 := js_len (winT_f vw).1 (n := 1) (by decide)
          have la' : (accL (winT x y ms ++ "\n") (ls.take i)).length ≤ 720 := by
            rw [List.length_take] at la
            omega
          refine ⟨_, rfl, rfl, _, rfl, _, G, layW (rs, _), rfl, rfl, .inl (.inl (.inl eG)), ?_, _, _, rfl, rfl, ?_, _, _, rfl, rfl, ?_, s3.trans s6, ?_⟩
          · exact Nat.le_trans (join_bound (n := 11) (B := 12) (by decide) (fun p hp => (layW_f vl p hp).1) (layW_len vl)) (by decide)
          · exact Nat.le_trans (Nat.add_le_add la' (layT_f vl).1) (by decide)
          · have := js_len la' (layT_f vl).1
            exact Nat.le_trans (Nat.add_le_add_right this _) (by decide)
          · rw [List.take_add_one, hl1]
            simp only [Option.toList]
            rw [accL_snoc]
            exact ⟨_, _, _, _, _, rfl⟩
    rintro σ H3 ⟨s3, y4, y5, y6, y7, y8, rfl⟩
    refine ⟨_, rfl, ?_⟩
    rw [lus, List.take_length, accL_shT]
    exact q _ s3
end

/-! ### things made of plain parts, part by part -/
def MkD (K : PySem.W.Frag) (fx : Hp) (t : TE) (σ : L2.St) (H0 : Hp) (d : PyData) : Prop := ∀ H, Same H0 H → ∀ Q : VK, (∀ v H', Same H H' → Dg K fx H' true v d → Q v H') → t σ H Q
def MkA (K : PySem.W.Frag) (fx : Hp) (t : TA) (σ : L2.St) (H0 : Hp) (ds : List PyData) : Prop := ∀ H, Same H0 H → ∀ Q : List V → Hp → Prop, (∀ vs H', Same H H' → DgAll K fx H' true vs ds → Q vs H') → t σ H Q
theorem MkD.run {K : PySem.W.Frag} {fx : Hp} {t : TE} {σ : L2.St} {H : Hp} {d : PyData} {Q : VK} (m : MkD K fx t σ H d) (h : ∀ v H', Same H H' → Dg K fx H' true v d → Q v H') : t σ H Q := m H (Same.refl _) Q h
theorem MkD.non {K : PySem.W.Frag} {fx : Hp} {σ : L2.St} {H0 : Hp} : MkD K fx (tC .non) σ H0 .none := fun H _ _ h => h _ H (Same.refl _) .non
theorem MkD.bl {K : PySem.W.Frag} {fx : Hp} {σ : L2.St} {H0 : Hp} {x : Bool} : MkD K fx (tC (.bl x)) σ H0 (.bool x) := fun H _ _ h => h _ H (Same.refl _) (.bl x)
theorem MkD.int {K : PySem.W.Frag} {fx : Hp} {σ : L2.St} {H0 : Hp} {i : Int} : MkD K fx (tC (.int i)) σ H0 (.int i) := fun H _ _ h => h _ H (Same.refl _) (.int i)
theorem MkD.str {K : PySem.W.Frag} {fx : Hp} {σ : L2.St} {H0 : Hp} {x : Str} : MkD K fx (tC (.str x)) σ H0 (.str x) := fun H _ _ h => h _ H (Same.refl _) (.str x)
theorem MkD.var {K : PySem.W.Frag} {fx : Hp} {σ : L2.St} {H0 : Hp} {i : Nat} {v : V} {d : PyData} (hd : Dg K fx H0 true v d) (h : σ[i]? = some (some v) := by rfl) : MkD K fx (tVar i) σ H0 d := fun H s _ q => ⟨v, h, q v H (Same.refl _) (hd.sm s)⟩
theorem MkA.nil {K : PySem.W.Frag} {fx : Hp} {σ : L2.St} {H0 : Hp} : MkA K fx tNil σ H0 [] := fun H _ _ h => h _ H (Same.refl _) .nil
theorem MkA.cons {K : PySem.W.Frag} {fx : Hp} {σ : L2.St} {H0 : Hp} {te : TE} {t : TA} {d : PyData} {ds : List PyData} (a : MkD K fx te σ H0 d) (b : MkA K fx t σ H0 ds) : MkA K fx (tCons te t) σ H0 (d :: ds) := fun H s _ q =>
  a H s _ fun v H1 s1 h1 => b H1 (s.trans s1) _ fun vs H2 s2 h2 => q _ H2 (s1.trans s2) (.cons (h1.sm s2) h2)
theorem MkD.tup {K : PySem.W.Frag} {fx : Hp} {σ : L2.St} {H0 : Hp} {t : TA} {ds : List PyData} (a : MkA K fx t σ H0 ds) (hl : ds.length ≤ 1000 := by exact Nat.le_of_ble_eq_true rfl) : MkD K fx (tTup t) σ H0 (.tuple ds) := fun H s _ q =>
  a H s _ fun vs H1 s1 h1 => ⟨Nat.le_of_lt (small1000 (by rw [DgAll.len h1]; exact hl)), fun p np => q _ _ (s1.trans (same_upd np)) (mkT np h1)⟩
theorem MkD.lst {K : PySem.W.Frag} {fx : Hp} {σ : L2.St} {H0 : Hp} {t : TA} {ds : List PyData} (hf : ∀ p, H0 p = none → fx p = none) (a : MkA K fx t σ H0 ds) (hl : ds.length ≤ 1000 := by exact Nat.le_of_ble_eq_true rfl) : MkD K fx (tLst t) σ H0 (.list ds) := fun H s _ q =>
  a H s _ fun vs H1 s1 h1 => ⟨Nat.le_of_lt (small1000 (by rw [DgAll.len h1]; exact hl)), fun p np => q _ _ (s1.trans (same_upd np)) (mkL (hf _ ((s.trans s1).free np)) np h1)⟩
theorem Dg.tupI {K : PySem.W.Frag} {fx H : Hp} {b : Bool} {v : V} {ds : List PyData} (h : Dg K fx H b v (.tuple ds)) : ∃ a xs, v = .ref a ∧ SqT K H a xs ∧ DgAll K fx H b xs ds := by
  cases h with
  | tup h q => exact ⟨_, _, rfl, h, q⟩
theorem Dg.lstI {K : PySem.W.Frag} {fx H : Hp} {b : Bool} {v : V} {ds : List PyData} (h : Dg K fx H b v (.list ds)) : ∃ a xs, v = .ref a ∧ fx a = none ∧ H a = some (.lst xs) ∧ DgAll K fx H true xs ds := by
  cases h with
  | lst f h q => exact ⟨_, _, rfl, f, h, q⟩
theorem Dg.intI {K : PySem.W.Frag} {fx H : Hp} {b : Bool} {v : V} {i : Int} (h : Dg K fx H b v (.int i)) : v = .int i := by
  cases h with
  | int => rfl
theorem MkD.cat {K : PySem.W.Frag} {fx : Hp} {σ : L2.St} {H0 : Hp} {ta tb : TE} {ds es : List PyData} (hl : ds.length + es.length ≤ 1000) (a : MkD K fx ta σ H0 (.tuple ds)) (b : MkD K fx tb σ H0 (.tuple es)) : MkD K fx (tOp (rCatA K) ta tb) σ H0 (.tuple (ds ++ es)) := fun H s _ q =>
  a H s _ fun v H1 s1 h1 => b H1 (s.trans s1) _ fun u H2 s2 h2 => by
    obtain ⟨p, xs, rfl, hp, dx⟩ := (h1.sm s2).tupI
    obtain ⟨r, ys, rfl, hr, dy⟩ := h2.tupI
    refine cat_any hp hr (by rw [DgAll.len dx, DgAll.len dy]; exact hl) fun H3 z s3 hz => q _ _ ((s1.trans s2).trans s3) (.tup hz (DgAll.app (dy.sm s3) (dx.sm s3)))
theorem MkD.lcat {K : PySem.W.Frag} {fx : Hp} {σ : L2.St} {H0 : Hp} {ta tb : TE} {ds es : List PyData} (hf : ∀ p, H0 p = none → fx p = none) (a : MkD K fx ta σ H0 (.list ds)) (b : MkD K fx tb σ H0 (.list es)) (hl : ds.length + es.length ≤ 1000 := by exact Nat.le_of_ble_eq_true rfl) : MkD K fx (tOp rCat ta tb) σ H0 (.list (ds ++ es)) := fun H s _ q =>
  a H s _ fun v H1 s1 h1 => b H1 (s.trans s1) _ fun u H2 s2 h2 => by
    obtain ⟨p, xs, rfl, _, hp, dx⟩ := (h1.sm s2).lstI
    obtain ⟨r, ys, rfl, _, hr, dy⟩ := h2.lstI
    refine ⟨p, r, xs, ys, rfl, rfl, hp, hr, Nat.le_of_lt (small1000 (by rw [DgAll.len dx, DgAll.len dy]; exact hl)), fun z nz => ?_⟩
    exact q _ _ ((s1.trans s2).trans (same_upd nz)) (mkL (hf _ (((s.trans s1).trans s2).free nz)) nz (DgAll.app dy dx))
theorem DgAll.rep {K : PySem.W.Frag} {fx H : Hp} {b : Bool} {xs : List V} {ds : List PyData} (h : DgAll K fx H b xs ds) : ∀ k : Nat, DgAll K fx H b (List.replicate k xs).flatten (List.replicate k ds).flatten
  | 0 => .nil
  | k + 1 => by
    rw [List.replicate_succ, List.replicate_succ, List.flatten_cons, List.flatten_cons]
    exact DgAll.app (DgAll.rep h k) h
theorem MkD.rep {K : PySem.W.Frag} {fx : Hp} {σ : L2.St} {H0 : Hp} {ta : TE} {ds : List PyData} {k : Nat} (h0 : ds ≠ []) (hl : ds.length ≤ 1000) (hk : k ≤ 1000) (a : MkD K fx ta σ H0 (.tuple ds)) : MkD K fx (tOp (rRepA K) ta (tC (.int (k : Int)))) σ H0 (.tuple (List.replicate k ds).flatten) := fun H s _ q =>
  a H s _ fun v H1 s1 h1 => by
    obtain ⟨p, xs, rfl, hp, dx⟩ := h1.tupI
    have lx := DgAll.len dx
    refine ⟨p, (k : Int), xs, rfl, rfl, hp, fun z => ?_, by omega, by omega, by omega, fun H2 r s2 h2 => q _ _ (s1.trans s2) (.tup h2 ?_)⟩
    · rw [z] at lx
      exact h0 (List.length_eq_zero_iff.mp lx.symm)
    · rw [Int.toNat_natCast]
      exact DgAll.rep (dx.sm s2) k
theorem MkD.tail {K : PySem.W.Frag} {fx : Hp} {σ : L2.St} {H0 : Hp} {ta : TE} {ds : List PyData} (a : MkD K fx ta σ H0 (.tuple ds)) : MkD K fx (tSl (rSlA K) ta (tPart (tC (.int 1))) tNoPart) σ H0 (.tuple (ds.drop 1)) := fun H s _ q =>
  a H s _ fun v H1 s1 h1 => by
    obtain ⟨p, xs, rfl, hp, dx⟩ := h1.tupI
    refine ⟨1, rfl, sl_any hp fun H2 r s2 h2 => q _ _ (s1.trans s2) (.tup h2 ?_)⟩
    rw [show cutV xs (some 1) none = xs.drop 1 from cut_from xs 1]
    exact DgAll.dr 1 (dx.sm s2)
theorem MkD.list {K : PySem.W.Frag} {fx : Hp} {σ : L2.St} {H0 : Hp} {ta : TE} {ds : List PyData} (hf : ∀ p, H0 p = none → fx p = none) (a : MkD K fx ta σ H0 (.tuple ds)) : MkD K fx (tCB (fun xs H Q => ∃ p ys, xs = [.ref p] ∧ (SqL K H p ys ∨ SqT K H p ys) ∧ ∀ l, H l = none → Q (.ref l) (upd H l (.lst ys))) (tCons ta tNil)) σ H0 (.list ds) := fun H s _ q =>
  a H s _ fun v H1 s1 h1 => by
    obtain ⟨p, xs, rfl, hp, dx⟩ := h1.tupI
    exact ⟨p, xs, rfl, .inr hp, fun l nl => q _ _ (s1.trans (same_upd nl)) (mkL (hf _ ((s.trans s1).free nl)) nl dx)⟩
theorem MkD.neg {K : PySem.W.Frag} {fx : Hp} {σ : L2.St} {H0 : Hp} {i : Int} : MkD K fx (tUn (rU fun i => .int (-i)) (tC (.int i))) σ H0 (.int (-i)) := fun H _ _ q => ⟨i, rfl, q _ H (Same.refl _) (.int _)⟩
theorem MkD.pow {K : PySem.W.Frag} {fx : Hp} {σ : L2.St} {H0 : Hp} {i j : Int} (h : CPow i j) : MkD K fx (tOp (rI CPow fun i j => .int (i ^ j.toNat)) (tC (.int i)) (tC (.int j))) σ H0 (.int (i ^ j.toNat)) := fun H _ _ q => ⟨i, j, rfl, rfl, h, q _ H (Same.refl _) (.int _)⟩
mutual
theorem Dg.kq {K : PySem.W.Frag} {fx : Hp} {H H' : Hp} (kt : TKeep K H H') (kb : ∀ b o, fx b = none → (∀ ps, o ≠ .tbl ps) → H b = some o → H' b = some o) : ∀ {b : Bool} {v : V} {d : PyData}, Dg K fx H b v d → Dg K fx H' b v d
  | _, _, _, .non => .non
  | _, _, _, .bl x => .bl x
  | _, _, _, .int i => .int i
  | _, _, _, .str x => .str x
  | _, _, _, .tup h q => .tup (kt _ _ h) (DgAll.kq kt kb q)
  | _, _, _, .lst n h q => .lst n (kb _ _ n lst_tbl h) (DgAll.kq kt kb q)
  | _, _, _, .dic0 n h => .dic0 n (kb _ _ n (fun ps z => by cases z) h)
  | _, _, _, .dic1 n h => .dic1 n (kb _ _ n (fun ps z => by cases z) h)
theorem DgAll.kq {K : PySem.W.Frag} {fx : Hp} {H H' : Hp} (kt : TKeep K H H') (kb : ∀ b o, fx b = none → (∀ ps, o ≠ .tbl ps) → H b = some o → H' b = some o) : ∀ {b : Bool} {v : List V} {d : List PyData}, DgAll K fx H b v d → DgAll K fx H' b v d
  | _, _, _, .nil => .nil
  | _, _, _, .cons h q => .cons (Dg.kq kt kb h) (DgAll.kq kt kb q)
end
theorem sx_some {st : Addr} {H : Hp} (hs : IsSx H st) : H st ≠ none := by
  obtain ⟨a, b, e, _⟩ := hs
  intro z
  rw [z] at e
  cases e
theorem Dg.gw {TS : List (Addr × Str)} {K : PySem.W.Frag} {fx : Hp} {st : Addr} {H H' : Hp} {b : Bool} {v : V} {d : PyData} (g : Gw TS st H H') (hs : IsSx H st) (hf : fx st ≠ none) (h : Dg K fx H b v d) : Dg K fx H' b v d := Dg.kq (g.tk hs) (fun b o hb z e => g.1 b o (fun y => hf (by rw [← y]; exact hb)) z e) h
theorem DgAll.gw {TS : List (Addr × Str)} {K : PySem.W.Frag} {fx : Hp} {st : Addr} {H H' : Hp} {b : Bool} {v : List V} {d : List PyData} (g : Gw TS st H H') (hs : IsSx H st) (hf : fx st ≠ none) (h : DgAll K fx H b v d) : DgAll K fx H' b v d := DgAll.kq (g.tk hs) (fun b o hb z e => g.1 b o (fun y => hf (by rw [← y]; exact hb)) z e) h
theorem Dg.gx {K : PySem.W.Frag} {fx : Hp} {st : Addr} {H H' : Hp} {b : Bool} {v : V} {d : PyData} (g : Gx st H H') (hs : IsSx H st) (hf : fx st ≠ none) (h : Dg K fx H b v d) : Dg K fx H' b v d := Dg.gw (TS := []) g.l hs hf h
theorem DgAll.gx {K : PySem.W.Frag} {fx : Hp} {st : Addr} {H H' : Hp} {b : Bool} {v : List V} {d : List PyData} (g : Gx st H H') (hs : IsSx H st) (hf : fx st ≠ none) (h : DgAll K fx H b v d) : DgAll K fx H' b v d := DgAll.gw (TS := []) g.l hs hf h

theorem Dg.rowI {K : PySem.W.Frag} {fx H : Hp} {b : Bool} {v : V} {r : RW} (h : Dg K fx H b v (rwD r)) : RowAt K H v r := by
  obtain ⟨a, xs, rfl, ha, da⟩ := Dg.tupI h
  cases da with
  | cons h1 t => cases h1.intI; cases t with
    | cons h2 t => cases h2.intI; cases t; exact ⟨a, rfl, ha⟩
theorem Dg.mvI {K : PySem.W.Frag} {fx H : Hp} {b : Bool} {v : V} {r : MV} (h : Dg K fx H b v (mvD r)) : MoveAt K H v r := by
  obtain ⟨a, xs, rfl, ha, da⟩ := Dg.tupI h
  cases da with
  | cons h1 t => cases h1.intI; cases t with
    | cons h2 t => cases h2.intI; cases t with
      | cons h3 t => cases h3.intI; cases t; exact ⟨a, rfl, ha⟩
theorem Dg.bkI {K : PySem.W.Frag} {fx H : Hp} {b : Bool} {v : V} {o : Option Int} (h : Dg K fx H b v (bkD o)) : v = bkV o := by
  cases o with
  | none => cases h; rfl
  | some i => exact Dg.intI h
theorem rows_of {K : PySem.W.Frag} {fx H : Hp} {b : Bool} : ∀ {rs : List RW} {us : List V}, DgAll K fx H b us (rs.map rwD) → Paired (RowAt K H) us rs
  | [], _, h => by cases h; exact .nil
  | r :: rs, _, h => by
    cases h with
    | cons h1 t => exact .cons h1.rowI (rows_of t)
theorem moves_of {K : PySem.W.Frag} {fx H : Hp} {b : Bool} : ∀ {rs : List MV} {us : List V}, DgAll K fx H b us (rs.map mvD) → Paired (MoveAt K H) us rs
  | [], _, h => by cases h; exact .nil
  | r :: rs, _, h => by
    cases h with
    | cons h1 t => exact .cons h1.mvI (moves_of t)
theorem Dg.lyI {K : PySem.W.Frag} {fx H : Hp} {b : Bool} {v : V} {l : LY} (h : Dg K fx H b v (lyD l)) : LyAt K H v l := by
  obtain ⟨a, xs, rfl, ha, da⟩ := Dg.tupI h
  cases da with
  | cons h1 t =>
    obtain ⟨p, us, rfl, hp, dp⟩ := Dg.tupI h1
    cases t with
    | cons h2 t => cases h2.bkI; cases t; exact ⟨a, _, rfl, ha, p, us, rfl, hp, rows_of dp⟩
theorem lyrs_of {K : PySem.W.Frag} {fx H : Hp} {b : Bool} : ∀ {rs : List LY} {us : List V}, DgAll K fx H b us (rs.map lyD) → Paired (LyAt K H) us rs
  | [], _, h => by cases h; exact .nil
  | r :: rs, _, h => by
    cases h with
    | cons h1 t => exact .cons h1.lyI (lyrs_of t)
theorem Dg.winI {K : PySem.W.Frag} {fx H : Hp} {b : Bool} {v : V} {x y : Int} {ms : List MV} (h : Dg K fx H b v (winD x y ms)) : WinAt K H v x y ms := by
  obtain ⟨a, xs, rfl, ha, da⟩ := Dg.tupI h
  cases da with
  | cons h1 t => cases h1.intI; cases t with
    | cons h2 t => cases h2.intI; cases t with
      | cons h3 t =>
        obtain ⟨p, us, rfl, hp, dp⟩ := Dg.tupI h3
        cases t
        exact ⟨a, _, rfl, ha, p, us, rfl, hp, moves_of dp⟩
theorem Dg.shI {K : PySem.W.Frag} {fx H : Hp} {b : Bool} {v : V} {ls : List LY} {x y : Int} {ms : List MV} (h : Dg K fx H b v (shD ls x y ms)) : ShAt K H v ls x y ms := by
  obtain ⟨a, xs, rfl, ha, da⟩ := Dg.tupI h
  cases da with
  | cons h1 t =>
    obtain ⟨p, us, rfl, hp, dp⟩ := Dg.tupI h1
    cases t with
    | cons h2 t => cases t; exact ⟨a, _, _, rfl, ha, ⟨p, us, rfl, hp, lyrs_of dp⟩, h2.winI⟩

def aok (i : Int) : Bool := (nT i).cps.toList.all fun c => decide (c < 128)
theorem aok_all : ∀ k : Nat, k < 45 → aok ((k : Int) - 20) = true := by decide +kernel
theorem uok_n {i : Int} (h : Sm i) : Uok (nT i) := by
  obtain ⟨h0, h1⟩ := h
  have e := aok_all (i + 20).toNat (by omega)
  rw [show (((i + 20).toNat : Nat) : Int) - 20 = i by omega] at e
  exact uok_asc fun c hc => of_decide_eq_true (List.all_eq_true.mp e c hc)
theorem uok_lit {z : Str} (h : z.cps.toList.all (fun c => decide (c < 128)) = true) : Uok z := uok_asc fun c hc => of_decide_eq_true (List.all_eq_true.mp h c hc)
theorem uok_mv {m : MV} (h : VMove m) : Uok (mvT m) := uok_join (uok_lit (by decide +kernel)) fun p hp => by
  obtain ⟨a, b, c⟩ := vm_sm h
  rcases mem3 hp with rfl | rfl | rfl
  · exact uok_n a
  · exact uok_n b
  · exact uok_n c
theorem uok_rw {r : RW} (h : VRow r) : Uok (rwT r) := uok_join (uok_lit (by decide +kernel)) fun p hp => by
  obtain ⟨a, b⟩ := vr_sm h
  rcases mem2 hp with rfl | rfl
  · exact uok_n a
  · exact uok_n b
theorem uok_win {x y : Int} {ms : List MV} (h : VWin x y ms) : Uok (winT x y ms) := uok_join (uok_lit (by decide +kernel)) fun p hp => by
  have sx : Sm x := ⟨by have := h.1; omega, by have := h.1; omega⟩
  have sy : Sm y := ⟨by have := h.2.1; omega, by have := h.2.1; omega⟩
  rcases List.mem_append.mp hp with z | z
  · rcases mem3 z with rfl | rfl | rfl
    · exact uok_lit (by decide +kernel)
    · exact uok_n sx
    · exact uok_n sy
  · obtain ⟨m, hm, rfl⟩ := List.mem_map.mp z
    exact uok_mv (h.2.2.2 m hm)
theorem uok_lay {l : LY} (h : VLy l) : Uok (layT l) := uok_join (uok_lit (by decide +kernel)) fun p hp => by
  rcases List.mem_append.mp hp with z | z
  · rcases mem2 z with rfl | rfl
    · exact uok_lit (by decide +kernel)
    · cases e : l.2 with
      | none => exact uok_lit (by decide +kernel)
      | some b => exact uok_n (vb_sm h e)
  · obtain ⟨r, hr, rfl⟩ := List.mem_map.mp z
    exact uok_rw (h.1.2 r hr)
theorem sh_ok {ls : List LY} {x y : Int} {ms : List MV} (hl : VLays ls) (hw : VWin x y ms) : (shT ls x y ms).length ≤ 721 ∧ Uok (shT ls x y ms) := by
  rw [shT_eq]
  refine ⟨?_, uok_app (uok_join (uok_lit (by decide +kernel)) fun p hp => ?_) (uok_lit (by decide +kernel))⟩
  · rw [strLen_append]
    have := lin_len hl hw
    show _ + 1 ≤ 721
    omega
  · rcases List.mem_append.mp hp with z | z
    · rw [List.mem_singleton.mp z]
      exact uok_win hw
    · obtain ⟨l, hm, rfl⟩ := List.mem_map.mp z
      exact uok_lay (hl.2.2 l hm)
section
variable {P : Program} {w : World} {K : PySem.W.Frag} {mg : Str → Option Value} {base : Heap}
def sp_law (K : PySem.W.Frag) (TS : List (Addr × Str)) : Sp := fun vs H Q _ => ∃ (a : Addr) (ns : List Int), vs = [.ref a] ∧ SqL K H a (ns.map V.int) ∧ ns.length ≤ 63 ∧ LamX.Tabs TS H ∧ ∀ H', Q (.bl true) H'
theorem ok_law {f g cc PP : Addr} {fd fdm : FuncData} {c : Nat → Addr} {LE : Addr} {TS : List (Addr × Str)} (F : FunC K "law" "law" s_law f fd cc) (T : Txt K mg) (TX : ExcN K mg c LE) (MR : Mkr base mg cc PP "law" TS) (Fm : Fun K "_law_met" "_law_met" s__law_met g fdm) (mm : mg "_law_met" = some (.ref g)) (bm : Binds K fdm ["_law_call"] []) (DE : ClE P w K mg base 1 "_law_classes" ["_law_e"] (spCls c)) (D__law_state : Cl P w K mg base 2 "_law_state" ["_law_script", "_law_k"] (sp__law_state K)) (D__law_sheet_text : Cl P w K mg base 1 "_law_sheet_text" ["_law_sheet_here"] (sp__law_sheet_text K)) (D__law_sheet : Cl P w K mg base 4 "_law_sheet" ["_law_state_here", "_law_layers", "_law_most", "_law_ended"] (sp__law_sheet K)) (D__law_take : Cl P w K mg base 1 "_law_take" ["_law_state_here", "_law_many"] (sp__law_take K)) (D__law_other : Cl P w K mg base 2 "_law_other" ["_law_state_here", "_law_text"] (sp__law_other K)) (D__law_read : Cl P w K mg base 4 "_law_read" ["_law_text"] (sp__law_read K)) (D_read_sheet : ClX P w K mg base 7 "read_sheet" ["text"] (sp_read_sheet K c)) : FnOk P w K mg base CX0 10 f fd ["_law_script"] (sp_law K TS) := by
  refine fun_okL F sc_law (fun vs H Q E h => ?_) (fun A outer s H vs Q E hr h => ?_)
  · obtain ⟨a, ns, rfl, _⟩ := h
    rfl
  · obtain ⟨a, ns, rfl, hS, hlen, hT0, q⟩ := h
    refine ⟨_, (pss_cons (ps_for PassesOwn.never rfl (pi_range1 (by rfl) T.b_range (pa_cons (pe_callB (call_max2 rfl) (by rfl) T.b_max (by decide +kernel) (pa_cons pe_int (pa_cons (pe_callB (call_min2 rfl) (by rfl) T.b_min (by decide +kernel) (pa_cons (pe_callB call_len_seq (by rfl) T.b_len (by decide +kernel) (pa_cons (pv 0) pa_nil)) (pa_cons pe_int pa_nil))) pa_nil))) pa_nil)) (pg_name (i := 1) sc_law.nd rfl (Or.inl rfl))
        (pss_cons (ps_set (i := 2) sc_law.nd rfl (Or.inl rfl) (pe_own D__law_state (hr.mono (by omega)) (by rfl) (pa_cons (pv 0) (pa_cons (pv 1) pa_nil))))
      (pss_cons (ps_set (i := 3) sc_law.nd rfl (Or.inl rfl) (pe_own D__law_sheet_text (hr.mono (by omega)) (by rfl) (pa_cons (pe_own D__law_sheet (hr.mono (by omega)) (by rfl) (pa_cons (pv 2) (pa_cons (pe_op op_add pe_int (pe_own D__law_take (hr.mono (by omega)) (by rfl) (pa_cons (pv 2) (pa_cons pe_int pa_nil)))) (pa_cons (pe_ix ix_list (pe_lst (pa_cons pe_int (pa_cons pe_int pa_nil))) (pe_own D__law_take (hr.mono (by omega)) (by rfl) (pa_cons (pv 2) (pa_cons pe_int pa_nil))) (fun _ _ => rfl)) (pa_cons pe_bl pa_nil))))) pa_nil)))
      (pss_cons (ps_for PassesOwn.never rfl (pi_range1 (by rfl) T.b_range (pa_cons pe_int pa_nil)) (pg_name (i := 4) sc_law.nd rfl (Or.inl rfl))
        (pss_cons (ps_set (i := 5) sc_law.nd rfl (Or.inr rfl) (pe_own D__law_other (hr.mono (by omega)) (by rfl) (pa_cons (pv 2) (pa_cons (pv 3) pa_nil))))
      (C8.pss_cut (ps_if (pt_cmpR op_eq (pe_own D__law_take (hr.mono (by omega)) (by rfl) (pa_cons (pv 2) (pa_cons pe_int pa_nil))) pe_int (nomark _)) (pss_one (ps_set (i := 5) sc_law.nd rfl (Or.inr rfl) (pe_own D__law_other (hr.mono (by omega)) (by rfl) (pa_cons (pv 2) (pa_cons (pv 5) pa_nil))))) pss_nil)
      (pss_cons (ps_set (i := 6) sc_law.nd rfl (Or.inl rfl) (pe_own D__law_read (hr.mono (by omega)) (by rfl) (pa_cons (pv 5) pa_nil)))
      (pss_one (ps_if (pt_cmpR (op_neD hr.units) (pe_met (k := 7) (met_mk Fm mm bm T TX DE (hr.mono (by omega))) (by rfl) MR.tb rfl MR.hm MR.hu (hr.mono (by omega)) (LamX.lamS_by (sc := defScope s_law) (by decide +kernel)) (fun A outer s H E f c' hr => (pe_ownX D_read_sheet (hr.mono (by omega)) (takes_of rfl rfl rfl rfl) (by rfl) (pa_cons (pv 5) pa_nil)))) (pe_ifExp (pt_cmpR op_isN (pv 6) pe_non (nomark _)) (pe_tup (pa_cons pe_str (pa_cons pe_int pa_nil))) (pe_tup (pa_cons pe_str (pa_cons (pv 6) pa_nil)))) (nomark _)) (pss_one (ps_ret pe_bl)) pss_nil))))))
      (pss_cons (ps_set (i := 7) sc_law.nd rfl (Or.inr rfl) (pe_ix ix_list (pe_lst (pa_cons pe_non (pa_cons pe_int (pa_cons pe_bl (pa_cons (pe_lst (pa_cons (pv 3) pa_nil)) (pa_cons (pe_tup (pa_cons (pv 3) pa_nil)) (pa_cons pe_dnewK (pa_cons (pe_tup (pa_cons (pe_tup (pa_cons (pe_tup (pa_cons (pe_tup pa_nil) (pa_cons pe_non pa_nil))) pa_nil)) (pa_cons (pe_tup (pa_cons pe_int (pa_cons pe_int (pa_cons (pe_tup pa_nil) pa_nil)))) pa_nil))) pa_nil)))))))) (pe_own D__law_take (hr.mono (by omega)) (by rfl) (pa_cons (pv 2) (pa_cons pe_int pa_nil))) (fun _ _ => rfl)))
      (pss_one (ps_if (pt_cmpR (op_neD hr.units) (pe_met (k := 7) (met_mk Fm mm bm T TX DE (hr.mono (by omega))) (by rfl) MR.tb rfl MR.hm MR.hu (hr.mono (by omega)) (LamX.lamS_by (sc := defScope s_law) (by decide +kernel)) (fun A outer s H E f c' hr => (pe_ownX D_read_sheet (hr.mono (by omega)) (takes_of rfl rfl rfl rfl) (by rfl) (pa_cons (pv 7) pa_nil)))) (pe_tup (pa_cons pe_str (pa_cons pe_int pa_nil))) (nomark _)) (pss_one (ps_ret pe_bl)) pss_nil)))))))
      (pss_one (ps_ret pe_bl))), ?_⟩
    obtain ⟨c, c0, c1, ec⟩ : ∃ c : Int, 0 ≤ c ∧ c ≤ 2 ∧ (if (if (2 : Int) < ((ns.map V.int).length : Int) then (2 : Int) else ((ns.map V.int).length : Int)) > 1 then (if (2 : Int) < ((ns.map V.int).length : Int) then (2 : Int) else ((ns.map V.int).length : Int)) else (1 : Int)) = c := by
      refine ⟨_, ?_, ?_, rfl⟩ <;> (repeat' split) <;> omega
    refine ⟨_, rfl, a, _, rfl, .inl hS, _, _, rfl, _, _, rfl, c, ?_, by omega, by omega, ?_⟩
    · rw [ec]
    refine for_range (lo := 0) (n := c.toNat) (fun i σ H' => Go TS H H' ∧ ∃ y1 y2 y3 y4 y5 y6 y7, σ = [some (.ref a), y1, y2, y3, y4, y5, y6, y7])
      ⟨⟨LamX.ExtN.refl _, hT0⟩, none, none, none, none, none, none, none, rfl⟩ ?_ (fun _ H' _ => q H')
    rintro i σ H0 hi ⟨o0, y1, y2, y3, y4, y5, y6, y7, rfl⟩
    refine ⟨_, rfl, _, rfl, a, ns, _, rfl, o0.sqL hS, by omega, fun H1 st s1 n1 hs1 => ?_⟩
    refine ⟨_, rfl, _, rfl, st, 4, rfl, hs1, by decide, by decide, fun r3 H3 a3 b3 g3 => ⟨_, _, rfl, rfl, ?_⟩⟩
    have hs3 := g3.2.1 hs1
    refine ⟨(by show 2 ≤ sizeLine; decide), fun p5 np5 => ?_⟩
    obtain ⟨s5, e5⟩ := new_at (.lst [.int 2, .int 8]) np5
    have np5' := sx_ne hs3 np5
    generalize upd H3 p5 (.lst [.int 2, .int 8]) = H5 at s5 e5 ⊢
    have g35 := g3.trans (gx_same (st := st) s5)
    refine ⟨_, rfl, st, 2, rfl, g35.2.1 hs1, by decide, by decide, fun r6 H6 a6 b6 g6 => ?_⟩
    have g36 := g35.trans g6
    obtain ⟨m6, m60, m61, e6⟩ : ∃ m : Int, 0 < m ∧ m ≤ 8 ∧ atI [V.int 2, .int 8] r6 = some (.int m) := by
      rcases (by omega : r6 = 0 ∨ r6 = 1) with e | e <;> subst e
      · exact ⟨2, by omega, by omega, rfl⟩
      · exact ⟨8, by omega, by omega, rfl⟩
    refine ⟨p5, _, _, _, rfl, rfl, .inl (.inl (g6.1 _ _ np5' lst_tbl e5)), e6, ?_⟩
    refine ⟨st, 1 + r3, m6, false, rfl, g36.2.1 hs1, by omega, by omega, by omega, by omega, fun v ls x y ms H8 g8 h8 vL vw _ _ _ _ => ?_⟩
    refine ⟨v, ls, x, y, ms, rfl, h8, vL, vw, fun H9 s9 => ?_⟩
    obtain ⟨lz, uz⟩ := sh_ok vL vw
    generalize shT ls x y ms = z at lz uz ⊢
    have gB := ((g36.trans g8).trans (gx_same (st := st) s9)).l (TS := TS)
    have hsB := gB.2.1 hs1
    have hT9 := gB.2.2 (o0.t.ext s1)
    clear g36 g8 g35 g3 g6 s5 e5 h8 vL vw s9
    refine ⟨24, rfl, by decide, by decide, ?_⟩
    refine for_range (lo := 0) (n := 24) (fun l σ H' => Gw TS st H9 H' ∧ ∃ y4 y5 y6, σ = [some (.ref a), some (.int (0 + (i : Int))), some (.ref st), some (.str z), y4, y5, y6, y7])
      ⟨Gw.refl, _, _, _, rfl⟩ ?_ ?_
    · rintro l σ Ha hl ⟨ga, u4, u5, u6, rfl⟩
      have hsa := ga.2.1 hsB
      refine ⟨_, rfl, _, rfl, st, z, rfl, hsa, by omega, uz, fun z1 H2 g2 l1 u1 => ?_⟩
      have hs2 := g2.2.1 hsa
      refine ⟨fun σ' H' => Gx st H2 H' ∧ ∃ (z2 : Str), σ' = [some (.ref a), some (.int (0 + (i : Int))), some (.ref st), some (.str z), some (.int (0 + (l : Int))), some (.str z2), u6, y7] ∧ z2.length ≤ 8000 ∧ Uok z2, ?_, ?_⟩
      · refine ⟨_, rfl, st, 4, rfl, hs2, by decide, by decide, fun r3 H3 a3 b3 g3 => ⟨rfl, _, rfl, ite2 (fun e => ?_) (fun e => ?_)⟩⟩
        · exact ⟨_, rfl, _, rfl, st, z1, rfl, g3.2.1 hs2, by omega, u1, fun z2 H4 g4 l2 u2 => ⟨g3.trans g4, z2, rfl, by omega, u2⟩⟩
        · exact ⟨g3, z1, rfl, by omega, u1⟩
      rintro σ H3 ⟨g3, z2, rfl, l2, u2⟩
      have g93 : Gw TS st H9 H3 := ga.trans ((g2.trans g3).l)
      have hs3 := g93.2.1 hsB
      rcases read_rel z2 with ⟨ls, x, y, ms, r1, r2, r3, vL, vw⟩ | ⟨r1, r2⟩
      · refine ⟨_, rfl, z2, rfl, l2, u2, fun hn => absurd (r2.symm.trans hn) (fun h => nomatch h), fun ls' x' y' ms' hn H4 v s4 hv => ?_⟩
        rw [r2] at hn
        cases hn
        have g94 := g93.trans (gw_same (TS := TS) s4)
        have hs4 := g94.2.1 hsB
        refine ⟨g94.2.2 hT9, fun Hb eb tb => ?_⟩
        have g4b := gw_ext (st := st) eb tb
        refine ⟨_, rfl, .str z2, rfl, .inl ⟨z2, rfl, l2, fun _ Hc u sc hu => ?_, fun h => absurd (r1.symm.trans h) (fun h => nomatch h)⟩⟩
        rw [r3] at hu
        have hu' := Dg.shI hu
        refine ⟨(by show 2 ≤ sizeLine; decide), fun p np => ?_⟩
        obtain ⟨sp', ep⟩ := new_at (.tup [.str "told", u]) np
        generalize upd Hc p (.tup [.str "told", u]) = Hd at sp' ep ⊢
        have hu2 := hu'.keep (Same.tk sp')
        have g4d := g4b.trans (gw_same (TS := TS) (sc.trans sp'))
        have hvd := hv.keep (g4d.tk hs4)
        have nn : v ≠ .non := by
          obtain ⟨pv', _, _, e, _⟩ := hv
          rw [e]
          exact fun h => nomatch h
        refine ⟨_, rfl, rfl, _, rfl, ifN (decide_eq_false nn) ?_⟩
        refine ⟨_, rfl, (by show 2 ≤ sizeLine; decide), fun p2 np2 => ?_⟩
        have s7 := same_upd (o := .tup [.str "told", v]) np2
        exact ne_eqd (told_dp (.inl (.inl (s7 _ _ ep))) (hu2.keep (Same.tk s7)).dp) (told_dp (.inl (.inl upd_same)) (hvd.keep (Same.tk s7)).dp) ⟨_, sd_told (sd_sh _ _ _ _), by decide⟩ ⟨_, rfl, iteF ⟨(g94.trans g4d).trans (gw_same s7), _, _, _, rfl⟩⟩
      · refine ⟨_, rfl, z2, rfl, l2, u2, fun _ H4 s4 => ?_, fun ls' x' y' ms' hn => absurd (r2.symm.trans hn) (fun h => nomatch h)⟩
        have g94 := g93.trans (gw_same (TS := TS) s4)
        refine ⟨g94.2.2 hT9, fun Hb eb tb => ?_⟩
        have g9b := g94.trans (gw_ext (st := st) eb tb)
        refine ⟨_, rfl, .str z2, rfl, .inl ⟨z2, rfl, l2, fun h => absurd (r1.symm.trans h) (fun h => nomatch h), fun _ Hc sc => ?_⟩⟩
        refine ⟨12, by decide, rfl, fun dd e => (nomatch e), fun _ Hf p sf np ep => ?_, fun z => absurd z (by decide), fun z => absurd z (by decide)⟩
        refine ⟨_, rfl, rfl, _, rfl, ifY (decide_eq_true rfl) ?_⟩
        refine ⟨(by show 2 ≤ sizeLine; decide), fun p5 np5 => ?_⟩
        have s5 := same_upd (o := .tup [.str "refused", .int 12]) np5
        exact ne_eqd (ref_dp (.inl (.inl (s5 _ _ ep)))) (ref_dp (.inl (.inl upd_same))) ⟨_, sd_ref _, by decide⟩ ⟨_, rfl, iteF ⟨g9b.trans (gw_same (TS := TS) ((sc.trans sf).trans s5)), _, _, _, rfl⟩⟩
    rintro σ Ha ⟨ga, u4, u5, u6, rfl⟩
    have hsa := ga.2.1 hsB
    have g0 := ga
    refine ⟨_, rfl, (by show 1 ≤ sizeLine; decide), fun q1 m1 => ?_⟩
    have n1' := sx_ne hsa m1
    obtain ⟨t1, f1⟩ := new_at (.lst [.str z]) m1
    generalize upd Ha q1 (.lst [.str z]) = J1 at t1 f1 ⊢
    refine ⟨_, rfl, (by show 1 ≤ sizeLine; decide), fun q2 m2 => ?_⟩
    obtain ⟨t2, f2⟩ := new_at (.tup [.str z]) m2
    generalize upd J1 q2 (.tup [.str z]) = J2 at t2 f2 ⊢
    refine fun q3 m3 => ?_
    have hsj2 := ((gx_same (st := st) (t1.trans t2)).2.1 hsa)
    have n3' := sx_ne hsj2 m3
    obtain ⟨t3, f3⟩ := new_at (.dK []) m3
    generalize upd J2 q3 (.dK []) = J3 at t3 f3 ⊢
    refine ⟨Nat.zero_le _, fun q4 m4 => ?_⟩
    obtain ⟨t4, f4⟩ := new_at (.tup []) m4
    generalize upd J3 q4 (.tup []) = J4 at t4 f4 ⊢
    refine ⟨(by show 2 ≤ sizeLine; decide), fun q5 m5 => ?_⟩
    obtain ⟨t5, f5⟩ := new_at (.tup [.ref q4, .non]) m5
    generalize upd J4 q5 (.tup [.ref q4, .non]) = J5 at t5 f5 ⊢
    refine ⟨(by show 1 ≤ sizeLine; decide), fun q6 m6 => ?_⟩
    obtain ⟨t6, f6⟩ := new_at (.tup [.ref q5]) m6
    generalize upd J5 q6 (.tup [.ref q5]) = J6 at t6 f6 ⊢
    refine ⟨Nat.zero_le _, fun q7 m7 => ?_⟩
    obtain ⟨t7, f7⟩ := new_at (.tup []) m7
    generalize upd J6 q7 (.tup []) = J7 at t7 f7 ⊢
    refine ⟨(by show 3 ≤ sizeLine; decide), fun q8 m8 => ?_⟩
    obtain ⟨t8, f8⟩ := new_at (.tup [.int 0, .int 0, .ref q7]) m8
    generalize upd J7 q8 (.tup [.int 0, .int 0, .ref q7]) = J8 at t8 f8 ⊢
    refine ⟨(by show 2 ≤ sizeLine; decide), fun q9 m9 => ?_⟩
    obtain ⟨t9, f9⟩ := new_at (.tup [.ref q6, .ref q8]) m9
    generalize upd J8 q9 (.tup [.ref q6, .ref q8]) = J9 at t9 f9 ⊢
    have t19 := ((((((((t1.trans t2).trans t3).trans t4).trans t5).trans t6).trans t7).trans t8).trans t9)
    have hs19 := (gx_same (st := st) t19).2.1 hsa
    refine ⟨(by show 7 ≤ sizeLine; decide), fun q10 m10 => ?_⟩
    have n10' := sx_ne hs19 m10
    obtain ⟨t10, f10⟩ := new_at (.lst [.non, .int 0, .bl true, .ref q1, .ref q2, .ref q3, .ref q9]) m10
    generalize upd J9 q10 (.lst [.non, .int 0, .bl true, .ref q1, .ref q2, .ref q3, .ref q9]) = J10 at t10 f10 ⊢
    have g10 := gx_same (st := st) (t19.trans t10)
    have hs10 := g10.2.1 hsa
    refine ⟨_, rfl, st, 7, rfl, hs10, by decide, by decide, fun r Hx a11 b11 g11 => ?_⟩
    obtain ⟨v, hv, mv⟩ := at_int (xs := [V.non, .int 0, .bl true, .ref q1, .ref q2, .ref q3, .ref q9]) (r := r) a11 b11
    refine ⟨q10, _, r, v, rfl, rfl, .inl (.inl (g11.1 _ _ n10' lst_tbl f10)), hv, ?_⟩
    have g9x : Gw TS st H9 Hx := ga.trans ((g10.trans g11).l)
    refine ⟨g9x.2.2 hT9, fun Hb eb tb => ?_⟩
    have gxb := gw_ext (st := st) (TS := TS) eb tb
    have gJb : Gw TS st J10 Hb := (g11.l).trans gxb
    have kT : TKeep K J10 Hb := gJb.tk hs10
    have bad : ∃ (b : Bool) (d : PyData), Dg K (fun _ => none) Hb b v d ∧ isS d = false := by
      have mv' : v = .non ∨ v = .int 0 ∨ v = .bl true ∨ v = .ref q1 ∨ v = .ref q2 ∨ v = .ref q3 ∨ v = .ref q9 := by simpa using mv
      have sq : ∀ {q : Addr} {xs : List V} {J : Hp}, Same J J10 → J q = some (.tup xs) → SqT K Hb q xs := fun sj e => kT _ _ (.inl (.inl (sj _ _ e)))
      have w9 := t10
      have w8 := t9.trans w9
      have w7 := t8.trans w8
      have w6 := t7.trans w7
      have w5 := t6.trans w6
      have w4 := t5.trans w5
      have w3 := t4.trans w4
      have w2 := t3.trans w3
      have w1 := t2.trans w2
      rcases mv' with rfl | rfl | rfl | rfl | rfl | rfl | rfl
      · exact ⟨true, _, .non, rfl⟩
      · exact ⟨true, _, .int 0, rfl⟩
      · exact ⟨true, _, .bl true, rfl⟩
      · exact ⟨true, _, .lst rfl (gJb.1 _ _ n1' lst_tbl (w1 _ _ f1)) (.cons (.str z) .nil), rfl⟩
      · exact ⟨true, _, .tup (sq w2 f2) (.cons (.str z) .nil), rfl⟩
      · exact ⟨false, _, .dic0 rfl (gJb.1 _ _ n3' (fun ps z => by cases z) (w3 _ _ f3)), rfl⟩
      · exact ⟨true, _, .tup (sq w9 f9) (.cons (.tup (sq w6 f6) (.cons (.tup (sq w5 f5) (.cons (.tup (sq w4 f4) .nil) (.cons .non .nil))) .nil)) (.cons (.tup (sq w8 f8) (.cons (.int 0) (.cons (.int 0) (.cons (.tup (sq w7 f7) .nil) .nil)))) .nil)), rfl⟩
    obtain ⟨bb, d, hd, hn⟩ := bad
    refine ⟨_, rfl, v, rfl, .inr ⟨_, bb, d, hd, hn, fun Hc sc => ?_⟩⟩
    refine ⟨12, by decide, rfl, fun dd e => (nomatch e), fun _ Hf p sf np ep => ?_, fun z => absurd z (by decide), fun z => absurd z (by decide)⟩
    refine ⟨(by show 2 ≤ sizeLine; decide), fun p5 np5 => ?_⟩
    have s5 := same_upd (o := .tup [.str "refused", .int 12]) np5
    exact ne_eqd (ref_dp (.inl (.inl (s5 _ _ ep)))) (ref_dp (.inl (.inl upd_same))) ⟨_, sd_ref _, by decide⟩ ⟨_, rfl, iteF ⟨((gB.trans g9x).trans (gxb.trans (gw_same (TS := TS) ((sc.trans sf).trans s5)))).go o0 s1 n1, _, _, _, _, _, _, _, rfl⟩⟩
end

theorem all_mk {l : PySem.W.OpenLaw} {w : World} {K : PySem.W.Frag} {h : Heap} {mg : Str → Option Value} {fa : Addr} {q : Program} (X : K.In h) (G : h.Ns mainGlobals mg) (hfa : mg "law" = some (.ref fa)) (TQ : TabsIn q K h)
    {f0 f1 f2 f3 f4 f5 f6 f7 f8 f9 f10 f11 f12 f13 f14 f15 f16 f17 f18 f19 f20 f21 f22 f23 f24 f25 f26 f27 f28 f29 f30 f31 f32 f33 f34 C0 C1 C2 C3 C4 C5 C6 C7 C8 C9 C10 C11 C12 C13 C14 C15 LE cc34 PP34 : Addr} {od0 an0 od1 an1 od2 an2 od3 an3 od4 an4 od5 an5 od6 an6 od7 an7 od8 an8 od9 an9 od10 an10 od11 an11 od12 an12 od13 an13 od14 an14 od15 an15 od16 an16 od17 an17 od18 an18 od19 an19 od20 an20 od21 an21 od22 an22 od23 an23 od24 an24 od25 an25 od26 an26 od27 an27 od28 an28 od29 an29 od30 an30 od31 an31 od32 an32 od33 an33 od34 an34 dc_34 : Option Addr} {sl0 sl1 sl2 sl3 sl4 sl5 sl6 sl7 sl8 sl9 sl10 sl11 sl12 sl13 sl14 sl15 sl16 sl17 sl18 sl19 sl20 sl21 sl22 sl23 sl24 sl25 sl26 sl27 sl28 sl29 sl30 sl31 sl32 sl33 sl34 slc34 : Array (Option Value)} {oc0 kV0 dc0 pm0 ct0 cd0 oc1 kV1 dc1 pm1 ct1 cd1 oc2 kV2 dc2 pm2 ct2 cd2 oc3 kV3 dc3 pm3 ct3 cd3 oc4 kV4 dc4 pm4 ct4 cd4 oc5 kV5 dc5 pm5 ct5 cd5 oc6 kV6 dc6 pm6 ct6 cd6 oc7 kV7 dc7 pm7 ct7 cd7 oc8 kV8 dc8 pm8 ct8 cd8 oc9 kV9 dc9 pm9 ct9 cd9 oc10 kV10 dc10 pm10 ct10 cd10 oc11 kV11 dc11 pm11 ct11 cd11 oc12 kV12 dc12 pm12 ct12 cd12 oc13 kV13 dc13 pm13 ct13 cd13 oc14 kV14 dc14 pm14 ct14 cd14 oc15 kV15 dc15 pm15 ct15 cd15 oc16 kV16 dc16 pm16 ct16 cd16 oc17 kV17 dc17 pm17 ct17 cd17 oc18 kV18 dc18 pm18 ct18 cd18 oc19 kV19 dc19 pm19 ct19 cd19 oc20 kV20 dc20 pm20 ct20 cd20 oc21 kV21 dc21 pm21 ct21 cd21 oc22 kV22 dc22 pm22 ct22 cd22 oc23 kV23 dc23 pm23 ct23 cd23 oc24 kV24 dc24 pm24 ct24 cd24 oc25 kV25 dc25 pm25 ct25 cd25 oc26 kV26 dc26 pm26 ct26 cd26 oc27 kV27 dc27 pm27 ct27 cd27 oc28 kV28 dc28 pm28 ct28 cd28 oc29 kV29 dc29 pm29 ct29 cd29 oc30 kV30 dc30 pm30 ct30 cd30 oc31 kV31 dc31 pm31 ct31 cd31 oc32 kV32 dc32 pm32 ct32 cd32 oc33 kV33 dc33 pm33 ct33 cd33 oc34 kV34 dc34 pm34 ct34 ec34 : Value} {vc34 : Array Value} {t0 t1 t2 t3 t4 t5 t6 t7 : Tok}
    (a0 : PySem.W.nsIn K mainGlobals "_law_met" = some (some (.ref f0))) (l0 : K.lookup f0 = some ⟨oc0, od0, .func (PySem.W.fnOf "_law_met" "_law_met" (defArgs s__law_met) (defBody s__law_met) (defScope s__law_met) .none kV0 dc0 pm0 an0 cd0 ct0), sl0⟩) (c0 : PySem.W.codeIn K cd0 "_law_met" = true) (k0 : PySem.W.keepIn K (.ref f0) = true)
    (a1 : PySem.W.nsIn K mainGlobals "_law_classes" = some (some (.ref f1))) (l1 : K.lookup f1 = some ⟨oc1, od1, .func (PySem.W.fnOf "_law_classes" "_law_classes" (defArgs s__law_classes) (defBody s__law_classes) (defScope s__law_classes) .none kV1 dc1 pm1 an1 cd1 ct1), sl1⟩) (c1 : PySem.W.codeIn K cd1 "_law_classes" = true) (k1 : PySem.W.keepIn K (.ref f1) = true)
    (a2 : PySem.W.nsIn K mainGlobals "is_whole_from" = some (some (.ref f2))) (l2 : K.lookup f2 = some ⟨oc2, od2, .func (PySem.W.fnOf "is_whole_from" "is_whole_from" (defArgs s_is_whole_from) (defBody s_is_whole_from) (defScope s_is_whole_from) .none kV2 dc2 pm2 an2 cd2 ct2), sl2⟩) (c2 : PySem.W.codeIn K cd2 "is_whole_from" = true) (k2 : PySem.W.keepIn K (.ref f2) = true)
    (a3 : PySem.W.nsIn K mainGlobals "is_whole" = some (some (.ref f3))) (l3 : K.lookup f3 = some ⟨oc3, od3, .func (PySem.W.fnOf "is_whole" "is_whole" (defArgs s_is_whole) (defBody s_is_whole) (defScope s_is_whole) .none kV3 dc3 pm3 an3 cd3 ct3), sl3⟩) (c3 : PySem.W.codeIn K cd3 "is_whole" = true) (k3 : PySem.W.keepIn K (.ref f3) = true)
    (a4 : PySem.W.nsIn K mainGlobals "is_tuple" = some (some (.ref f4))) (l4 : K.lookup f4 = some ⟨oc4, od4, .func (PySem.W.fnOf "is_tuple" "is_tuple" (defArgs s_is_tuple) (defBody s_is_tuple) (defScope s_is_tuple) .none kV4 dc4 pm4 an4 cd4 ct4), sl4⟩) (c4 : PySem.W.codeIn K cd4 "is_tuple" = true) (k4 : PySem.W.keepIn K (.ref f4) = true)
    (a5 : PySem.W.nsIn K mainGlobals "is_drawing" = some (some (.ref f5))) (l5 : K.lookup f5 = some ⟨oc5, od5, .func (PySem.W.fnOf "is_drawing" "is_drawing" (defArgs s_is_drawing) (defBody s_is_drawing) (defScope s_is_drawing) .none kV5 dc5 pm5 an5 cd5 ct5), sl5⟩) (c5 : PySem.W.codeIn K cd5 "is_drawing" = true) (k5 : PySem.W.keepIn K (.ref f5) = true)
    (a6 : PySem.W.nsIn K mainGlobals "is_hold" = some (some (.ref f6))) (l6 : K.lookup f6 = some ⟨oc6, od6, .func (PySem.W.fnOf "is_hold" "is_hold" (defArgs s_is_hold) (defBody s_is_hold) (defScope s_is_hold) .none kV6 dc6 pm6 an6 cd6 ct6), sl6⟩) (c6 : PySem.W.codeIn K cd6 "is_hold" = true) (k6 : PySem.W.keepIn K (.ref f6) = true)
    (a7 : PySem.W.nsIn K mainGlobals "is_row" = some (some (.ref f7))) (l7 : K.lookup f7 = some ⟨oc7, od7, .func (PySem.W.fnOf "is_row" "is_row" (defArgs s_is_row) (defBody s_is_row) (defScope s_is_row) .none kV7 dc7 pm7 an7 cd7 ct7), sl7⟩) (c7 : PySem.W.codeIn K cd7 "is_row" = true) (k7 : PySem.W.keepIn K (.ref f7) = true)
    (a8 : PySem.W.nsIn K mainGlobals "is_layer" = some (some (.ref f8))) (l8 : K.lookup f8 = some ⟨oc8, od8, .func (PySem.W.fnOf "is_layer" "is_layer" (defArgs s_is_layer) (defBody s_is_layer) (defScope s_is_layer) .none kV8 dc8 pm8 an8 cd8 ct8), sl8⟩) (c8 : PySem.W.codeIn K cd8 "is_layer" = true) (k8 : PySem.W.keepIn K (.ref f8) = true)
    (a9 : PySem.W.nsIn K mainGlobals "is_way" = some (some (.ref f9))) (l9 : K.lookup f9 = some ⟨oc9, od9, .func (PySem.W.fnOf "is_way" "is_way" (defArgs s_is_way) (defBody s_is_way) (defScope s_is_way) .none kV9 dc9 pm9 an9 cd9 ct9), sl9⟩) (c9 : PySem.W.codeIn K cd9 "is_way" = true) (k9 : PySem.W.keepIn K (.ref f9) = true)
    (a10 : PySem.W.nsIn K mainGlobals "is_many" = some (some (.ref f10))) (l10 : K.lookup f10 = some ⟨oc10, od10, .func (PySem.W.fnOf "is_many" "is_many" (defArgs s_is_many) (defBody s_is_many) (defScope s_is_many) .none kV10 dc10 pm10 an10 cd10 ct10), sl10⟩) (c10 : PySem.W.codeIn K cd10 "is_many" = true) (k10 : PySem.W.keepIn K (.ref f10) = true)
    (a11 : PySem.W.nsIn K mainGlobals "is_move" = some (some (.ref f11))) (l11 : K.lookup f11 = some ⟨oc11, od11, .func (PySem.W.fnOf "is_move" "is_move" (defArgs s_is_move) (defBody s_is_move) (defScope s_is_move) .none kV11 dc11 pm11 an11 cd11 ct11), sl11⟩) (c11 : PySem.W.codeIn K cd11 "is_move" = true) (k11 : PySem.W.keepIn K (.ref f11) = true)
    (a12 : PySem.W.nsIn K mainGlobals "is_window" = some (some (.ref f12))) (l12 : K.lookup f12 = some ⟨oc12, od12, .func (PySem.W.fnOf "is_window" "is_window" (defArgs s_is_window) (defBody s_is_window) (defScope s_is_window) .none kV12 dc12 pm12 an12 cd12 ct12), sl12⟩) (c12 : PySem.W.codeIn K cd12 "is_window" = true) (k12 : PySem.W.keepIn K (.ref f12) = true)
    (a13 : PySem.W.nsIn K mainGlobals "is_sheet" = some (some (.ref f13))) (l13 : K.lookup f13 = some ⟨oc13, od13, .func (PySem.W.fnOf "is_sheet" "is_sheet" (defArgs s_is_sheet) (defBody s_is_sheet) (defScope s_is_sheet) .none kV13 dc13 pm13 an13 cd13 ct13), sl13⟩) (c13 : PySem.W.codeIn K cd13 "is_sheet" = true) (k13 : PySem.W.keepIn K (.ref f13) = true)
    (a14 : PySem.W.nsIn K mainGlobals "writes_number" = some (some (.ref f14))) (l14 : K.lookup f14 = some ⟨oc14, od14, .func (PySem.W.fnOf "writes_number" "writes_number" (defArgs s_writes_number) (defBody s_writes_number) (defScope s_writes_number) .none kV14 dc14 pm14 an14 cd14 ct14), sl14⟩) (c14 : PySem.W.codeIn K cd14 "writes_number" = true) (k14 : PySem.W.keepIn K (.ref f14) = true)
    (a15 : PySem.W.nsIn K mainGlobals "number_in" = some (some (.ref f15))) (l15 : K.lookup f15 = some ⟨oc15, od15, .func (PySem.W.fnOf "number_in" "number_in" (defArgs s_number_in) (defBody s_number_in) (defScope s_number_in) .none kV15 dc15 pm15 an15 cd15 ct15), sl15⟩) (c15 : PySem.W.codeIn K cd15 "number_in" = true) (k15 : PySem.W.keepIn K (.ref f15) = true)
    (a16 : PySem.W.nsIn K mainGlobals "numbers_in" = some (some (.ref f16))) (l16 : K.lookup f16 = some ⟨oc16, od16, .func (PySem.W.fnOf "numbers_in" "numbers_in" (defArgs s_numbers_in) (defBody s_numbers_in) (defScope s_numbers_in) .none kV16 dc16 pm16 an16 cd16 ct16), sl16⟩) (c16 : PySem.W.codeIn K cd16 "numbers_in" = true) (k16 : PySem.W.keepIn K (.ref f16) = true)
    (a17 : PySem.W.nsIn K mainGlobals "window_in" = some (some (.ref f17))) (l17 : K.lookup f17 = some ⟨oc17, od17, .func (PySem.W.fnOf "window_in" "window_in" (defArgs s_window_in) (defBody s_window_in) (defScope s_window_in) .none kV17 dc17 pm17 an17 cd17 ct17), sl17⟩) (c17 : PySem.W.codeIn K cd17 "window_in" = true) (k17 : PySem.W.keepIn K (.ref f17) = true)
    (a18 : PySem.W.nsIn K mainGlobals "layer_in" = some (some (.ref f18))) (l18 : K.lookup f18 = some ⟨oc18, od18, .func (PySem.W.fnOf "layer_in" "layer_in" (defArgs s_layer_in) (defBody s_layer_in) (defScope s_layer_in) .none kV18 dc18 pm18 an18 cd18 ct18), sl18⟩) (c18 : PySem.W.codeIn K cd18 "layer_in" = true) (k18 : PySem.W.keepIn K (.ref f18) = true)
    (a19 : PySem.W.nsIn K mainGlobals "sheet_in" = some (some (.ref f19))) (l19 : K.lookup f19 = some ⟨oc19, od19, .func (PySem.W.fnOf "sheet_in" "sheet_in" (defArgs s_sheet_in) (defBody s_sheet_in) (defScope s_sheet_in) .none kV19 dc19 pm19 an19 cd19 ct19), sl19⟩) (c19 : PySem.W.codeIn K cd19 "sheet_in" = true) (k19 : PySem.W.keepIn K (.ref f19) = true)
    (a20 : PySem.W.nsIn K mainGlobals "read_sheet" = some (some (.ref f20))) (l20 : K.lookup f20 = some ⟨oc20, od20, .func (PySem.W.fnOf "read_sheet" "read_sheet" (defArgs s_read_sheet) (defBody s_read_sheet) (defScope s_read_sheet) .none kV20 dc20 pm20 an20 cd20 ct20), sl20⟩) (c20 : PySem.W.codeIn K cd20 "read_sheet" = true) (k20 : PySem.W.keepIn K (.ref f20) = true)
    (a21 : PySem.W.nsIn K mainGlobals "_law_cell_at" = some (some (.ref f21))) (l21 : K.lookup f21 = some ⟨oc21, od21, .func (PySem.W.fnOf "_law_cell_at" "_law_cell_at" (defArgs s__law_cell_at) (defBody s__law_cell_at) (defScope s__law_cell_at) .none kV21 dc21 pm21 an21 cd21 ct21), sl21⟩) (c21 : PySem.W.codeIn K cd21 "_law_cell_at" = true) (k21 : PySem.W.keepIn K (.ref f21) = true)
    (a22 : PySem.W.nsIn K mainGlobals "_law_state" = some (some (.ref f22))) (l22 : K.lookup f22 = some ⟨oc22, od22, .func (PySem.W.fnOf "_law_state" "_law_state" (defArgs s__law_state) (defBody s__law_state) (defScope s__law_state) .none kV22 dc22 pm22 an22 cd22 ct22), sl22⟩) (c22 : PySem.W.codeIn K cd22 "_law_state" = true) (k22 : PySem.W.keepIn K (.ref f22) = true)
    (a23 : PySem.W.nsIn K mainGlobals "_law_take" = some (some (.ref f23))) (l23 : K.lookup f23 = some ⟨oc23, od23, .func (PySem.W.fnOf "_law_take" "_law_take" (defArgs s__law_take) (defBody s__law_take) (defScope s__law_take) .none kV23 dc23 pm23 an23 cd23 ct23), sl23⟩) (c23 : PySem.W.codeIn K cd23 "_law_take" = true) (k23 : PySem.W.keepIn K (.ref f23) = true)
    (a24 : PySem.W.nsIn K mainGlobals "_law_row" = some (some (.ref f24))) (l24 : K.lookup f24 = some ⟨oc24, od24, .func (PySem.W.fnOf "_law_row" "_law_row" (defArgs s__law_row) (defBody s__law_row) (defScope s__law_row) .none kV24 dc24 pm24 an24 cd24 ct24), sl24⟩) (c24 : PySem.W.codeIn K cd24 "_law_row" = true) (k24 : PySem.W.keepIn K (.ref f24) = true)
    (a25 : PySem.W.nsIn K mainGlobals "_law_layer" = some (some (.ref f25))) (l25 : K.lookup f25 = some ⟨oc25, od25, .func (PySem.W.fnOf "_law_layer" "_law_layer" (defArgs s__law_layer) (defBody s__law_layer) (defScope s__law_layer) .none kV25 dc25 pm25 an25 cd25 ct25), sl25⟩) (c25 : PySem.W.codeIn K cd25 "_law_layer" = true) (k25 : PySem.W.keepIn K (.ref f25) = true)
    (a26 : PySem.W.nsIn K mainGlobals "_law_window" = some (some (.ref f26))) (l26 : K.lookup f26 = some ⟨oc26, od26, .func (PySem.W.fnOf "_law_window" "_law_window" (defArgs s__law_window) (defBody s__law_window) (defScope s__law_window) .none kV26 dc26 pm26 an26 cd26 ct26), sl26⟩) (c26 : PySem.W.codeIn K cd26 "_law_window" = true) (k26 : PySem.W.keepIn K (.ref f26) = true)
    (a27 : PySem.W.nsIn K mainGlobals "_law_sheet" = some (some (.ref f27))) (l27 : K.lookup f27 = some ⟨oc27, od27, .func (PySem.W.fnOf "_law_sheet" "_law_sheet" (defArgs s__law_sheet) (defBody s__law_sheet) (defScope s__law_sheet) .none kV27 dc27 pm27 an27 cd27 ct27), sl27⟩) (c27 : PySem.W.codeIn K cd27 "_law_sheet" = true) (k27 : PySem.W.keepIn K (.ref f27) = true)
    (a28 : PySem.W.nsIn K mainGlobals "_law_sheet_text" = some (some (.ref f28))) (l28 : K.lookup f28 = some ⟨oc28, od28, .func (PySem.W.fnOf "_law_sheet_text" "_law_sheet_text" (defArgs s__law_sheet_text) (defBody s__law_sheet_text) (defScope s__law_sheet_text) .none kV28 dc28 pm28 an28 cd28 ct28), sl28⟩) (c28 : PySem.W.codeIn K cd28 "_law_sheet_text" = true) (k28 : PySem.W.keepIn K (.ref f28) = true)
    (a29 : PySem.W.nsIn K mainGlobals "_law_number" = some (some (.ref f29))) (l29 : K.lookup f29 = some ⟨oc29, od29, .func (PySem.W.fnOf "_law_number" "_law_number" (defArgs s__law_number) (defBody s__law_number) (defScope s__law_number) .none kV29 dc29 pm29 an29 cd29 ct29), sl29⟩) (c29 : PySem.W.codeIn K cd29 "_law_number" = true) (k29 : PySem.W.keepIn K (.ref f29) = true)
    (a30 : PySem.W.nsIn K mainGlobals "_law_numbers" = some (some (.ref f30))) (l30 : K.lookup f30 = some ⟨oc30, od30, .func (PySem.W.fnOf "_law_numbers" "_law_numbers" (defArgs s__law_numbers) (defBody s__law_numbers) (defScope s__law_numbers) .none kV30 dc30 pm30 an30 cd30 ct30), sl30⟩) (c30 : PySem.W.codeIn K cd30 "_law_numbers" = true) (k30 : PySem.W.keepIn K (.ref f30) = true)
    (a31 : PySem.W.nsIn K mainGlobals "_law_layer_in" = some (some (.ref f31))) (l31 : K.lookup f31 = some ⟨oc31, od31, .func (PySem.W.fnOf "_law_layer_in" "_law_layer_in" (defArgs s__law_layer_in) (defBody s__law_layer_in) (defScope s__law_layer_in) .none kV31 dc31 pm31 an31 cd31 ct31), sl31⟩) (c31 : PySem.W.codeIn K cd31 "_law_layer_in" = true) (k31 : PySem.W.keepIn K (.ref f31) = true)
    (a32 : PySem.W.nsIn K mainGlobals "_law_read" = some (some (.ref f32))) (l32 : K.lookup f32 = some ⟨oc32, od32, .func (PySem.W.fnOf "_law_read" "_law_read" (defArgs s__law_read) (defBody s__law_read) (defScope s__law_read) .none kV32 dc32 pm32 an32 cd32 ct32), sl32⟩) (c32 : PySem.W.codeIn K cd32 "_law_read" = true) (k32 : PySem.W.keepIn K (.ref f32) = true)
    (a33 : PySem.W.nsIn K mainGlobals "_law_other" = some (some (.ref f33))) (l33 : K.lookup f33 = some ⟨oc33, od33, .func (PySem.W.fnOf "_law_other" "_law_other" (defArgs s__law_other) (defBody s__law_other) (defScope s__law_other) .none kV33 dc33 pm33 an33 cd33 ct33), sl33⟩) (c33 : PySem.W.codeIn K cd33 "_law_other" = true) (k33 : PySem.W.keepIn K (.ref f33) = true)
    (a34 : PySem.W.nsIn K mainGlobals "law" = some (some (.ref f34))) (l34 : K.lookup f34 = some ⟨oc34, od34, .func (PySem.W.fnOf "law" "law" (defArgs s_law) (defBody s_law) (defScope s_law) .none kV34 dc34 pm34 an34 (.ref cc34) ct34), sl34⟩) (c34 : PySem.W.codeIn K (.ref cc34) "law" = true) (k34 : PySem.W.keepIn K (.ref f34) = true)
    (lc34 : K.lookup cc34 = some ⟨ec34, dc_34, .fields vc34, slc34⟩) (v1134 : vc34[11]? = some (.ref PP34)) (tq34 : ((recsOf q).find? fun e => e.name == ("law" : Str)).isSome = true) (tt34 : PySem.W.tabIn K "law" = some (cc34, PP34)) (tn34 : K.lookup PP34 = none)
    (z_ValueError : PySem.W.nsIn K mainGlobals "ValueError" = some none)
    (z_len : PySem.W.nsIn K mainGlobals "len" = some none)
    (z_isinstance : PySem.W.nsIn K mainGlobals "isinstance" = some none)
    (z_max : PySem.W.nsIn K mainGlobals "max" = some none)
    (z_min : PySem.W.nsIn K mainGlobals "min" = some none)
    (z_all : PySem.W.nsIn K mainGlobals "all" = some none)
    (z_tuple : PySem.W.nsIn K mainGlobals "tuple" = some none)
    (z_range : PySem.W.nsIn K mainGlobals "range" = some none)
    (z_zip : PySem.W.nsIn K mainGlobals "zip" = some none)
    (z_bool : PySem.W.nsIn K mainGlobals "bool" = some none)
    (z_int : PySem.W.nsIn K mainGlobals "int" = some none)
    (z_str : PySem.W.nsIn K mainGlobals "str" = some none)
    (v_MOST_DRAWING : PySem.W.nsIn K mainGlobals "MOST_DRAWING" = some (some (.int 9 t0)))
    (v_MOST_HOLD : PySem.W.nsIn K mainGlobals "MOST_HOLD" = some (some (.int 24 t1)))
    (v_MOST_ROWS : PySem.W.nsIn K mainGlobals "MOST_ROWS" = some (some (.int 8 t2)))
    (v_MOST_WAY : PySem.W.nsIn K mainGlobals "MOST_WAY" = some (some (.int 20 t3)))
    (v_MOST_MANY : PySem.W.nsIn K mainGlobals "MOST_MANY" = some (some (.int 24 t4)))
    (v_MOST_MOVES : PySem.W.nsIn K mainGlobals "MOST_MOVES" = some (some (.int 8 t5)))
    (v_MOST_LAYERS : PySem.W.nsIn K mainGlobals "MOST_LAYERS" = some (some (.int 4 t6)))
    (v_MOST_FIGURES : PySem.W.nsIn K mainGlobals "MOST_FIGURES" = some (some (.int 30 t7)))
    (x0 : PySem.W.nsIn K mainGlobals "NoLayer" = some (some (.ref C0)))
    (x1 : PySem.W.nsIn K mainGlobals "NoWindow" = some (some (.ref C1)))
    (x2 : PySem.W.nsIn K mainGlobals "NoSheet" = some (some (.ref C2)))
    (x3 : PySem.W.nsIn K mainGlobals "NoMoment" = some (some (.ref C3)))
    (x4 : PySem.W.nsIn K mainGlobals "NoRow" = some (some (.ref C4)))
    (x5 : PySem.W.nsIn K mainGlobals "NoNumber" = some (some (.ref C5)))
    (x6 : PySem.W.nsIn K mainGlobals "NoDrawings" = some (some (.ref C6)))
    (x7 : PySem.W.nsIn K mainGlobals "Unlike" = some (some (.ref C7)))
    (x8 : PySem.W.nsIn K mainGlobals "Endless" = some (some (.ref C8)))
    (x9 : PySem.W.nsIn K mainGlobals "Squeezed" = some (some (.ref C9)))
    (x10 : PySem.W.nsIn K mainGlobals "NoPaper" = some (some (.ref C10)))
    (x11 : PySem.W.nsIn K mainGlobals "NoDeed" = some (some (.ref C11)))
    (x12 : PySem.W.nsIn K mainGlobals "NoText" = some (some (.ref C12)))
    (x13 : PySem.W.nsIn K mainGlobals "NoWords" = some (some (.ref C13)))
    (x14 : PySem.W.nsIn K mainGlobals "TooMany" = some (some (.ref C14)))
    (x15 : PySem.W.nsIn K mainGlobals "Leaned" = some (some (.ref C15)))
    (xL : PySem.W.nsIn K mainGlobals "LanternError" = some (some (.ref LE)))
    (xb : excTB K (fun i => [C0, C1, C2, C3, C4, C5, C6, C7, C8, C9, C10, C11, C12, C13, C14, C15].getD i 0) LE = true) (nm1 : PySem.W.findIn K (.ref C14) "many" = some none) (nm2 : PySem.W.findIn K (.ref C14) "most" = some none) (nm3 : PySem.W.findIn K (.ref C15) "numbers" = some none) :
    LamX.LawAtS l w K CX0 10 63 "_law_script" mg fa h := by
  have e := hfa.symm.trans (PySem.W.mg_of X G a34)
  cases e
  have T : Txt K mg := ⟨PySem.W.mg_none_of X G z_ValueError, PySem.W.mg_none_of X G z_len, PySem.W.mg_none_of X G z_isinstance, PySem.W.mg_none_of X G z_max, PySem.W.mg_none_of X G z_min, PySem.W.mg_none_of X G z_all, PySem.W.mg_none_of X G z_tuple, PySem.W.mg_none_of X G z_range, PySem.W.mg_none_of X G z_zip, PySem.W.mg_none_of X G z_bool, PySem.W.mg_none_of X G z_int, PySem.W.mg_none_of X G z_str, ⟨_, PySem.W.mg_of X G v_MOST_DRAWING⟩, ⟨_, PySem.W.mg_of X G v_MOST_HOLD⟩, ⟨_, PySem.W.mg_of X G v_MOST_ROWS⟩, ⟨_, PySem.W.mg_of X G v_MOST_WAY⟩, ⟨_, PySem.W.mg_of X G v_MOST_MANY⟩, ⟨_, PySem.W.mg_of X G v_MOST_MOVES⟩, ⟨_, PySem.W.mg_of X G v_MOST_LAYERS⟩, ⟨_, PySem.W.mg_of X G v_MOST_FIGURES⟩⟩
  have gX : ∀ i n, clsN[i]? = some n → mg n = some (.ref ((fun i => [C0, C1, C2, C3, C4, C5, C6, C7, C8, C9, C10, C11, C12, C13, C14, C15].getD i 0) i)) := fun i n hn => match i, hn with
    | 0, h => by cases (show some ("NoLayer" : Str) = some n from h); exact PySem.W.mg_of X G x0
    | 1, h => by cases (show some ("NoWindow" : Str) = some n from h); exact PySem.W.mg_of X G x1
    | 2, h => by cases (show some ("NoSheet" : Str) = some n from h); exact PySem.W.mg_of X G x2
    | 3, h => by cases (show some ("NoMoment" : Str) = some n from h); exact PySem.W.mg_of X G x3
    | 4, h => by cases (show some ("NoRow" : Str) = some n from h); exact PySem.W.mg_of X G x4
    | 5, h => by cases (show some ("NoNumber" : Str) = some n from h); exact PySem.W.mg_of X G x5
    | 6, h => by cases (show some ("NoDrawings" : Str) = some n from h); exact PySem.W.mg_of X G x6
    | 7, h => by cases (show some ("Unlike" : Str) = some n from h); exact PySem.W.mg_of X G x7
    | 8, h => by cases (show some ("Endless" : Str) = some n from h); exact PySem.W.mg_of X G x8
    | 9, h => by cases (show some ("Squeezed" : Str) = some n from h); exact PySem.W.mg_of X G x9
    | 10, h => by cases (show some ("NoPaper" : Str) = some n from h); exact PySem.W.mg_of X G x10
    | 11, h => by cases (show some ("NoDeed" : Str) = some n from h); exact PySem.W.mg_of X G x11
    | 12, h => by cases (show some ("NoText" : Str) = some n from h); exact PySem.W.mg_of X G x12
    | 13, h => by cases (show some ("NoWords" : Str) = some n from h); exact PySem.W.mg_of X G x13
    | 14, h => by cases (show some ("TooMany" : Str) = some n from h); exact PySem.W.mg_of X G x14
    | 15, h => by cases (show some ("Leaned" : Str) = some n from h); exact PySem.W.mg_of X G x15
    | k + 16, h => by simp [clsN] at h
  have TX : ExcN K mg (fun i => [C0, C1, C2, C3, C4, C5, C6, C7, C8, C9, C10, C11, C12, C13, C14, C15].getD i 0) LE := ⟨excT_of xb, gX, PySem.W.mg_of X G xL, nm1, nm2, nm3⟩
  refine ⟨(PySem.W.fnOf "law" "law" (defArgs s_law) (defBody s_law) (defScope s_law) .none kV34 dc34 pm34 an34 (.ref cc34) ct34), [(cc34, PP34)], sp_law K [(PP34, qLam "law")], ?_, ?_, ?_, fun s v => .of_eq rfl, fun H a ns hl _ hT hS => ⟨a, ns, rfl, hS, hl, ?_, fun _ => rfl⟩, fun base kb gb tb => ?_⟩
  · intro p hp
    simp only [List.mem_cons, List.not_mem_nil, or_false] at hp
    rcases hp with rfl
    · exact (TQ _ _ _ tq34 tt34).2
  · intro p hp
    simp only [List.mem_cons, List.not_mem_nil, or_false] at hp
    rcases hp with rfl
    · exact tn34
  · intro p hp
    simp only [List.mem_cons, List.not_mem_nil, or_false] at hp
    rcases hp with rfl
    · exact (TQ _ _ _ tq34 tt34).1
  · intro p hp
    simp only [List.mem_cons, List.not_mem_nil, or_false] at hp
    rcases hp with rfl
    · exact LamX.TabS.nil (hT (cc34, PP34) (by simp))
  have F0 := fun_mk (st := s__law_met) l0 c0 k0
  have b0 := F0.binds (ps := ["_law_call"]) fun _ _ _ _ _ _ us hl => match us, hl with | [_], _ => rfl
  have F1 := fun_mk (st := s__law_classes) l1 c1 k1
  have b1 := F1.binds (ps := ["_law_e"]) fun _ _ _ _ _ _ us hl => match us, hl with | [_], _ => rfl
  have DE : ClE l.prog w K mg base 1 "_law_classes" ["_law_e"] (spCls (fun i => [C0, C1, C2, C3, C4, C5, C6, C7, C8, C9, C10, C11, C12, C13, C14, C15].getD i 0)) := ⟨_, _, ok__law_classes F1 T TX, k1, b1, PySem.W.mg_of X G a1⟩
  have F2 := fun_mk (st := s_is_whole_from) l2 c2 k2
  have b2 := F2.binds (ps := ["thing", "least"]) fun _ _ _ _ _ _ us hl => match us, hl with | [_, _], _ => rfl
  have D_is_whole_from : Cl l.prog w K mg base 1 "is_whole_from" ["thing", "least"] (sp_is_whole_from K) := ⟨_, _, ok_is_whole_from F2 T , k2, b2, PySem.W.mg_of X G a2⟩
  have F3 := fun_mk (st := s_is_whole) l3 c3 k3
  have b3 := F3.binds (ps := ["thing", "least", "most"]) fun _ _ _ _ _ _ us hl => match us, hl with | [_, _, _], _ => rfl
  have D_is_whole : Cl l.prog w K mg base 2 "is_whole" ["thing", "least", "most"] (sp_is_whole K) := ⟨_, _, ok_is_whole F3 T D_is_whole_from, k3, b3, PySem.W.mg_of X G a3⟩
  have F4 := fun_mk (st := s_is_tuple) l4 c4 k4
  have b4 := F4.binds (ps := ["thing", "least", "most"]) fun _ _ _ _ _ _ us hl => match us, hl with | [_, _, _], _ => rfl
  have D_is_tuple : Cl l.prog w K mg base 1 "is_tuple" ["thing", "least", "most"] (sp_is_tuple K) := ⟨_, _, ok_is_tuple F4 T , k4, b4, PySem.W.mg_of X G a4⟩
  have F5 := fun_mk (st := s_is_drawing) l5 c5 k5
  have b5 := F5.binds (ps := ["thing"]) fun _ _ _ _ _ _ us hl => match us, hl with | [_], _ => rfl
  have D_is_drawing : Cl l.prog w K mg base 3 "is_drawing" ["thing"] (sp_is_drawing K) := ⟨_, _, ok_is_drawing F5 T D_is_whole, k5, b5, PySem.W.mg_of X G a5⟩
  have F6 := fun_mk (st := s_is_hold) l6 c6 k6
  have b6 := F6.binds (ps := ["thing"]) fun _ _ _ _ _ _ us hl => match us, hl with | [_], _ => rfl
  have D_is_hold : Cl l.prog w K mg base 3 "is_hold" ["thing"] (sp_is_hold K) := ⟨_, _, ok_is_hold F6 T D_is_whole, k6, b6, PySem.W.mg_of X G a6⟩
  have F7 := fun_mk (st := s_is_row) l7 c7 k7
  have b7 := F7.binds (ps := ["thing"]) fun _ _ _ _ _ _ us hl => match us, hl with | [_], _ => rfl
  have D_is_row : Cl l.prog w K mg base 4 "is_row" ["thing"] (sp_is_row K) := ⟨_, _, ok_is_row F7 T D_is_tuple D_is_drawing D_is_hold, k7, b7, PySem.W.mg_of X G a7⟩
  have F8 := fun_mk (st := s_is_layer) l8 c8 k8
  have b8 := F8.binds (ps := ["thing"]) fun _ _ _ _ _ _ us hl => match us, hl with | [_], _ => rfl
  have D_is_layer : Cl l.prog w K mg base 5 "is_layer" ["thing"] (sp_is_layer K) := ⟨_, _, ok_is_layer F8 T D_is_tuple D_is_row D_is_whole, k8, b8, PySem.W.mg_of X G a8⟩
  have F9 := fun_mk (st := s_is_way) l9 c9 k9
  have b9 := F9.binds (ps := ["thing"]) fun _ _ _ _ _ _ us hl => match us, hl with | [_], _ => rfl
  have D_is_way : Cl l.prog w K mg base 3 "is_way" ["thing"] (sp_is_way K) := ⟨_, _, ok_is_way F9 T D_is_whole, k9, b9, PySem.W.mg_of X G a9⟩
  have F10 := fun_mk (st := s_is_many) l10 c10 k10
  have b10 := F10.binds (ps := ["thing"]) fun _ _ _ _ _ _ us hl => match us, hl with | [_], _ => rfl
  have D_is_many : Cl l.prog w K mg base 3 "is_many" ["thing"] (sp_is_many K) := ⟨_, _, ok_is_many F10 T D_is_whole, k10, b10, PySem.W.mg_of X G a10⟩
  have F11 := fun_mk (st := s_is_move) l11 c11 k11
  have b11 := F11.binds (ps := ["thing"]) fun _ _ _ _ _ _ us hl => match us, hl with | [_], _ => rfl
  have D_is_move : Cl l.prog w K mg base 4 "is_move" ["thing"] (sp_is_move K) := ⟨_, _, ok_is_move F11 T D_is_tuple D_is_way D_is_many, k11, b11, PySem.W.mg_of X G a11⟩
  have F12 := fun_mk (st := s_is_window) l12 c12 k12
  have b12 := F12.binds (ps := ["thing"]) fun _ _ _ _ _ _ us hl => match us, hl with | [_], _ => rfl
  have D_is_window : Cl l.prog w K mg base 5 "is_window" ["thing"] (sp_is_window K) := ⟨_, _, ok_is_window F12 T D_is_tuple D_is_way D_is_move, k12, b12, PySem.W.mg_of X G a12⟩
  have F13 := fun_mk (st := s_is_sheet) l13 c13 k13
  have b13 := F13.binds (ps := ["thing"]) fun _ _ _ _ _ _ us hl => match us, hl with | [_], _ => rfl
  have D_is_sheet : Cl l.prog w K mg base 6 "is_sheet" ["thing"] (sp_is_sheet K) := ⟨_, _, ok_is_sheet F13 T D_is_tuple D_is_window D_is_layer, k13, b13, PySem.W.mg_of X G a13⟩
  have F14 := fun_mk (st := s_writes_number) l14 c14 k14
  have b14 := F14.binds (ps := ["word"]) fun _ _ _ _ _ _ us hl => match us, hl with | [_], _ => rfl
  have D_writes_number : Cl l.prog w K mg base 1 "writes_number" ["word"] (sp_writes_number K) := ⟨_, _, ok_writes_number F14 T , k14, b14, PySem.W.mg_of X G a14⟩
  have F15 := fun_mk (st := s_number_in) l15 c15 k15
  have b15 := F15.binds (ps := ["word"]) fun _ _ _ _ _ _ us hl => match us, hl with | [_], _ => rfl
  have D_number_in : Cl l.prog w K mg base 2 "number_in" ["word"] (sp_number_in K) := ⟨_, _, ok_number_in F15 T D_writes_number, k15, b15, PySem.W.mg_of X G a15⟩
  have F16 := fun_mk (st := s_numbers_in) l16 c16 k16
  have b16 := F16.binds (ps := ["word", "between"]) fun _ _ _ _ _ _ us hl => match us, hl with | [_, _], _ => rfl
  have D_numbers_in : Cl l.prog w K mg base 3 "numbers_in" ["word", "between"] (sp_numbers_in K) := ⟨_, _, ok_numbers_in F16 T D_number_in, k16, b16, PySem.W.mg_of X G a16⟩
  have F17 := fun_mk (st := s_window_in) l17 c17 k17
  have b17 := F17.binds (ps := ["line"]) fun _ _ _ _ _ _ us hl => match us, hl with | [_], _ => rfl
  have D_window_in : Cl l.prog w K mg base 4 "window_in" ["line"] (sp_window_in K) := ⟨_, _, ok_window_in F17 T D_numbers_in D_number_in, k17, b17, PySem.W.mg_of X G a17⟩
  have F18 := fun_mk (st := s_layer_in) l18 c18 k18
  have b18 := F18.binds (ps := ["line"]) fun _ _ _ _ _ _ us hl => match us, hl with | [_], _ => rfl
  have D_layer_in : Cl l.prog w K mg base 4 "layer_in" ["line"] (sp_layer_in K) := ⟨_, _, ok_layer_in F18 T D_numbers_in D_number_in, k18, b18, PySem.W.mg_of X G a18⟩
  have F19 := fun_mk (st := s_sheet_in) l19 c19 k19
  have b19 := F19.binds (ps := ["text"]) fun _ _ _ _ _ _ us hl => match us, hl with | [_], _ => rfl
  have D_sheet_in : Cl l.prog w K mg base 5 "sheet_in" ["text"] (sp_sheet_in K) := ⟨_, _, ok_sheet_in F19 T D_window_in D_layer_in, k19, b19, PySem.W.mg_of X G a19⟩
  have F20 := fun_mk (st := s_read_sheet) l20 c20 k20
  have b20 := F20.binds (ps := ["text"]) fun _ _ _ _ _ _ us hl => match us, hl with | [_], _ => rfl
  have D_read_sheet : ClX l.prog w K mg base 7 "read_sheet" ["text"] (sp_read_sheet K (fun i => [C0, C1, C2, C3, C4, C5, C6, C7, C8, C9, C10, C11, C12, C13, C14, C15].getD i 0)) := ⟨_, _, ok_read_sheet F20 T TX  D_sheet_in D_is_sheet, k20, b20, PySem.W.mg_of X G a20⟩
  have F21 := fun_mk (st := s__law_cell_at) l21 c21 k21
  have b21 := F21.binds (ps := ["_law_script", "_law_k"]) fun _ _ _ _ _ _ us hl => match us, hl with | [_, _], _ => rfl
  have D__law_cell_at : Cl l.prog w K mg base 1 "_law_cell_at" ["_law_script", "_law_k"] (sp__law_cell_at K) := ⟨_, _, ok__law_cell_at F21 T , k21, b21, PySem.W.mg_of X G a21⟩
  have F22 := fun_mk (st := s__law_state) l22 c22 k22
  have b22 := F22.binds (ps := ["_law_script", "_law_k"]) fun _ _ _ _ _ _ us hl => match us, hl with | [_, _], _ => rfl
  have D__law_state : Cl l.prog w K mg base 2 "_law_state" ["_law_script", "_law_k"] (sp__law_state K) := ⟨_, _, ok__law_state F22 T D__law_cell_at, k22, b22, PySem.W.mg_of X G a22⟩
  have F23 := fun_mk (st := s__law_take) l23 c23 k23
  have b23 := F23.binds (ps := ["_law_state_here", "_law_many"]) fun _ _ _ _ _ _ us hl => match us, hl with | [_, _], _ => rfl
  have D__law_take : Cl l.prog w K mg base 1 "_law_take" ["_law_state_here", "_law_many"] (sp__law_take K) := ⟨_, _, ok__law_take F23 T , k23, b23, PySem.W.mg_of X G a23⟩
  have F24 := fun_mk (st := s__law_row) l24 c24 k24
  have b24 := F24.binds (ps := ["_law_state_here"]) fun _ _ _ _ _ _ us hl => match us, hl with | [_], _ => rfl
  have D__law_row : Cl l.prog w K mg base 2 "_law_row" ["_law_state_here"] (sp__law_row K) := ⟨_, _, ok__law_row F24 T D__law_take, k24, b24, PySem.W.mg_of X G a24⟩
  have F25 := fun_mk (st := s__law_layer) l25 c25 k25
  have b25 := F25.binds (ps := ["_law_state_here", "_law_most", "_law_ended"]) fun _ _ _ _ _ _ us hl => match us, hl with | [_, _, _], _ => rfl
  have D__law_layer : Cl l.prog w K mg base 3 "_law_layer" ["_law_state_here", "_law_most", "_law_ended"] (sp__law_layer K) := ⟨_, _, ok__law_layer F25 T D__law_row D__law_take, k25, b25, PySem.W.mg_of X G a25⟩
  have F26 := fun_mk (st := s__law_window) l26 c26 k26
  have b26 := F26.binds (ps := ["_law_state_here", "_law_most"]) fun _ _ _ _ _ _ us hl => match us, hl with | [_, _], _ => rfl
  have D__law_window : Cl l.prog w K mg base 2 "_law_window" ["_law_state_here", "_law_most"] (sp__law_window K) := ⟨_, _, ok__law_window F26 T D__law_take, k26, b26, PySem.W.mg_of X G a26⟩
  have F27 := fun_mk (st := s__law_sheet) l27 c27 k27
  have b27 := F27.binds (ps := ["_law_state_here", "_law_layers", "_law_most", "_law_ended"]) fun _ _ _ _ _ _ us hl => match us, hl with | [_, _, _, _], _ => rfl
  have D__law_sheet : Cl l.prog w K mg base 4 "_law_sheet" ["_law_state_here", "_law_layers", "_law_most", "_law_ended"] (sp__law_sheet K) := ⟨_, _, ok__law_sheet F27 T D__law_window D__law_layer, k27, b27, PySem.W.mg_of X G a27⟩
  have F28 := fun_mk (st := s__law_sheet_text) l28 c28 k28
  have b28 := F28.binds (ps := ["_law_sheet_here"]) fun _ _ _ _ _ _ us hl => match us, hl with | [_], _ => rfl
  have D__law_sheet_text : Cl l.prog w K mg base 1 "_law_sheet_text" ["_law_sheet_here"] (sp__law_sheet_text K) := ⟨_, _, ok__law_sheet_text F28 T , k28, b28, PySem.W.mg_of X G a28⟩
  have F29 := fun_mk (st := s__law_number) l29 c29 k29
  have b29 := F29.binds (ps := ["_law_word"]) fun _ _ _ _ _ _ us hl => match us, hl with | [_], _ => rfl
  have D__law_number : Cl l.prog w K mg base 1 "_law_number" ["_law_word"] (sp__law_number K) := ⟨_, _, ok__law_number F29 T , k29, b29, PySem.W.mg_of X G a29⟩
  have F30 := fun_mk (st := s__law_numbers) l30 c30 k30
  have b30 := F30.binds (ps := ["_law_word", "_law_sign", "_law_bounds"]) fun _ _ _ _ _ _ us hl => match us, hl with | [_, _, _], _ => rfl
  have D__law_numbers : Cl l.prog w K mg base 2 "_law_numbers" ["_law_word", "_law_sign", "_law_bounds"] (sp__law_numbers K) := ⟨_, _, ok__law_numbers F30 T D__law_number, k30, b30, PySem.W.mg_of X G a30⟩
  have F31 := fun_mk (st := s__law_layer_in) l31 c31 k31
  have b31 := F31.binds (ps := ["_law_line"]) fun _ _ _ _ _ _ us hl => match us, hl with | [_], _ => rfl
  have D__law_layer_in : Cl l.prog w K mg base 3 "_law_layer_in" ["_law_line"] (sp__law_layer_in K) := ⟨_, _, ok__law_layer_in F31 T D__law_numbers D__law_number, k31, b31, PySem.W.mg_of X G a31⟩
  have F32 := fun_mk (st := s__law_read) l32 c32 k32
  have b32 := F32.binds (ps := ["_law_text"]) fun _ _ _ _ _ _ us hl => match us, hl with | [_], _ => rfl
  have D__law_read : Cl l.prog w K mg base 4 "_law_read" ["_law_text"] (sp__law_read K) := ⟨_, _, ok__law_read F32 T D__law_number D__law_numbers D__law_layer_in, k32, b32, PySem.W.mg_of X G a32⟩
  have F33 := fun_mk (st := s__law_other) l33 c33 k33
  have b33 := F33.binds (ps := ["_law_state_here", "_law_text"]) fun _ _ _ _ _ _ us hl => match us, hl with | [_, _], _ => rfl
  have D__law_other : Cl l.prog w K mg base 2 "_law_other" ["_law_state_here", "_law_text"] (sp__law_other K) := ⟨_, _, ok__law_other F33 T D__law_take, k33, b33, PySem.W.mg_of X G a33⟩
  have F34 := funC_mk (st := s_law) l34 c34
  have F34b := fun_mk (st := s_law) l34 c34 k34
  have MR34 : Mkr base mg cc34 PP34 "law" [(PP34, qLam "law")] := ⟨tb (cc34, PP34) (by simp), by simp, fun p hp e => by
    simp only [List.mem_cons, List.not_mem_nil, or_false] at hp
    rcases hp with rfl
    · rfl⟩
  exact ok_law F34 T TX MR34 F0 (PySem.W.mg_of X G a0) b0 DE D__law_state D__law_sheet_text D__law_sheet D__law_take D__law_other D__law_read D_read_sheet

end Lan
open PySem PySem.W PyProof.Rows
set_option maxRecDepth 100000 in
set_option maxHeartbeats 0 in
theorem PySem.Challenge.cw_lanternrows_k55_texts_put_otherwise_holds : PySem.Challenge.rw_lanternrows_k55_texts_put_otherwise.Holds := by
  w_on; o_law; k_head; (case hw => w_witness2)
  k_fill
  refine Lan.walk_ofL (l := PySem.Challenge.rw_lanternrows_k55_texts_put_otherwise) (n := 63) (k := 10) (x := "_law_script") rfl (by decide) rfl ⟨rfl, by decide, by decide⟩ (fun w h Y => PySem.W.km_in_of Y) ?F
  case F =>
    intro w mg fa h KX G hmg TQ
    refine' Lan.all_mk KX G hmg TQ ?a0 ?l0 ?c0 ?k0 ?a1 ?l1 ?c1 ?k1 ?a2 ?l2 ?c2 ?k2 ?a3 ?l3 ?c3 ?k3 ?a4 ?l4 ?c4 ?k4 ?a5 ?l5 ?c5 ?k5 ?a6 ?l6 ?c6 ?k6 ?a7 ?l7 ?c7 ?k7 ?a8 ?l8 ?c8 ?k8 ?a9 ?l9 ?c9 ?k9 ?a10 ?l10 ?c10 ?k10 ?a11 ?l11 ?c11 ?k11 ?a12 ?l12 ?c12 ?k12 ?a13 ?l13 ?c13 ?k13 ?a14 ?l14 ?c14 ?k14 ?a15 ?l15 ?c15 ?k15 ?a16 ?l16 ?c16 ?k16 ?a17 ?l17 ?c17 ?k17 ?a18 ?l18 ?c18 ?k18 ?a19 ?l19 ?c19 ?k19 ?a20 ?l20 ?c20 ?k20 ?a21 ?l21 ?c21 ?k21 ?a22 ?l22 ?c22 ?k22 ?a23 ?l23 ?c23 ?k23 ?a24 ?l24 ?c24 ?k24 ?a25 ?l25 ?c25 ?k25 ?a26 ?l26 ?c26 ?k26 ?a27 ?l27 ?c27 ?k27 ?a28 ?l28 ?c28 ?k28 ?a29 ?l29 ?c29 ?k29 ?a30 ?l30 ?c30 ?k30 ?a31 ?l31 ?c31 ?k31 ?a32 ?l32 ?c32 ?k32 ?a33 ?l33 ?c33 ?k33 ?a34 ?l34 ?c34 ?k34 ?lc34 ?v1134 ?tq34 ?tt34 ?tn34 ?z_ValueError ?z_len ?z_isinstance ?z_max ?z_min ?z_all ?z_tuple ?z_range ?z_zip ?z_bool ?z_int ?z_str ?v_MOST_DRAWING ?v_MOST_HOLD ?v_MOST_ROWS ?v_MOST_WAY ?v_MOST_MANY ?v_MOST_MOVES ?v_MOST_LAYERS ?v_MOST_FIGURES ?x0 ?x1 ?x2 ?x3 ?x4 ?x5 ?x6 ?x7 ?x8 ?x9 ?x10 ?x11 ?x12 ?x13 ?x14 ?x15 ?xL ?xb ?nm1 ?nm2 ?nm3
    (case a0 => k_is)
    (case l0 => k_is)
    (case c0 => k_is)
    (case k0 => k_is)
    (case a1 => k_is)
    (case l1 => k_is)
    (case c1 => k_is)
    (case k1 => k_is)
    (case a2 => k_is)
    (case l2 => k_is)
    (case c2 => k_is)
    (case k2 => k_is)
    (case a3 => k_is)
    (case l3 => k_is)
    (case c3 => k_is)
    (case k3 => k_is)
    (case a4 => k_is)
    (case l4 => k_is)
    (case c4 => k_is)
    (case k4 => k_is)
    (case a5 => k_is)
    (case l5 => k_is)
    (case c5 => k_is)
    (case k5 => k_is)
    (case a6 => k_is)
    (case l6 => k_is)
    (case c6 => k_is)
    (case k6 => k_is)
    (case a7 => k_is)
    (case l7 => k_is)
    (case c7 => k_is)
    (case k7 => k_is)
    (case a8 => k_is)
    (case l8 => k_is)
    (case c8 => k_is)
    (case k8 => k_is)
    (case a9 => k_is)
    (case l9 => k_is)
    (case c9 => k_is)
    (case k9 => k_is)
    (case a10 => k_is)
    (case l10 => k_is)
    (case c10 => k_is)
    (case k10 => k_is)
    (case a11 => k_is)
    (case l11 => k_is)
    (case c11 => k_is)
    (case k11 => k_is)
    (case a12 => k_is)
    (case l12 => k_is)
    (case c12 => k_is)
    (case k12 => k_is)
    (case a13 => k_is)
    (case l13 => k_is)
    (case c13 => k_is)
    (case k13 => k_is)
    (case a14 => k_is)
    (case l14 => k_is)
    (case c14 => k_is)
    (case k14 => k_is)
    (case a15 => k_is)
    (case l15 => k_is)
    (case c15 => k_is)
    (case k15 => k_is)
    (case a16 => k_is)
    (case l16 => k_is)
    (case c16 => k_is)
    (case k16 => k_is)
    (case a17 => k_is)
    (case l17 => k_is)
    (case c17 => k_is)
    (case k17 => k_is)
    (case a18 => k_is)
    (case l18 => k_is)
    (case c18 => k_is)
    (case k18 => k_is)
    (case a19 => k_is)
    (case l19 => k_is)
    (case c19 => k_is)
    (case k19 => k_is)
    (case a20 => k_is)
    (case l20 => k_is)
    (case c20 => k_is)
    (case k20 => k_is)
    (case a21 => k_is)
    (case l21 => k_is)
    (case c21 => k_is)
    (case k21 => k_is)
    (case a22 => k_is)
    (case l22 => k_is)
    (case c22 => k_is)
    (case k22 => k_is)
    (case a23 => k_is)
    (case l23 => k_is)
    (case c23 => k_is)
    (case k23 => k_is)
    (case a24 => k_is)
    (case l24 => k_is)
    (case c24 => k_is)
    (case k24 => k_is)
    (case a25 => k_is)
    (case l25 => k_is)
    (case c25 => k_is)
    (case k25 => k_is)
    (case a26 => k_is)
    (case l26 => k_is)
    (case c26 => k_is)
    (case k26 => k_is)
    (case a27 => k_is)
    (case l27 => k_is)
    (case c27 => k_is)
    (case k27 => k_is)
    (case a28 => k_is)
    (case l28 => k_is)
    (case c28 => k_is)
    (case k28 => k_is)
    (case a29 => k_is)
    (case l29 => k_is)
    (case c29 => k_is)
    (case k29 => k_is)
    (case a30 => k_is)
    (case l30 => k_is)
    (case c30 => k_is)
    (case k30 => k_is)
    (case a31 => k_is)
    (case l31 => k_is)
    (case c31 => k_is)
    (case k31 => k_is)
    (case a32 => k_is)
    (case l32 => k_is)
    (case c32 => k_is)
    (case k32 => k_is)
    (case a33 => k_is)
    (case l33 => k_is)
    (case c33 => k_is)
    (case k33 => k_is)
    (case a34 => k_is)
    (case l34 => k_is)
    (case c34 => k_is)
    (case k34 => k_is)
    (case lc34 => k_is)
    (case v1134 => rfl)
    (case tq34 => kernel_rfl)
    (case tt34 => kernel_rfl)
    (case tn34 => kernel_rfl)
    (case z_ValueError => k_is)
    (case z_len => k_is)
    (case z_isinstance => k_is)
    (case z_max => k_is)
    (case z_min => k_is)
    (case z_all => k_is)
    (case z_tuple => k_is)
    (case z_range => k_is)
    (case z_zip => k_is)
    (case z_bool => k_is)
    (case z_int => k_is)
    (case z_str => k_is)
    (case v_MOST_DRAWING => k_is)
    (case v_MOST_HOLD => k_is)
    (case v_MOST_ROWS => k_is)
    (case v_MOST_WAY => k_is)
    (case v_MOST_MANY => k_is)
    (case v_MOST_MOVES => k_is)
    (case v_MOST_LAYERS => k_is)
    (case v_MOST_FIGURES => k_is)
    (case x0 => k_is)
    (case x1 => k_is)
    (case x2 => k_is)
    (case x3 => k_is)
    (case x4 => k_is)
    (case x5 => k_is)
    (case x6 => k_is)
    (case x7 => k_is)
    (case x8 => k_is)
    (case x9 => k_is)
    (case x10 => k_is)
    (case x11 => k_is)
    (case x12 => k_is)
    (case x13 => k_is)
    (case x14 => k_is)
    (case x15 => k_is)
    (case xL => k_is)
    (case xb => kernel_rfl)
    (case nm1 => k_is)
    (case nm2 => k_is)
    (case nm3 => k_is)
