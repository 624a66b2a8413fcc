import PyProof.Rows.All
import Wide.All
import OpenK.AllK
import Wide.FinOn
import HandS.ForMost
import HandS.IsInst
import HandS.TupAny
import HandS.TupMul
import HandS.Conv
import HandS.Style
import HandS.Flow
import HandS.Codes
import HandS.Zip
import KE.GoesNew
import HandS.Lambda
import HandS.EndTab
import HandS.ExcInit
import HandS.ExcField
import HandS.ExcIs
import HandS.HotCalls
import HandS.TryOnly
import HandS.WordsExc
import HandS.ExcOwn
import HandS.Small
import HandS.FStr
import KE.KExcIs
import HandS.SetFor
import HandS.Strs
import KE.KDictZip
import PySem.Challenge.RW_lanternrows_k44_layers_evened_and_retime
set_option Elab.async false
set_option linter.all false
set_option maxRecDepth 100000
set_option maxHeartbeats 4000000
namespace Lan
open PySem PySem.Spec PyProof.Rows L2
/-! ### short rules -/
def bkV : Option Int → V
  | none => .non
  | some i => .int i
structure Cl (P : Program) (w : World) (K : PySem.W.Frag) (mg : Str → Option Value) (base : Heap) (k : Nat) (x : Str) (ps : List Str) (sp : Sp) : Prop where
  ex : ∃ (f : Addr) (fd : FuncData), FnOk P w K mg base CX0 k f fd ps sp ∧ PySem.W.keepIn K (.ref f) = true ∧ Binds K fd ps [] ∧ mg x = some (.ref f)
section
variable {X : Cx}
theorem pe_gint {x : Str} {pos : Pos} {n : Int} (hg : Gl X x) (h : ∃ t, X.mg x = some (.int n t)) (hd : (x == ("__debug__" : Str)) = false := by decide) : PE X (.Name x pos) (tC (.int n)) := by
  obtain ⟨t, h⟩ := h
  exact pe_glob hg h ⟨_, rfl⟩ hd
theorem pe_own {k : Nat} {x : Str} {ps : List Str} {sp : Sp} {e : Expr} {es : List Expr} {t : TA} {p pos : Pos} (C : Cl X.prog X.w X.K X.mg X.base k x ps sp) (hr : Room k X.A) (hg : Gl X x) (ha : PA X (e :: es) t)
    (hdb : (x == ("__debug__" : Str)) = false := by decide) (he : starEach (e :: es) X.env = (false, eval e X.env) :: starEach es X.env := by rfl) (hpl : (backTo pos (starEach es X.env)).any (·.1) = false := by rfl) :
    PE X (.Call (.Name x p) (e :: es) [] pos) (tCall sp [] E0 t) := by
  obtain ⟨f, fd, F, hk, hb, hm⟩ := C.ex
  exact pe_call F hr hg hm hk hb .nil pass0 ha hdb he hpl
def tPartN (t : TE) : TO := fun σ H Q => t σ H fun x H1 => ∃ o : Option Int, x = bkV o ∧ Q o H1
theorem po_opt {e : Expr} {te : TE} (h : PE X e te) : PO X (some e) (tPartN te) := by
  refine ⟨fun pins s σ H Q I hw => ?_⟩
  rw [evalPart_some]
  refine thn (h.run pins s σ H _ I hw) fun u s1 ⟨x, H1, I1, r1, q1⟩ => ?_
  obtain ⟨o, rfl, q⟩ := q1
  cases o with
  | none =>
    cases r1
    exact ⟨none, H1, I1, .none, q⟩
  | some i =>
    obtain ⟨t, rfl⟩ := r1
    exact ⟨some i, H1, I1, .int i t, q⟩
end
/-! ### heaps -/
theorem same_upd {H : Hp} {p : Addr} {o : HO} (h : H p = none) : Same H (upd H p o) := fun b x e => by
  rw [upd_ne (ne_of_none e h)]
  exact e
theorem new_at {H : Hp} {p : Addr} (o : HO) (h : H p = none) : Same H (upd H p o) ∧ (upd H p o) p = some o := ⟨same_upd h, upd_same⟩
theorem Same.sqT {K : PySem.W.Frag} {H H' : Hp} {a : Addr} {xs : List V} (e : Same H H') (h : SqT K H a xs) : SqT K H' a xs := by
  rcases h with (h | ⟨o, h⟩) | h
  · exact .inl (.inl (e _ _ h))
  · exact .inl (.inr ⟨o, e _ _ h⟩)
  · exact .inr h
def IsSt (H : Hp) (st : Addr) : Prop := ∃ a b : Int, H st = some (.lst [.int a, .int b]) ∧ 0 ≤ a ∧ 0 ≤ b ∧ b < 2147483647
/-- all but the state at st stands, and st holds a state as before -/
def Gr (st : Addr) (H H' : Hp) : Prop := (∀ b o, b ≠ st → H b = some o → H' b = some o) ∧ (IsSt H st → IsSt H' st)
theorem Gr.refl {st : Addr} {H : Hp} : Gr st H H := ⟨fun _ _ _ h => h, id⟩
theorem Gr.trans {st : Addr} {H H1 H2 : Hp} (a : Gr st H H1) (b : Gr st H1 H2) : Gr st H H2 := ⟨fun c o n h => b.1 c o n (a.1 c o n h), fun h => b.2 (a.2 h)⟩
theorem gr_same {st : Addr} {H H' : Hp} (s : Same H H') : Gr st H H' := ⟨fun b o _ h => s b o h, fun ⟨a, b, h, r⟩ => ⟨a, b, s _ _ h, r⟩⟩
theorem gr_set {st : Addr} {H : Hp} {a b : Int} (h0 : 0 ≤ a) (h1 : 0 ≤ b) (h2 : b < 2147483647) : Gr st H (upd H st (.lst [.int a, .int b])) :=
  ⟨fun c o n h => by rw [upd_ne n]; exact h, fun _ => ⟨a, b, upd_same, h0, h1, h2⟩⟩
theorem Gr.sqT {st : Addr} {K : PySem.W.Frag} {H H' : Hp} {a : Addr} {xs : List V} (g : Gr st H H') (s : IsSt H st) (h : SqT K H a xs) : SqT K H' a xs := by
  obtain ⟨u, v, hs, _⟩ := s
  rcases h with (h | ⟨o, h⟩) | h
  · exact .inl (.inl (g.1 _ _ (ne_of h hs (by intro z; cases z)) h))
  · exact .inl (.inr ⟨o, g.1 _ _ (ne_of h hs (by intro z; cases z)) h⟩)
  · exact .inr h
/-- behind a state that was not there before -/
theorem Gr.same {st : Addr} {H H1 H2 : Hp} (g : Gr st H1 H2) (s : Same H H1) (n : H st = none) : Same H H2 := fun b o h => g.1 b o (ne_of_none h n) (s b o h)
theorem tyT {K : PySem.W.Frag} {H : Hp} {a : Addr} {xs : List V} (h : SqT K H a xs) : TyX K H (.ref a) (.type "tuple") := by
  rcases h with (h | ⟨o, h⟩) | ⟨o, its, n, h, c, _⟩
  · exact .base (.tup h)
  · exact .fTuple h
  · exact .kTuple h c
theorem yes_ok {σ : L2.St} {H : Hp} {te : TE} {R : VK} {Z : Hp → Prop} (h : te σ H R) : tYes σ H (fun b H3 => if b = true then te σ H3 R else Z H3) := by
  show if true = true then te σ H R else Z H
  rw [if_pos rfl]
  exact h
/-! ### comprehensions that make one value an item and leave the heap -/
theorem lcmap_tup {K : PySem.W.Frag} {a : Addr} {xs : List V} {g : TG} {tt : TT} {te : TE} {vs : List Nat} {σ : L2.St} {H1 : Hp} {D : Addr} {Qd : Hp → Prop} (ys : List V) (hl : ys.length = xs.length) (hz : xs.length ≤ 1000) (hS : SqT K H1 a xs) (hD : H1 D = none)
    (hs : ∀ (i : Nat) (x y : V) (H : Hp) (R : V → Hp → Prop) (Z : Hp → Prop), xs[i]? = some x → ys[i]? = some y → Same H1 H → (∀ H4, Same H H4 → R y H4) → g x (wipe σ vs) H fun σ2 H2 => wipe σ2 vs = wipe σ vs ∧ tt σ2 H2 fun b H3 => if b = true then te σ2 H3 R else Z H3)
    (hd : ∀ H, Same H1 H → H D = some (.lst ys) → Qd H) :
    ∃ W : Nat → Nat → Hp → Prop, (∃ m, W 0 m (upd H1 D (.lst []))) ∧ ∀ i m H, W i m H →
      ((Itt K a).stop i H ∧ Qd H) ∨ ((Itt K a).go i H ∧ ∃ Nx : Hp → Prop, (∀ H', Nx H' → ∃ m', m' < m ∧ W (i + 1) m' H') ∧ ∀ x H', (Itt K a).yld i H x H' → g x (wipe σ vs) H' fun σ2 H2 => wipe σ2 vs = wipe σ vs ∧ tt σ2 H2 fun b H3 =>
        if b = true then te σ2 H3 fun y H4 => ∃ acc, H4 D = some (.lst acc) ∧ acc.length < sizeLine ∧ Nx (upd H4 D (.lst (acc ++ [y]))) else Nx H3) := by
  refine lc_tup (K := K) (a := a) (xs := xs) (fun i H => Same H1 H ∧ H D = some (.lst (ys.take i))) ⟨same_upd hD, upd_same⟩ (fun i H _ p => Same.sqT p.1 hS) (fun i x H hx p => ?_) (fun H p => ?_)
  · have hi : i < xs.length := (List.getElem?_eq_some_iff.mp hx).1
    obtain ⟨y, hy⟩ : ∃ y, ys[i]? = some y := ⟨_, List.getElem?_eq_getElem (by omega)⟩
    refine hs i x y H _ _ hx hy p.1 (fun H4 s4 => ⟨ys.take i, s4 _ _ p.2, ?_, ?_, ?_⟩)
    · rw [List.length_take]
      exact Nat.lt_of_le_of_lt (Nat.min_le_left _ _) (small1000 (by omega))
    · intro b o e
      rw [upd_ne (ne_of_none e hD)]
      exact s4 _ _ (p.1 _ _ e)
    · rw [upd_same, List.take_add_one, hy]
      rfl
  · refine hd H p.1 ?_
    rw [p.2, List.take_of_length_le (by omega)]
/-! ### paired lists -/
theorem Paired.mono {α β : Type} {F G : α → β → Prop} {l₁ : List α} {l₂ : List β} (p : Paired F l₁ l₂) (f : ∀ a b, F a b → G a b) : Paired G l₁ l₂ := Paired.mapP p f
theorem Paired.takeP {α β : Type} {F : α → β → Prop} : ∀ {l₁ : List α} {l₂ : List β} (n : Nat), Paired F l₁ l₂ → Paired F (l₁.take n) (l₂.take n)
  | _, _, 0, _ => .nil
  | _, _, _ + 1, .nil => .nil
  | _, _, n + 1, .cons r t => .cons r (Paired.takeP n t)
theorem Paired.dropP {α β : Type} {F : α → β → Prop} : ∀ {l₁ : List α} {l₂ : List β} (n : Nat), Paired F l₁ l₂ → Paired F (l₁.drop n) (l₂.drop n)
  | _, _, 0, p => p
  | _, _, _ + 1, .nil => .nil
  | _, _, n + 1, .cons _ t => Paired.dropP n t
theorem Paired.at {α β : Type} {F : α → β → Prop} : ∀ {l₁ : List α} {l₂ : List β} {i : Nat} {x : α}, Paired F l₁ l₂ → l₁[i]? = some x → ∃ y, l₂[i]? = some y ∧ F x y
  | _, _, i, x, .nil, h => by simp at h
  | _, _, 0, x, .cons (a := a) r t, h => by
    have e : _ = x := Option.some.inj h
    subst e
    exact ⟨_, rfl, r⟩
  | _, _, i + 1, x, .cons r t, h => Paired.at (i := i) t h
theorem Paired.at2 {α β : Type} {F : α → β → Prop} : ∀ {l₁ : List α} {l₂ : List β} {i : Nat} {y : β}, Paired F l₁ l₂ → l₂[i]? = some y → ∃ x, l₁[i]? = some x ∧ F x y
  | _, _, i, y, .nil, h => by simp at h
  | _, _, 0, y, .cons r t, h => by
    have e : _ = y := Option.some.inj h
    subst e
    exact ⟨_, rfl, r⟩
  | _, _, i + 1, y, .cons r t, h => Paired.at2 (i := i) t h
theorem Paired.snocP {α β : Type} {F : α → β → Prop} : ∀ {l₁ : List α} {l₂ : List β} {x : α} {y : β}, Paired F l₁ l₂ → F x y → Paired F (l₁ ++ [x]) (l₂ ++ [y])
  | _, _, _, _, .nil, h => .cons h .nil
  | _, _, _, _, .cons r t, h => .cons r (Paired.snocP t h)
/-! ### rows, layers as they lie in the heap -/
abbrev RW := Int × Int
def RowAt (K : PySem.W.Frag) (H : Hp) (v : V) (r : RW) : Prop := ∃ p, v = .ref p ∧ SqT K H p [.int r.1, .int r.2]
def RowsAt (K : PySem.W.Frag) (H : Hp) (v : V) (rs : List RW) : Prop := ∃ p vs, v = .ref p ∧ SqT K H p vs ∧ Paired (RowAt K H) vs rs
def LayAt (K : PySem.W.Frag) (H : Hp) (v : V) (rs : List RW) (bk : Option Int) : Prop := ∃ p rv, v = .ref p ∧ SqT K H p [rv, bkV bk] ∧ RowsAt K H rv rs
def VRow (r : RW) : Prop := 0 ≤ r.1 ∧ r.1 ≤ 9 ∧ 1 ≤ r.2 ∧ r.2 ≤ 24
def VRows (rs : List RW) : Prop := rs.length ≤ 8 ∧ ∀ r ∈ rs, VRow r
def VBack (rs : List RW) (bk : Option Int) : Prop := ∀ i, bk = some i → 0 ≤ i ∧ i < rs.length
abbrev TKeep (K : PySem.W.Frag) (H H' : Hp) : Prop := ∀ a xs, SqT K H a xs → SqT K H' a xs
theorem Same.tk {K : PySem.W.Frag} {H H' : Hp} (s : Same H H') : TKeep K H H' := fun _ _ h => Same.sqT s h
theorem Gr.tk {st : Addr} {K : PySem.W.Frag} {H H' : Hp} (g : Gr st H H') (s : IsSt H st) : TKeep K H H' := fun _ _ h => g.sqT s h
theorem RowAt.keep {K : PySem.W.Frag} {H H' : Hp} {v : V} {r : RW} (k : TKeep K H H') : RowAt K H v r → RowAt K H' v r := fun ⟨p, e, h⟩ => ⟨p, e, k _ _ h⟩
theorem RowsAt.keep {K : PySem.W.Frag} {H H' : Hp} {v : V} {rs : List RW} (k : TKeep K H H') : RowsAt K H v rs → RowsAt K H' v rs := fun ⟨p, vs, e, h, q⟩ => ⟨p, vs, e, k _ _ h, Paired.mono q fun _ _ => RowAt.keep k⟩
theorem LayAt.keep {K : PySem.W.Frag} {H H' : Hp} {v : V} {rs : List RW} {bk : Option Int} (k : TKeep K H H') : LayAt K H v rs bk → LayAt K H' v rs bk := fun ⟨p, rv, e, h, q⟩ => ⟨p, rv, e, k _ _ h, q.keep k⟩
/-! ### what a layer shows -/
def tot (rs : List RW) : Int := (rs.map (·.2)).sum
theorem tot_nil : tot [] = 0 := rfl
theorem tot_cons (r : RW) (rs : List RW) : tot (r :: rs) = r.2 + tot rs := by
  unfold tot
  rw [List.map_cons, List.sum_cons]
theorem tot_append (rs qs : List RW) : tot (rs ++ qs) = tot rs + tot qs := by
  induction rs with
  | nil => simp [tot_nil]
  | cons r t ih =>
    rw [List.cons_append, tot_cons, tot_cons, ih]
    omega
theorem tot_split (rs : List RW) (k : Nat) : tot rs = tot (rs.take k) + tot (rs.drop k) := by
  rw [← tot_append, List.take_append_drop]
theorem tot_nonneg : ∀ {rs : List RW}, (∀ r ∈ rs, VRow r) → (rs.length : Int) ≤ tot rs ∧ tot rs ≤ 24 * rs.length
  | [], _ => by
    rw [tot_nil]
    exact ⟨Int.le_refl _, Int.le_refl _⟩
  | r :: t, h => by
    have h1 := h r (List.mem_cons_self ..)
    have ih := tot_nonneg (rs := t) fun q hq => h q (List.mem_cons_of_mem _ hq)
    rw [tot_cons, List.length_cons]
    obtain ⟨_, _, h3, h4⟩ := h1
    obtain ⟨i1, i2⟩ := ih
    constructor <;> omega
def walk : List RW → Int → Int
  | [], _ => 0
  | r :: t, m => if m < r.2 then r.1 else walk t (m - r.2)
def near (rs : List RW) (bk : Option Int) (m : Int) : Int := match bk with
  | none => m
  | some b => if m < tot (rs.take b.toNat) then m else tot (rs.take b.toNat) + (m - tot (rs.take b.toNat)) % tot (rs.drop b.toNat)
def shown (rs : List RW) (bk : Option Int) (m : Int) : Int := walk rs (near rs bk m)
theorem walk_out : ∀ (rs : List RW) (m : Int), tot rs ≤ m → (∀ r ∈ rs, VRow r) → walk rs m = 0
  | [], _, _, _ => rfl
  | r :: t, m, h, v => by
    have v1 := v r (List.mem_cons_self ..)
    have vt : ∀ q ∈ t, VRow q := fun q hq => v q (List.mem_cons_of_mem _ hq)
    have t0 := (tot_nonneg vt).1
    rw [tot_cons] at h
    unfold walk
    rw [if_neg (by omega)]
    exact walk_out t _ (by omega) vt
theorem walk_at : ∀ (rs : List RW) (p : Nat) (r : RW) (j : Int), rs[p]? = some r → (∀ r ∈ rs, VRow r) → 0 ≤ j → j < r.2 → walk rs (tot (rs.take p) + j) = r.1
  | [], p, r, j, h, _, _, _ => by simp at h
  | q :: t, 0, r, j, h, _, h0, h1 => by
    have e : q = r := Option.some.inj h
    subst e
    rw [List.take_zero, tot_nil]
    unfold walk
    rw [if_pos (by omega)]
  | q :: t, p + 1, r, j, h, v, h0, h1 => by
    have vq := v q (List.mem_cons_self ..)
    have vt : ∀ q ∈ t, VRow q := fun q hq => v q (List.mem_cons_of_mem _ hq)
    have tp : 0 ≤ tot (t.take p) := by
      have := (tot_nonneg (rs := t.take p) fun q hq => vt q (List.mem_of_mem_take hq)).1
      omega
    rw [List.take_succ_cons, tot_cons]
    unfold walk
    rw [if_neg (by omega), show q.2 + tot (t.take p) + j - q.2 = tot (t.take p) + j by omega]
    exact walk_at t p r j h vt h0 h1
theorem tot_take_le {rs : List RW} (v : ∀ r ∈ rs, VRow r) {p : Nat} {r : RW} (h : rs[p]? = some r) : tot (rs.take p) + r.2 ≤ tot rs := by
  have hp : p < rs.length := (List.getElem?_eq_some_iff.mp h).1
  have e : rs.take (p + 1) = rs.take p ++ [r] := by
    rw [List.take_add_one, h]
    rfl
  have s := tot_split rs (p + 1)
  rw [e, tot_append] at s
  have e1 : tot [r] = r.2 := by
    rw [tot_cons, tot_nil]
    omega
  have := (tot_nonneg (rs := rs.drop (p + 1)) fun q hq => v q (List.mem_of_mem_drop hq)).1
  omega
/-- the j-th picture of the row p, behind k more rounds -/
theorem shown_at {rs : List RW} {bk : Option Int} (v : ∀ r ∈ rs, VRow r) (vb : VBack rs bk) {p k : Nat} {r : RW} {j c : Int} (h : rs[p]? = some r) (h0 : 0 ≤ j) (h1 : j < r.2)
    (hc : ∀ b, bk = some b → c = tot (rs.drop b.toNat)) (hk : 0 < k → ∃ b, bk = some b ∧ b ≤ p) : shown rs bk (tot (rs.take p) + k * c + j) = r.1 := by
  have w := walk_at rs p r j h v h0 h1
  have tp : 0 ≤ tot (rs.take p) := by
    have := (tot_nonneg (rs := rs.take p) fun q hq => v q (List.mem_of_mem_take hq)).1
    omega
  unfold shown near
  cases bk with
  | none =>
    have k0 : k = 0 := by
      rcases Nat.eq_zero_or_pos k with z | z
      · exact z
      · obtain ⟨b, e, _⟩ := hk z
        cases e
    subst k0
    dsimp only
    rw [show tot (rs.take p) + ((0 : Nat) : Int) * c + j = tot (rs.take p) + j by simp]
    exact w
  | some b =>
    have hb := vb b rfl
    have ec := hc b rfl
    have s := tot_split rs b.toNat
    have le := tot_take_le v h
    rw [← ec] at s
    dsimp only
    rw [← ec]
    have cpos : 0 < c := by
      have := (tot_nonneg (rs := rs.drop b.toNat) fun q hq => v q (List.mem_of_mem_drop hq)).1
      rw [← ec, List.length_drop] at this
      omega
    rcases Nat.eq_zero_or_pos k with z | z
    · subst z
      rw [show tot (rs.take p) + ((0 : Nat) : Int) * c + j = tot (rs.take p) + j by simp]
      by_cases hm : tot (rs.take p) + j < tot (rs.take b.toNat)
      · rw [if_pos hm]
        exact w
      · rw [if_neg hm, Int.emod_eq_of_lt (by omega) (by omega)]
        rw [show tot (rs.take b.toNat) + (tot (rs.take p) + j - tot (rs.take b.toNat)) = tot (rs.take p) + j by omega]
        exact w
    · obtain ⟨b', e, hbp⟩ := hk z
      have e' : b = b' := Option.some.inj e
      subst e'
      have bp : b.toNat ≤ p := by omega
      have tb : tot (rs.take b.toNat) ≤ tot (rs.take p) := by
        have e1 : rs.take b.toNat = (rs.take p).take b.toNat := by
          rw [List.take_take, Nat.min_eq_left bp]
        have s1 := tot_split (rs.take p) b.toNat
        rw [← e1] at s1
        have := (tot_nonneg (rs := (rs.take p).drop b.toNat) fun q hq => v q (List.mem_of_mem_take (List.mem_of_mem_drop hq))).1
        omega
      have kc : 0 ≤ (k : Int) * c := Int.mul_nonneg (by omega) (by omega)
      rw [if_neg (by omega)]
      rw [show tot (rs.take p) + (k : Int) * c + j - tot (rs.take b.toNat) = (tot (rs.take p) + j - tot (rs.take b.toNat)) + c * k by rw [Int.mul_comm c]; omega, Int.add_mul_emod_self_left, Int.emod_eq_of_lt (by omega) (by omega)]
      rw [show tot (rs.take b.toNat) + (tot (rs.take p) + j - tot (rs.take b.toNat)) = tot (rs.take p) + j by omega]
      exact w
theorem shown_end {rs : List RW} (v : ∀ r ∈ rs, VRow r) {m : Int} (h : tot rs ≤ m) : shown rs none m = 0 := walk_out rs m h v
/-- a great moment is as the one so many whole rounds ahead -/
theorem shown_far {rs : List RW} {bk : Option Int} (v : ∀ r ∈ rs, VRow r) (vb : VBack rs bk) {m s : Int} (hs : s = match bk with | none => 1 | some b => tot (rs.drop b.toNat)) (h : tot rs ≤ m) :
    shown rs bk (tot rs + (m - tot rs) % s) = shown rs bk m := by
  cases bk with
  | none =>
    dsimp only at hs
    subst hs
    rw [shown_end v h, shown_end v (by omega)]
  | some b =>
    dsimp only at hs
    have hb := vb b rfl
    have e := tot_split rs b.toNat
    have spos : 0 < s := by
      have := (tot_nonneg (rs := rs.drop b.toNat) fun q hq => v q (List.mem_of_mem_drop hq)).1
      rw [← hs, List.length_drop] at this
      omega
    have hm := Int.emod_nonneg (m - tot rs) (show s ≠ 0 by omega)
    unfold shown near
    dsimp only
    rw [← hs] at e ⊢
    rw [if_neg (by omega), if_neg (by omega)]
    congr 2
    rw [show tot rs + (m - tot rs) % s - tot (rs.take b.toNat) = (m - tot rs) % s + s * 1 by omega, Int.add_mul_emod_self_left, Int.emod_emod,
      show m - tot (rs.take b.toNat) = (m - tot rs) + s * 1 by omega, Int.add_mul_emod_self_left]
theorem shown_walk_none (rs : List RW) (m : Int) : shown rs none m = walk rs m := rfl
/-! ### slices -/
theorem cut_to (xs : List V) (k : Nat) : cutV xs none (some (k : Int)) = xs.take k := by
  unfold cutV
  rw [HT.sIx_none, HT.sIx_nat, List.drop_zero, Nat.sub_zero]
  rcases Nat.le_total k xs.length with h | h
  · rw [Nat.min_eq_left h]
  · rw [Nat.min_eq_right h, List.take_length, List.take_of_length_le h]
theorem cut_from (xs : List V) (k : Nat) : cutV xs (some (k : Int)) none = xs.drop k := by
  unfold cutV
  rw [HT.sIx_none, HT.sIx_nat]
  rcases Nat.le_total k xs.length with h | h
  · rw [Nat.min_eq_left h, List.take_of_length_le (by rw [List.length_drop]; omega)]
  · rw [Nat.min_eq_right h, Nat.sub_self, List.take_zero, List.drop_of_length_le h]
theorem cut_all (xs : List V) : cutV xs none none = xs := by
  unfold cutV
  rw [HT.sIx_none, HT.sIx_none, List.drop_zero, Nat.sub_zero, List.take_length]
theorem cut_whole {xs : List V} {lo hi : Option Int} (h : HT.sIx xs.length 0 lo = 0 ∧ HT.sIx xs.length xs.length hi = xs.length) : cutV xs lo hi = xs := by
  unfold cutV
  rw [h.1, h.2, List.drop_zero, Nat.sub_zero, List.take_length]
theorem sl_rows {K : PySem.W.Frag} {H : Hp} {a : Addr} {xs : List V} {lo hi : Option Int} (rs : List RW) {R : VK} (hS : SqT K H a xs) (hp : Paired (RowAt K H) (cutV xs lo hi) rs) (h : ∀ H' v, Same H H' → RowsAt K H' v rs → R v H') :
    rSlA K (.ref a) lo hi H R := by
  refine ⟨a, xs, rfl, hS, fun w => h H _ (Same.refl _) ⟨a, xs, rfl, hS, ?_⟩, fun _ p np => ?_⟩
  · rw [cut_whole w] at hp
    exact hp
  · have s := same_upd (o := .tup (cutV xs lo hi)) np
    exact h _ _ s ⟨p, _, rfl, .inl (.inl upd_same), Paired.mono hp fun _ _ => RowAt.keep (Same.tk s)⟩
/-! ### windows -/
abbrev MV := Int × Int × Int
def MoveAt (K : PySem.W.Frag) (H : Hp) (v : V) (m : MV) : Prop := ∃ p, v = .ref p ∧ SqT K H p [.int m.1, .int m.2.1, .int m.2.2]
def MovesAt (K : PySem.W.Frag) (H : Hp) (v : V) (ms : List MV) : Prop := ∃ p vs, v = .ref p ∧ SqT K H p vs ∧ Paired (MoveAt K H) vs ms
def WinAt (K : PySem.W.Frag) (H : Hp) (v : V) (x y : Int) (ms : List MV) : Prop := ∃ p mv, v = .ref p ∧ SqT K H p [.int x, .int y, mv] ∧ MovesAt K H mv ms
def VMove (m : MV) : Prop := (-20 ≤ m.1 ∧ m.1 ≤ 20) ∧ (-20 ≤ m.2.1 ∧ m.2.1 ≤ 20) ∧ 0 ≤ m.2.2 ∧ m.2.2 ≤ 24
def VWin (x y : Int) (ms : List MV) : Prop := (-20 ≤ x ∧ x ≤ 20) ∧ (-20 ≤ y ∧ y ≤ 20) ∧ ms.length ≤ 8 ∧ ∀ m ∈ ms, VMove m
theorem MoveAt.keep {K : PySem.W.Frag} {H H' : Hp} {v : V} {m : MV} (k : TKeep K H H') : MoveAt K H v m → MoveAt K H' v m := fun ⟨p, e, h⟩ => ⟨p, e, k _ _ h⟩
theorem MovesAt.keep {K : PySem.W.Frag} {H H' : Hp} {v : V} {ms : List MV} (k : TKeep K H H') : MovesAt K H v ms → MovesAt K H' v ms := fun ⟨p, vs, e, h, q⟩ => ⟨p, vs, e, k _ _ h, Paired.mono q fun _ _ => MoveAt.keep k⟩
theorem WinAt.keep {K : PySem.W.Frag} {H H' : Hp} {v : V} {x y : Int} {ms : List MV} (k : TKeep K H H') : WinAt K H v x y ms → WinAt K H' v x y ms := fun ⟨p, mv, e, h, q⟩ => ⟨p, mv, e, k _ _ h, q.keep k⟩
def mtot (ms : List MV) : Int := (ms.map (·.2.2)).sum
/-! ### sheets -/
abbrev LY := List RW × Option Int
def LyAt (K : PySem.W.Frag) (H : Hp) (v : V) (l : LY) : Prop := LayAt K H v l.1 l.2
def LaysAt (K : PySem.W.Frag) (H : Hp) (v : V) (ls : List LY) : Prop := ∃ p vs, v = .ref p ∧ SqT K H p vs ∧ Paired (LyAt K H) vs ls
def VLy (l : LY) : Prop := VRows l.1 ∧ VBack l.1 l.2
def VLays (ls : List LY) : Prop := 1 ≤ ls.length ∧ ls.length ≤ 4 ∧ ∀ l ∈ ls, VLy l
def ShAt (K : PySem.W.Frag) (H : Hp) (v : V) (ls : List LY) (x y : Int) (ms : List MV) : Prop := ∃ p lv wv, v = .ref p ∧ SqT K H p [lv, wv] ∧ LaysAt K H lv ls ∧ WinAt K H wv x y ms
theorem LyAt.keep {K : PySem.W.Frag} {H H' : Hp} {v : V} {l : LY} (k : TKeep K H H') : LyAt K H v l → LyAt K H' v l := LayAt.keep k
theorem LaysAt.keep {K : PySem.W.Frag} {H H' : Hp} {v : V} {ls : List LY} (k : TKeep K H H') : LaysAt K H v ls → LaysAt K H' v ls := fun ⟨p, vs, e, h, q⟩ => ⟨p, vs, e, k _ _ h, Paired.mono q fun _ _ => LyAt.keep k⟩
theorem ShAt.keep {K : PySem.W.Frag} {H H' : Hp} {v : V} {ls : List LY} {x y : Int} {ms : List MV} (k : TKeep K H H') : ShAt K H v ls x y ms → ShAt K H' v ls x y ms := fun ⟨p, lv, wv, e, h, q, r⟩ => ⟨p, lv, wv, e, k _ _ h, q.keep k, r.keep k⟩
/-! ### places -/
def PlAt (K : PySem.W.Frag) (H : Hp) (v : V) (p : RW × RW) : Prop := ∃ a v1 v2, v = .ref a ∧ SqT K H a [v1, v2] ∧ RowAt K H v1 p.1 ∧ RowAt K H v2 p.2
theorem PlAt.keep {K : PySem.W.Frag} {H H' : Hp} {v : V} {p : RW × RW} (k : TKeep K H H') : PlAt K H v p → PlAt K H' v p := fun ⟨a, v1, v2, e, h, r1, r2⟩ => ⟨a, v1, v2, e, k _ _ h, r1.keep k, r2.keep k⟩
/-! ### pictures -/
abbrev PIC := List Int × (RW × RW)
def PicAt (K : PySem.W.Frag) (H : Hp) (v : V) (c : PIC) : Prop := ∃ a b v2, v = .ref a ∧ SqT K H a [.ref b, v2] ∧ SqT K H b (c.1.map V.int) ∧ PlAt K H v2 c.2
theorem PicAt.keep {K : PySem.W.Frag} {H H' : Hp} {v : V} {c : PIC} (k : TKeep K H H') : PicAt K H v c → PicAt K H' v c := fun ⟨a, b, v2, e, h, h1, h2⟩ => ⟨a, b, v2, e, k _ _ h, k _ _ h1, h2.keep k⟩
/-! ### fractions in lowest terms -/
def lo (t b : Int) : RW := (t / ((Nat.gcd t.natAbs b.natAbs : Nat) : Int), b / ((Nat.gcd t.natAbs b.natAbs : Nat) : Int))
theorem gcd_facts {t b : Int} (hb : 0 < b) : ∃ g t' b' : Int, ((Nat.gcd t.natAbs b.natAbs : Nat) : Int) = g ∧ 0 < g ∧ t = g * t' ∧ b = g * b' ∧ 0 < b' ∧ (lo t b) = (t', b') ∧ g ≤ b ∧ Nat.Coprime b'.natAbs t'.natAbs := by
  have g0 : 0 < Nat.gcd t.natAbs b.natAbs := Nat.gcd_pos_of_pos_right _ (by omega)
  obtain ⟨t', ht⟩ : ((Nat.gcd t.natAbs b.natAbs : Nat) : Int) ∣ t := Int.natAbs_dvd_natAbs.mp (by rw [Int.natAbs_natCast]; exact Nat.gcd_dvd_left _ _)
  obtain ⟨b', hb'⟩ : ((Nat.gcd t.natAbs b.natAbs : Nat) : Int) ∣ b := Int.natAbs_dvd_natAbs.mp (by rw [Int.natAbs_natCast]; exact Nat.gcd_dvd_right _ _)
  have gp : (0 : Int) < ((Nat.gcd t.natAbs b.natAbs : Nat) : Int) := by omega
  have bp : 0 < b' := Int.pos_of_mul_pos_left (a := b') (b := ((Nat.gcd t.natAbs b.natAbs : Nat) : Int)) (by rw [Int.mul_comm, ← hb']; exact hb) gp
  have gle : ((Nat.gcd t.natAbs b.natAbs : Nat) : Int) ≤ b := by
    have := Nat.gcd_le_right t.natAbs (show 0 < b.natAbs by omega)
    omega
  have cop : Nat.gcd b'.natAbs t'.natAbs = 1 := by
    have e1 : t.natAbs = Nat.gcd t.natAbs b.natAbs * t'.natAbs := by
      have := congrArg Int.natAbs ht
      rw [Int.natAbs_mul, Int.natAbs_natCast] at this
      exact this
    have e2 : b.natAbs = Nat.gcd t.natAbs b.natAbs * b'.natAbs := by
      have := congrArg Int.natAbs hb'
      rw [Int.natAbs_mul, Int.natAbs_natCast] at this
      exact this
    have e3 : Nat.gcd (Nat.gcd t.natAbs b.natAbs * t'.natAbs) (Nat.gcd t.natAbs b.natAbs * b'.natAbs) = Nat.gcd t.natAbs b.natAbs * Nat.gcd t'.natAbs b'.natAbs := Nat.gcd_mul_left _ _ _
    rw [← e1, ← e2] at e3
    rw [Nat.gcd_comm]
    exact Nat.eq_of_mul_eq_mul_left g0 (by rw [← e3, Nat.mul_one])
  refine ⟨_, t', b', rfl, gp, ht, hb', bp, ?_, gle, cop⟩
  unfold lo
  congr 1
  · conv => lhs; arg 1; rw [ht]
    exact Int.mul_ediv_cancel_left _ (by omega)
  · conv => lhs; arg 1; rw [hb']
    exact Int.mul_ediv_cancel_left _ (by omega)
theorem lo_mem {t b k : Int} (hb : 0 < b) : t * k % b = 0 ↔ (lo t b).2 ∣ k := by
  obtain ⟨g, t', b', _, gp, et, eb, bp, el, _, cop⟩ := gcd_facts (t := t) hb
  rw [el]
  show _ ↔ b' ∣ k
  constructor
  · intro h
    have h1 := Int.dvd_of_emod_eq_zero h
    rw [et, eb, Int.mul_assoc] at h1
    obtain ⟨c, hc⟩ := h1
    rw [Int.mul_assoc] at hc
    have h2 : b' ∣ t' * k := ⟨c, Int.eq_of_mul_eq_mul_left (by omega) hc⟩
    have h3 := Int.natAbs_dvd_natAbs.mpr h2
    rw [Int.natAbs_mul] at h3
    exact Int.natAbs_dvd_natAbs.mp (Nat.Coprime.dvd_of_dvd_mul_left cop h3)
  · rintro ⟨c, hc⟩
    apply Int.emod_eq_zero_of_dvd
    refine ⟨t' * c, ?_⟩
    rw [et, eb, hc]
    rw [Int.mul_assoc, Int.mul_assoc, Int.mul_left_comm t' b' c]
/-- the numbers from 1 to n that the law looks through -/
def ks (t b : Int) (n : Nat) : List Int := ((List.range n).map fun j => 1 + ((j : Nat) : Int)).filter fun k => decide (t * k % b = 0)
theorem ks_head {t b : Int} (hb : 0 < b) : (ks t b b.toNat)[0]? = some (lo t b).2 := by
  obtain ⟨g, t', b', _, gp, et, eb, bp, el, _, cop⟩ := gcd_facts (t := t) hb
  have hm : ∀ k, t * k % b = 0 ↔ b' ∣ k := fun k => by
    have := lo_mem (t := t) (k := k) hb
    rw [el] at this
    exact this
  rw [el]
  show (ks t b b.toNat)[0]? = some b'
  have ble : b' ≤ b := by
    rw [eb]
    have : 1 * b' ≤ g * b' := Int.mul_le_mul_of_nonneg_right (by omega) (by omega)
    omega
  unfold ks
  rw [List.filter_map, List.getElem?_map, ← List.head?_eq_getElem?, List.head?_filter]
  have e : (List.range b.toNat).find? ((fun k : Int => decide (t * k % b = 0)) ∘ fun j : Nat => 1 + (j : Int)) = some (b'.toNat - 1) := by
    rw [List.find?_range_eq_some]
    refine ⟨?_, List.mem_range.mpr (by omega), fun j hj => ?_⟩
    · show decide (t * (1 + ((b'.toNat - 1 : Nat) : Int)) % b = 0) = true
      rw [decide_eq_true_eq, hm, show 1 + ((b'.toNat - 1 : Nat) : Int) = b' by omega]
      exact Int.dvd_refl _
    · show (!decide (t * (1 + (j : Int)) % b = 0)) = true
      rw [Bool.not_eq_true', decide_eq_false_iff_not, hm]
      intro hd
      have := Int.le_of_dvd (by omega) hd
      omega
  rw [e]
  show some (1 + ((b'.toNat - 1 : Nat) : Int)) = some b'
  congr 1
  omega
theorem lo_top {t b : Int} (hb : 0 < b) : t * (lo t b).2 / b = (lo t b).1 := by
  obtain ⟨g, t', b', _, gp, et, eb, bp, el, _, cop⟩ := gcd_facts (t := t) hb
  rw [el]
  show t * b' / b = t'
  rw [et, show g * t' * b' = b * t' by rw [eb, Int.mul_assoc, Int.mul_assoc, Int.mul_comm t' b']]
  exact Int.mul_ediv_cancel_left _ (by omega)
/-! ### where a window stands -/
def plc (x y : Int) : List MV → Int → RW × RW
  | [], _ => ((x, 1), (y, 1))
  | m :: r, t => if t < m.2.2 then (lo (x * m.2.2 + (m.1 - x) * (t + 1)) m.2.2, lo (y * m.2.2 + (m.2.1 - y) * (t + 1)) m.2.2) else plc m.1 m.2.1 r (t - m.2.2)
theorem way_eq (x g n k : Int) : x * (n - k) + g * k = x * n + (g - x) * k := by
  rw [Int.mul_sub, Int.sub_mul]
  omega
theorem plc_nil (x y t : Int) : plc x y [] t = ((x, 1), (y, 1)) := rfl
theorem plc_cons (x y : Int) (m : MV) (r : List MV) (t : Int) : plc x y (m :: r) t = if t < m.2.2 then (lo (x * m.2.2 + (m.1 - x) * (t + 1)) m.2.2, lo (y * m.2.2 + (m.2.1 - y) * (t + 1)) m.2.2) else plc m.1 m.2.1 r (t - m.2.2) := rfl
theorem mtot_cons (m : MV) (r : List MV) : mtot (m :: r) = m.2.2 + mtot r := by
  unfold mtot
  rw [List.map_cons, List.sum_cons]
theorem mtot_nonneg : ∀ {ms : List MV}, (∀ m ∈ ms, VMove m) → 0 ≤ mtot ms ∧ mtot ms ≤ 24 * ms.length
  | [], _ => ⟨Int.le_refl _, Int.le_refl _⟩
  | m :: r, h => by
    have ih := mtot_nonneg (ms := r) fun q hq => h q (List.mem_cons_of_mem _ hq)
    obtain ⟨_, _, h3, h4⟩ := h m (List.mem_cons_self ..)
    rw [mtot_cons, List.length_cons]
    obtain ⟨i1, i2⟩ := ih
    constructor <;> omega
theorem plc_far : ∀ (ms : List MV) (x y a b : Int), (∀ m ∈ ms, VMove m) → mtot ms ≤ a → mtot ms ≤ b → plc x y ms a = plc x y ms b
  | [], _, _, _, _, _, _, _ => rfl
  | m :: r, x, y, a, b, h, ha, hb => by
    have hr : ∀ q ∈ r, VMove q := fun q hq => h q (List.mem_cons_of_mem _ hq)
    have := (mtot_nonneg hr).1
    rw [mtot_cons] at ha hb
    rw [plc_cons, plc_cons, if_neg (by omega), if_neg (by omega)]
    exact plc_far r _ _ _ _ hr (by omega) (by omega)
def pic (ls : List LY) (x y : Int) (ms : List MV) (m : Int) : PIC := (ls.map (fun l => shown l.1 l.2 m), plc x y ms m)
/-! ### the law's own helpers -/
theorem fm {x m : Int} (h : 0 < m) : 0 ≤ x.fmod m ∧ x.fmod m < m := by
  rw [Int.fmod_eq_emod_of_nonneg x (by omega)]
  exact ⟨Int.emod_nonneg _ (by omega), Int.emod_lt_of_pos _ h⟩
theorem tk_updL {K : PySem.W.Frag} {H : Hp} {D : Addr} {xs ys : List V} (h : H D = some (.lst xs)) : TKeep K H (upd H D (.lst ys)) := by
  intro a zs q
  rcases q with (q | ⟨o, q⟩) | q
  · refine .inl (.inl ?_)
    rw [upd_ne (ne_of q h (by intro z; cases z))]
    exact q
  · refine .inl (.inr ⟨o, ?_⟩)
    rw [upd_ne (ne_of q h (by intro z; cases z))]
    exact q
  · exact .inr q
inductive Fl : V → String → Bool → Prop
  | non : Fl .non "NoneType" false
  | bl (b : Bool) : Fl (.bl b) "bool" true
  | int (i : Int) : Fl (.int i) "int" false
theorem Fl.ty {K : PySem.W.Frag} {H : Hp} {x : V} {t : String} {b : Bool} (f : Fl x t b) : TyX K H x (.type t) := by
  cases f with
  | non => exact .base .non
  | bl b => exact .base (.bl b)
  | int i => exact .base (.int i)
theorem Fl.kit {x : V} {t : String} {b : Bool} (f : Fl x t b) : kitB t "bool" = some b := by
  cases f <;> decide +kernel
theorem Fl.kit2 {K : PySem.W.Frag} {x : V} {t : String} {b : Bool} (f : Fl x t b) : PySem.W.kitAny K (.type t) [.type "tuple", .type "list"] = some false := by
  cases f <;> exact kitAny_cons (kit_ty (r := false) (by decide +kernel)) (fun _ => kitAny_cons (kit_ty (r := false) (by decide +kernel)) (fun _ => kitAny_nil) (fun z => nomatch z)) (fun z => nomatch z)
theorem Fl.scal {x y : V} {t u : String} {b : Bool} (f : Fl x t b) (g : Fl y u b) : L2.scal x y = true := by
  cases f <;> cases g <;> rfl
theorem Fl.ne {x y : V} {t u : String} {b c : Bool} (f : Fl x t b) (g : Fl y u c) (h : b ≠ c) : x ≠ y := by
  cases f <;> cases g <;> first | exact absurd rfl h | (intro z; cases z)
theorem st_ne {H : Hp} {st p : Addr} (s : IsSt H st) (h : H p = none) : p ≠ st := by
  obtain ⟨x, y, hx, _⟩ := s
  exact fun z => by rw [z, hx] at h; cases h
theorem st_neT {H : Hp} {st p : Addr} {xs : List V} (s : IsSt H st) (h : H p = some (.tup xs)) : p ≠ st := by
  obtain ⟨x, y, hx, _⟩ := s
  exact ne_of h hx (by intro z; cases z)
/-! ### the law's own comparison, of equal data -/
theorem tyL {K : PySem.W.Frag} {H : Hp} {a : Addr} {xs : List V} (h : SqL K H a xs) : TyX K H (.ref a) (.type "list") := by
  rcases h with (h | ⟨o, h⟩) | ⟨o, its, n, h, c, _⟩
  · exact .base (.lst h)
  · exact .base (.frz h)
  · exact .kList h c
mutual
theorem Dp.sm {K : PySem.W.Frag} {H H' : Hp} (s : Same H H') : ∀ {v : V} {d : PyData}, Dp K H v d → Dp K H' v d
  | _, _, .non => .non
  | _, _, .bl b => .bl b
  | _, _, .int i => .int i
  | _, _, .str x => .str x
  | _, _, .lst h q => .lst (s.seq h) (DpAll.sm s q)
  | _, _, .tup h q => .tup (Same.sqT s h) (DpAll.sm s q)
theorem DpAll.sm {K : PySem.W.Frag} {H H' : Hp} (s : Same H H') : ∀ {v : List V} {d : List PyData}, DpAll K H v d → DpAll K H' v d
  | _, _, .nil => .nil
  | _, _, .cons h q => .cons (Dp.sm s h) (DpAll.sm s q)
end
theorem DpAll.at {K : PySem.W.Frag} {H : Hp} : ∀ {vs : List V} {ds : List PyData} {i : Nat} {v : V}, DpAll K H vs ds → vs[i]? = some v → ∃ d, ds[i]? = some d ∧ Dp K H v d
  | _, _, i, v, .nil, h => by simp at h
  | _, _, 0, v, .cons a t, h => by
    have e : _ = v := Option.some.inj h
    subst e
    exact ⟨_, rfl, a⟩
  | _, _, i + 1, v, .cons a t, h => DpAll.at (i := i) t h
theorem DpAll.len {K : PySem.W.Frag} {H : Hp} : ∀ {vs : List V} {ds : List PyData}, DpAll K H vs ds → vs.length = ds.length
  | _, _, .nil => rfl
  | _, _, .cons _ t => by rw [List.length_cons, List.length_cons, DpAll.len t]
def flD (d : PyData) : Prop := d = .none ∨ (∃ b, d = .bool b) ∨ ∃ i, d = .int i
def dOk : Nat → PyData → Prop
  | 0, d => flD d
  | n + 1, d => flD d ∨ ∃ ds, (d = .list ds ∨ d = .tuple ds) ∧ ds.length ≤ 1000 ∧ ∀ e ∈ ds, dOk n e
theorem flD.fl {K : PySem.W.Frag} {H : Hp} {x y : V} {d : PyData} (f : flD d) (hx : Dp K H x d) (hy : Dp K H y d) : x = y ∧ ∃ t b, Fl x t b := by
  rcases f with rfl | ⟨b, rfl⟩ | ⟨i, rfl⟩
  · cases hx
    cases hy
    exact ⟨rfl, _, _, .non⟩
  · cases hx
    cases hy
    exact ⟨rfl, _, _, .bl b⟩
  · cases hx
    cases hy
    exact ⟨rfl, _, _, .int i⟩
/-- a comprehension over a zip of two that stand still, each item True -/
theorem lc_zip {J : It} {xs ys : List V} {g : TG} {tt : TT} {te : TE} {vs : List Nat} {σ : L2.St} {H1 : Hp} {D : Addr} {Qd : Hp → Prop} (hl : ys.length = xs.length) (hz : xs.length ≤ 1000) (hD : H1 D = none)
    (st : ∀ H, Same H1 H → J.stop xs.length H) (go : ∀ (i : Nat) (H : Hp), Same H1 H → i < xs.length → J.go i H)
    (yl : ∀ (i : Nat) (H : Hp) (v : V) (H' : Hp), Same H1 H → J.yld i H v H' → ∃ T x y, v = .ref T ∧ H T = none ∧ H' = upd H T (.tup [x, y]) ∧ xs[i]? = some x ∧ ys[i]? = some y)
    (hs : ∀ (i : Nat) (x y : V) (T : Addr) (H : Hp) (R : V → Hp → Prop) (Z : Hp → Prop), xs[i]? = some x → ys[i]? = some y → Same H1 H → H T = some (.tup [x, y]) → (∀ H4, Same H H4 → R (.bl true) H4) →
      g (.ref T) (wipe σ vs) H fun σ2 H2 => wipe σ2 vs = wipe σ vs ∧ tt σ2 H2 fun b H3 => if b = true then te σ2 H3 R else Z H3)
    (hd : ∀ H, Same H1 H → H D = some (.lst ((List.replicate xs.length true).map V.bl)) → Qd H) :
    ∃ W : Nat → Nat → Hp → Prop, (∃ m, W 0 m (upd H1 D (.lst []))) ∧ ∀ i m H, W i m H →
      (J.stop i H ∧ Qd H) ∨ (J.go i H ∧ ∃ Nx : Hp → Prop, (∀ H', Nx H' → ∃ m', m' < m ∧ W (i + 1) m' H') ∧ ∀ x H', J.yld i H x H' → g x (wipe σ vs) H' fun σ2 H2 => wipe σ2 vs = wipe σ vs ∧ tt σ2 H2 fun b H3 =>
        if b = true then te σ2 H3 fun y H4 => ∃ acc, H4 D = some (.lst acc) ∧ acc.length < sizeLine ∧ Nx (upd H4 D (.lst (acc ++ [y]))) else Nx H3) := by
  refine ⟨fun i m H => m = xs.length - i ∧ i ≤ xs.length ∧ Same H1 H ∧ H D = some (.lst ((List.replicate i true).map V.bl)), ⟨xs.length, by simp, Nat.zero_le _, same_upd hD, upd_same⟩, ?_⟩
  rintro i m H ⟨rfl, hi, s1, eD⟩
  by_cases hlt : i < xs.length
  · refine .inr ⟨go i H s1 hlt, fun H' => Same H1 H' ∧ H' D = some (.lst ((List.replicate (i + 1) true).map V.bl)), fun H' p => ⟨xs.length - (i + 1), by omega, rfl, hlt, p⟩, fun v H' hy => ?_⟩
    obtain ⟨T, x, y, rfl, nT, rfl, hx, hy⟩ := yl i H v H' s1 hy
    have sT : Same H (upd H T (.tup [x, y])) := same_upd nT
    refine hs i x y T _ _ _ hx hy (s1.trans sT) upd_same (fun H4 s4 => ⟨_, s4 _ _ (sT _ _ eD), ?_, ?_, ?_⟩)
    · rw [List.length_map, List.length_replicate]
      exact small1000 (by omega)
    · intro b o e
      rw [upd_ne (ne_of_none e hD)]
      exact s4 _ _ (sT _ _ (s1 _ _ e))
    · rw [upd_same, List.replicate_succ', List.map_append]
      rfl
  · have e : i = xs.length := by omega
    subst e
    exact .inl ⟨st H s1, hd H s1 eD⟩
/-! ### a def that is entered where nothing is being shown: repr is known there -/
structure FnG (P : Program) (w : World) (K : PySem.W.Frag) (mg : Str → Option Value) (base : Heap) (k : Nat) (f : Addr) (fd : FuncData) (ps : List Str) (sp : Sp) : Prop where
  len : ∀ vs H Q E, sp vs H Q E → vs.length = ps.length
  run : ∀ (A : Around) (outer : List Env) (s : Shared) (H : Hp) (args : Args) (us : List Value) (vs : List V) (Q : VK) (E : XK), A.guards = some [] → Room k A → Env0 P w K mg base A outer s H → BindsTo s fd args (ps.zip us) →
    Vals vs us → sp vs H Q E → codeAny (model P w) A (.call (.ref f) args) (CR CX0 outer P w H s Q E) s
/-! ### a call goes by the def's body, in whatever context the body is read -/
/-- the def st stands at f, its code object is cdv -/
structure DefAt (K : PySem.W.Frag) (x qual : Str) (st : Stmt) (f : Addr) (fd : FuncData) (cdv : Value) : Prop where
  isFn : ∃ (kV doc pm : Value) (an : Option Addr) (ct : Value), fd = PySem.W.fnOf x qual (defArgs st) (defBody st) (defScope st) .none kV doc pm an cdv ct
  there : ∃ (oc : Value) (od : Option Addr) (osl : Array (Option Value)), K.lookup f = some ⟨oc, od, .func fd, osl⟩
  coded : PySem.W.codeIn K cdv qual = true
/-- what a call's value is, told by how the body ends -/
def given : Flow → Value
  | .ret u => u
  | _ => .none
/-- the state in which a body begins whose parameters ps hold us -/
abbrev Begun (qual : Str) (st : Stmt) (f : Addr) (cdv : Value) (ps : List Str) (us : List Value) (s s1 : Shared) : Prop :=
  InCallC s s.heap.objs.size (bindL (envOfC qual (defScope st) s.heap.objs.size f cdv).kindOf (ps.zip us) fun _ => none) (cellsFrom (s.heap.objs.size + 1) (defScope st).names [])
    (bindC (envOfC qual (defScope st) s.heap.objs.size f cdv).kindOf (ps.zip us) fun _ => none) s1
theorem given_by {X : Cx} {Q : VK} {fl : Flow} {s' : Shared} (none : X.ex = []) (h : SP X [] { nx := fun _ H' => Q .non H', rt := Q } fl s') : CE X.outer X.prog X.w X.H_0 X.s_0 Q (given fl) s' := by
  have told : ∀ {σ : L2.St} {H' : Hp} {v : V}, Inv X [] σ H' s' → RelV v (given fl) → Q v H' → CE X.outer X.prog X.w X.H_0 X.s_0 Q (given fl) s' := fun J rv q => ⟨_, _, J.os, J.bare, none ▸ J.base, J.hok, rv, q⟩
  match fl, h with
  | .ret _, ⟨_, _, _, J, rv, q⟩ => exact told J rv q
  | .next, ⟨_, _, J, q⟩ => exact told (v := .non) J rfl q
  | .brk, ⟨_, _, _, q⟩ | .cont, ⟨_, _, _, q⟩ => exact q.elim
section
variable {P : Program} {w : World} {K : PySem.W.Frag} {mg : Str → Option Value} {base : Heap}
theorem defAt_of {x qual : Str} {st : Stmt} {f : Addr} {fd : FuncData} (F : Fun K x qual st f fd) : ∃ cdv, DefAt K x qual st f fd cdv :=
  let ⟨oc, od, kV, doc, pm, an, cdv, ct, osl, e, l, c⟩ := F.ex
  ⟨cdv, ⟨kV, doc, pm, an, ct, e⟩, ⟨oc, od, osl, l⟩, c⟩
theorem DefAt.call {x qual : Str} {st : Stmt} {f : Addr} {fd : FuncData} {cdv : Value} {N ps : List Str} {A : Around} {outer : List Env} {s : Shared} {H : Hp} {args : Args} {us : List Value} {R : Result → Shared → Prop} (D : DefAt K x qual st f fd cdv) (S : FnScope N ps (defScope st))
    (room : A.depth < recursionLimit) (e0 : Env0 P w K mg base A outer s H) (hb : BindsTo s fd args (ps.zip us))
    (body : ∀ s1, Begun qual st f cdv ps us s s1 → wpAny (model P w) (A.deeper (envOfC qual (defScope st) s.heap.objs.size f cdv)) (execs (defBody st) (envOfC qual (defScope st) s.heap.objs.size f cdv)) (fun fl s' => R (.ok (.ret (given fl))) s')
      (fun e s' => wpAny (model P w) (A.deeper (envOfC qual (defScope st) s.heap.objs.size f cdv)) (leaving (envOfC qual (defScope st) s.heap.objs.size f cdv) e) (fun _ z => R (.error e) z) (fun e' z => R (.error e') z) s') s1) :
    codeAny (model P w) A (.call (.ref f) args) R s := by
  obtain ⟨⟨kV, doc, pm, an, ct, rfl⟩, ⟨oc, od, osl, there⟩, coded⟩ := D
  have stands : ∀ b o, base.get? b = some o → s.heap.get? b = some o := fun b o z => (e0.bs b o z).1
  have kin := e0.mod.kin.keeps stands
  apply codeAny_call_function room (kin f _ there) rfl S.co S.gen rfl (PySem.W.codeRec_of kin coded)
  apply hb
  apply wpAny_newFunctionEnv_cells S.kind
  · exact fun y hy => (S.par y.1 (List.of_mem_zip hy).1).imp id fun c => ⟨c, PySem.W.cellsFrom_some _ _ _ (.inl c)⟩
  · rintro _ rfl s1 begun
    exact ⟨(e0.mod.nolimit.keeps stands).keeps begun.toInCall.keep, codeAny_func (wpAny_mono (body s1 begun) (fun fl _ h => by cases fl <;> exact h) fun _ _ h => h)⟩
theorem fun_okG {x qual : Str} {st : Stmt} {f : Addr} {fd : FuncData} {N ps : List Str} {k : Nat} {sp : Sp} (F : Fun K x qual st f fd) (S : FnScope N ps (defScope st)) (ln : ∀ vs H Q E, sp vs H Q E → vs.length = ps.length)
    (hbody : ∀ (cdv : Value) (A : Around) (outer : List Env) (s : Shared) (H : Hp) (vs : List V) (Q : VK) (E : XK), A.guards = some [] → Room k (A.deeper (envOfC qual (defScope st) s.heap.objs.size f cdv)) → sp vs H Q E →
      ∃ t, PSs (cxOf CX0 P w K mg base N qual (defScope st) f cdv A outer s H E).nox (defBody st) t ∧ t { nx := fun _ H' => Q .non H', rt := Q } (L2.start N vs) H) : FnG P w K mg base (k + 1) f fd ps sp := by
  obtain ⟨cdv, D⟩ := defAt_of F
  refine ⟨ln, fun A outer s H args us vs Q E hgu hr e0 hb r hsp => D.call S hr.depth e0 hb fun s1 begun => ?_⟩
  obtain ⟨t, ht, hq⟩ := hbody cdv A outer s H vs Q E hgu (hr.deeper _) hsp
  exact thn (ht.nox.run [] s1 _ H _ (inv_start S hr.hd e0 (ln _ _ _ _ hsp) r begun) hq) fun _ _ h => given_by rfl h
/-- the law's call from such a promise -/
theorem law_callG {mb : Str → Option Value} {k : Nat} {fa a : Addr} {fd : FuncData} {x : Str} {sp : Sp} {s₁ : Shared} {vs : List Value} {ns : List Int}
    (KX : K.In s₁.heap) (hns : s₁.heap.Ns mainGlobals mg) (hb : s₁.heap.Ns builtinsNs mb) (hbb : ∀ x : Str, x ≠ "__name__" → mb x = bootBuiltins x) (hlim : s₁.heap.NoLimit)
    (hge : s₁.gens = #[]) (ha : s₁.heap.get? a = some { cls := .type "list", data := .seq vs.toArray }) (hi : IntsAre vs ns) (hl : ns.length ≤ sizeLine) (hr : Room k callerA)
    (F : ∀ base : Heap, K.In base → base.Ns mainGlobals mg → FnG P w K mg base k fa fd [x] sp)
    (hbind : ∀ (s : Shared) (u : Value), BindsTo s fd ⟨[u], []⟩ [(x, u)])
    (hsp : ∀ H : Hp, SqL K H a (ns.map V.int) → sp [.ref a] H (fun v _ => v = .bl true) fun _ _ _ => False) :
    codeAny (model P w) callerA (.call (.ref fa) ⟨[.ref a], []⟩)
      (fun r s' => r = .ok (.ret (.bool true)) ∧ OldK s₁.heap s'.heap ∧ s'.os = s₁.os ∧ AllBare s'.gens) s₁ := by
  have rv := vals_ints hi
  have lv := hi.length
  obtain ⟨H, hH⟩ : ∃ H : Hp, ∀ b, H b = if b = a ∧ K.lookup a = none then some (.frz { cls := .type "list", data := .seq vs.toArray } (.lst (ns.map V.int))) else none := ⟨fun b => _, fun _ => rfl⟩
  have some_of : ∀ {b u}, H b = some u → b = a ∧ K.lookup a = none ∧ u = .frz { cls := .type "list", data := .seq vs.toArray } (.lst (ns.map V.int)) := by
    intro b u e
    rw [hH b] at e
    by_cases c : b = a ∧ K.lookup a = none
    · rw [if_pos c] at e
      exact ⟨c.1, c.2, (Option.some.inj e).symm⟩
    · rw [if_neg c] at e
      cases e
  have none_of : ∀ {b o} {es : Array DictEntry} {ep : Nat}, s₁.heap.get? b = some o → o.data = .dict es ep → H b = none := by
    intro b o es ep e d
    cases c : H b with
    | none => rfl
    | some u =>
      obtain ⟨rfl, _, _⟩ := some_of c
      rw [ha] at e
      cases e
      cases d
  have hS : SqL K H a (ns.map V.int) := by
    cases hk : K.lookup a with
    | none => exact .inl (.inr ⟨_, by rw [hH a, if_pos ⟨rfl, hk⟩]⟩)
    | some o =>
      have e := KX a o hk
      rw [ha] at e
      cases e
      refine .inr ⟨_, vs.toArray, _, hk, rfl, rfl, rfl, ?_, by simpa using rv⟩
      rw [List.size_toArray, lv]
      exact hl
  have hok : HOk P w H s₁.heap := by
    intro b u e
    obtain ⟨rfl, _, rfl⟩ := some_of e
    refine ⟨ha, ?_, vs, _, rv, ha⟩
    rw [List.length_map]
    exact hl
  have nsB : ∀ {b : Addr} {m : Str → Option Value}, s₁.heap.Ns b m → (hidT s₁.heap H).Ns b m := by
    rintro b m ⟨o, es, ep, e, d, r⟩
    exact ⟨o, es, ep, hidT_get e (none_of e d), d, r⟩
  have kB : K.In (hidT s₁.heap H) := by
    intro b o e
    refine hidT_get (KX b o e) ?_
    cases c : H b with
    | none => rfl
    | some u =>
      obtain ⟨rfl, k0, _⟩ := some_of c
      rw [k0] at e
      cases e
  have md : Mod K mg (hidT s₁.heap H) := by
    obtain ⟨mc, h1, h2⟩ := hlim
    exact ⟨kB, nsB hns, ⟨mb, nsB hb, hbb⟩, ⟨mc, nsB h1, h2⟩⟩
  have e0 : Env0 P w K mg (hidT s₁.heap H) callerA [] s₁ H := by
    refine ⟨rfl, md, fun b o e => of_hidT e, Nat.le_of_eq (hidT_size _ _), trivial, ?_, hok, .of_eq hge⟩
    intro b hb
    exact absurd (show b ∈ ([] : List Addr) from hb) (by simp)
  have go := (F _ kB (nsB hns)).run callerA [] s₁ H ⟨[.ref a], []⟩ [.ref a] [.ref a] _ _ rfl hr e0
    (hbind s₁ (.ref a)) (.cons rfl .nil) (hsp H hS)
  refine codeAny_mono go fun r s' h => ?_
  cases r with
  | error e => exact h.elim
  | ok fl =>
    cases fl with
    | ret u =>
      obtain ⟨v, H', os, bare, un, hok', r', qv⟩ := h
      have qv' : v = .bl true := qv
      subst qv'
      obtain rfl : u = Value.bool true := r'
      refine ⟨rfl, OldK.of_keep fun b o e => ?_, os, bare⟩
      cases c : H b with
      | none =>
        refine un.keep b o e c ?_ (by simp)
        intro z
        exact absurd (show b ∈ ([] : List Addr) from z) (by simp)
      | some u =>
        obtain ⟨_, _, rfl⟩ := some_of c
        have c2 := un.frzs b _ _ c
        obtain ⟨e1, _⟩ := hok b _ c
        obtain ⟨e2, _⟩ := hok' b _ c2
        rw [e] at e1
        cases e1
        exact e2
    | next => exact False.elim h
    | brk => exact False.elim h
    | cont => exact False.elim h
end
theorem walk_ofG {l : PySem.W.OpenLaw} {n k : Nat} {q : Program} {loose : List Str} {XP : (Str → Option Value) → Heap → Prop} {YP : World → Heap → Prop} {d : DefRec} {K : Params → PySem.W.Frag} {sp : World → Sp} {x : Str}
    (hn : l.most = some n) (hn2 : n ≤ sizeLine) (hdf : d.params.defaults = []) (hr : Room k callerA) (hY : ∀ (w : World) (h : Heap), YP w h → (K w.params).In h)
    (F : ∀ (w : World) (mg : Str → Option Value) (fa : Addr) (h : Heap), (K w.params).In h → h.Ns mainGlobals mg → mg d.name = some (.ref fa) →
      ∃ fd : FuncData, (∀ (s : Shared) (u : Value), BindsTo s fd ⟨[u], []⟩ [(x, u)]) ∧
        ∀ base : Heap, (K w.params).In base → base.Ns mainGlobals mg → FnG l.prog w (K w.params) mg base k fa fd [x] (sp w))
    (hsp : ∀ (w : World) (H : Hp) (a : Addr) (ns : List Int), ns.length ≤ n → SqL (K w.params) H a (ns.map V.int) → sp w [.ref a] H (fun v _ => v = .bl true) fun _ _ _ => False) :
    PySem.W.WalkO q loose XP YP l.row.toRowW d [] (fun f vs => PySem.call f vs) := by
  refine Att.attach_call hn hdf fun w s₀ s₁ mg mb fa o pm cd doc a vs ns G Y _ _ _ hmg hobj hints hlen hge => ?_
  have KX := hY w _ Y
  obtain ⟨fd, hb, hF⟩ := F w mg fa _ KX G.T.g hmg
  exact law_callG KX G.T.g G.T.b G.T.builtins G.T.nolimit hge hobj hints (Nat.le_trans hlen hn2) hr hF hb
    (fun H hS => hsp w H a ns hlen hS)
/-! ### repr of data -/
def rRepr (K : PySem.W.Frag) : List V → Hp → VK → Prop := fun xs H Q => ∃ (a : Addr) (d : PyData) (S : Str), xs = [.ref a] ∧ Dp K H (.ref a) d ∧ d.showable = true ∧ d.hasDict = false ∧ d.depth ≤ 30 ∧ d.shown.length ≤ sizeLine ∧ d.shown = S ∧ Q (.str S) H
theorem call_repr {X : Cx} (hg : X.A.guards = some []) (hu : X.A.units + 64 < cLine) : CallR X (.builtin "repr") (rRepr X.K) := by
  intro pins s σ H xs us Q I r h
  obtain ⟨a, d, S, rfl, hd, hs, hnd, hdep, hsz, hS, q⟩ := h
  subst hS
  obtain ⟨u, rfl, rx⟩ := vals1 r
  cases (show u = Value.ref a from rx)
  obtain ⟨as, rd⟩ := Dp.reads I d _ _ hd rfl
  refine repr_of_reads' rd hs (fun z => by rw [hnd] at z; cases z) hg (by omega) (fun _ _ e => e) (fun h' u tk hk => ?_) hsz
  exact ⟨.str d.shown, H, I.kept hk, ⟨_, rfl⟩, q⟩
/-! ### data that can be shown -/
structure RO (k w : Nat) (d : PyData) : Prop where
  sh : d.showable = true
  nd : d.hasDict = false
  dp : d.depth ≤ k
  lv : d.leavesShort 13 = true
  wt : d.weight ≤ w
theorem RO.none {w : Nat} : RO 0 w .none := ⟨rfl, rfl, Nat.le_refl _, rfl, Nat.zero_le _⟩
theorem RO.bool {w : Nat} (b : Bool) : RO 0 w (.bool b) := ⟨rfl, rfl, Nat.le_refl _, rfl, Nat.zero_le _⟩
theorem RO.int {i : Int} (h1 : -999999999999 ≤ i) (h2 : i ≤ 999999999999) : RO 0 41 (.int i) := by
  have hl : i.natAbs.log2 < 41 := by
    rcases Nat.eq_zero_or_pos i.natAbs with e | e
    · rw [e]
      decide
    · exact (Nat.log2_lt (by omega)).mpr (Nat.lt_of_le_of_lt (show i.natAbs ≤ 999999999999 by omega) (by decide))
  refine ⟨decide_eq_true (by omega), rfl, Nat.le_refl _, decide_eq_true (PyData.shown_int_le2 h1 h2), ?_⟩
  show (if i == 0 then 0 else i.natAbs.log2 + 1) ≤ 41
  split <;> omega
theorem RO.more {k w k' w' : Nat} {d : PyData} (h : RO k w d) (h1 : k ≤ k') (h2 : w ≤ w') : RO k' w' d := ⟨h.sh, h.nd, Nat.le_trans h.dp h1, h.lv, Nat.le_trans h.wt h2⟩
theorem ro_all {k w : Nat} : ∀ {ds : List PyData}, (∀ e ∈ ds, RO k w e) → PyData.showableAll ds = true ∧ PyData.hasDictAll ds = false ∧ PyData.depthAll ds ≤ k ∧ PyData.leavesShortAll 13 ds = true ∧ PyData.weightAll ds ≤ ds.length * (w + 1)
  | [], _ => ⟨rfl, rfl, Nat.zero_le _, rfl, Nat.zero_le _⟩
  | d :: t, h => by
    obtain ⟨a, b, c, e, f⟩ := ro_all (ds := t) fun x hx => h x (List.mem_cons_of_mem _ hx)
    have h1 := h d (List.mem_cons_self ..)
    refine ⟨?_, ?_, ?_, ?_, ?_⟩
    · show (d.showable && PyData.showableAll t) = true
      rw [h1.sh, a]
      rfl
    · show (d.hasDict || PyData.hasDictAll t) = false
      rw [h1.nd, b]
      rfl
    · show max d.depth (PyData.depthAll t) ≤ k
      exact Nat.max_le.mpr ⟨h1.dp, c⟩
    · show (d.leavesShort 13 && PyData.leavesShortAll 13 t) = true
      rw [h1.lv, e]
      rfl
    · show d.weight + 1 + PyData.weightAll t ≤ (t.length + 1) * (w + 1)
      have := h1.wt
      rw [Nat.add_mul, Nat.one_mul]
      omega
theorem RO.tup {k w n : Nat} {ds : List PyData} (h : ∀ e ∈ ds, RO k w e) (hn : ds.length * (w + 1) ≤ n) : RO (k + 1) n (.tuple ds) := by
  obtain ⟨a, b, c, e, f⟩ := ro_all h
  exact ⟨a, b, Nat.succ_le_succ c, e, Nat.le_trans f hn⟩
theorem RO.lst {k w n : Nat} {ds : List PyData} (h : ∀ e ∈ ds, RO k w e) (hn : ds.length * (w + 1) ≤ n) : RO (k + 1) n (.list ds) := by
  obtain ⟨a, b, c, e, f⟩ := ro_all h
  exact ⟨a, b, Nat.succ_le_succ c, e, Nat.le_trans f hn⟩
theorem RO.fits {k w : Nat} {d : PyData} (h : RO k w d) (hw : w ≤ 1000000) : d.shown.length ≤ sizeLine := by
  have := PyData.shown_le 13 (by decide) d h.lv
  have := h.wt
  have e : sizeLine = 16777216 := by decide
  omega
/-! ### windows and places as data -/
theorem dpAll_of {K : PySem.W.Frag} {H : Hp} {β : Type} {R : V → β → Prop} {f : β → PyData} (h : ∀ v m, R v m → Dp K H v (f m)) : ∀ {vs : List V} {ms : List β}, Paired R vs ms → DpAll K H vs (ms.map f)
  | _, _, .nil => .nil
  | _, _, .cons r t => .cons (h _ _ r) (dpAll_of h t)
def rwD (r : RW) : PyData := .tuple [.int r.1, .int r.2]
def plD (p : RW × RW) : PyData := .tuple [rwD p.1, rwD p.2]
def mvD (m : MV) : PyData := .tuple [.int m.1, .int m.2.1, .int m.2.2]
def winD (x y : Int) (ms : List MV) : PyData := .tuple [.int x, .int y, .tuple (ms.map mvD)]
theorem RowAt.dp {K : PySem.W.Frag} {H : Hp} {v : V} {r : RW} : RowAt K H v r → Dp K H v (rwD r) := by
  rintro ⟨p, rfl, h⟩
  exact .tup h (.cons (.int _) (.cons (.int _) .nil))
theorem PlAt.dp {K : PySem.W.Frag} {H : Hp} {v : V} {p : RW × RW} : PlAt K H v p → Dp K H v (plD p) := by
  rintro ⟨a, v1, v2, rfl, h, r1, r2⟩
  exact .tup h (.cons r1.dp (.cons r2.dp .nil))
theorem MoveAt.dp {K : PySem.W.Frag} {H : Hp} {v : V} {m : MV} : MoveAt K H v m → Dp K H v (mvD m) := by
  rintro ⟨p, rfl, h⟩
  exact .tup h (.cons (.int _) (.cons (.int _) (.cons (.int _) .nil)))
theorem WinAt.dp {K : PySem.W.Frag} {H : Hp} {v : V} {x y : Int} {ms : List MV} : WinAt K H v x y ms → Dp K H v (winD x y ms) := by
  rintro ⟨p, mv, rfl, h, pm, vs, rfl, hq, pd⟩
  exact .tup h (.cons (.int _) (.cons (.int _) (.cons (.tup hq (dpAll_of (f := mvD) (fun _ _ h => MoveAt.dp h) pd)) .nil)))
theorem mem3 {α : Type} {a b c e : α} (h : e ∈ [a, b, c]) : e = a ∨ e = b ∨ e = c := by
  simpa using h
theorem mvD_ro {m : MV} (h : VMove m) : RO 1 126 (mvD m) := by
  obtain ⟨h1, h2, h3, h4⟩ := h
  refine RO.tup (k := 0) (w := 41) (fun e he => ?_) (by show 3 * 42 ≤ 126; decide)
  rcases mem3 he with rfl | rfl | rfl <;> exact RO.int (by omega) (by omega)
theorem winD_ro {x y : Int} {ms : List MV} (h : VWin x y ms) : RO 3 3051 (winD x y ms) := by
  obtain ⟨h1, h2, h3, h4⟩ := h
  refine RO.tup (k := 2) (w := 1016) (fun e he => ?_) (by show 3 * 1017 ≤ 3051; decide)
  rcases mem3 he with rfl | rfl | rfl
  · exact (RO.int (by omega) (by omega)).more (by omega) (by omega)
  · exact (RO.int (by omega) (by omega)).more (by omega) (by omega)
  · refine RO.tup (k := 1) (w := 126) (fun e he => ?_) ?_
    · obtain ⟨m, hm, rfl⟩ := List.mem_map.mp he
      exact mvD_ro (h4 m hm)
    · rw [List.length_map]
      omega
theorem ro_args {k w : Nat} {d : PyData} (h : RO k w d) (hk : k ≤ 30) (hw : w ≤ 1000000) : d.showable = true ∧ d.hasDict = false ∧ d.depth ≤ 30 ∧ d.shown.length ≤ sizeLine := ⟨h.sh, h.nd, Nat.le_trans h.dp hk, h.fits hw⟩
theorem fl_int (i : Int) : flD (.int i) := .inr (.inr ⟨i, rfl⟩)
theorem dOk_rw (r : RW) : dOk 1 (rwD r) := by
  refine .inr ⟨_, .inr rfl, (by show 2 ≤ 1000; decide), fun e he => ?_⟩
  rcases List.mem_cons.mp he with rfl | he
  · exact fl_int _
  · rw [List.mem_singleton.mp he]
    exact fl_int _
theorem dOk_pl (p : RW × RW) : dOk 2 (plD p) := by
  refine .inr ⟨_, .inr rfl, (by show 2 ≤ 1000; decide), fun e he => ?_⟩
  rcases List.mem_cons.mp he with rfl | he
  · exact dOk_rw _
  · rw [List.mem_singleton.mp he]
    exact dOk_rw _
/-! ### layers, sheets, pictures as data -/
def bkD : Option Int → PyData
  | none => .none
  | some i => .int i
def lyD (l : LY) : PyData := .tuple [.tuple (l.1.map rwD), bkD l.2]
def shD (ls : List LY) (x y : Int) (ms : List MV) : PyData := .tuple [.tuple (ls.map lyD), winD x y ms]
def picD (c : PIC) : PyData := .tuple [.tuple (c.1.map .int), plD c.2]
theorem bkD_dp {K : PySem.W.Frag} {H : Hp} (o : Option Int) : Dp K H (bkV o) (bkD o) := by
  cases o with
  | none => exact .non
  | some i => exact .int i
theorem LyAt.dp {K : PySem.W.Frag} {H : Hp} {v : V} {l : LY} : LyAt K H v l → Dp K H v (lyD l) := by
  rintro ⟨p, rv, rfl, h, pr, vs, rfl, hq, pd⟩
  exact .tup h (.cons (.tup hq (dpAll_of (f := rwD) (fun _ _ h => RowAt.dp h) pd)) (.cons (bkD_dp _) .nil))
theorem ShAt.dp {K : PySem.W.Frag} {H : Hp} {v : V} {ls : List LY} {x y : Int} {ms : List MV} : ShAt K H v ls x y ms → Dp K H v (shD ls x y ms) := by
  rintro ⟨p, lv, wv, rfl, h, ⟨pl, vs, rfl, hq, pd⟩, hw⟩
  exact .tup h (.cons (.tup hq (dpAll_of (f := lyD) (fun _ _ h => LyAt.dp h) pd)) (.cons hw.dp .nil))
theorem ints_dp {K : PySem.W.Frag} {H : Hp} : ∀ ns : List Int, DpAll K H (ns.map V.int) (ns.map .int)
  | [] => .nil
  | n :: r => .cons (.int n) (ints_dp r)
theorem PicAt.dp {K : PySem.W.Frag} {H : Hp} {v : V} {c : PIC} : PicAt K H v c → Dp K H v (picD c) := by
  rintro ⟨a, b, v2, rfl, h, h1, h2⟩
  exact .tup h (.cons (.tup h1 (ints_dp _)) (.cons h2.dp .nil))
theorem mem2 {α : Type} {a b e : α} (h : e ∈ [a, b]) : e = a ∨ e = b := by
  simpa using h
theorem rwD_ro {r : RW} (h : VRow r) : RO 1 84 (rwD r) := by
  obtain ⟨h1, h2, h3, h4⟩ := h
  refine RO.tup (k := 0) (w := 41) (fun e he => ?_) (by show 2 * 42 ≤ 84; decide)
  rcases mem2 he with rfl | rfl <;> exact RO.int (by omega) (by omega)
theorem lyD_ro {l : LY} (h : VLy l) : RO 3 1362 (lyD l) := by
  obtain ⟨⟨h8, hr⟩, hb⟩ := h
  refine RO.tup (k := 2) (w := 680) (fun e he => ?_) (by show 2 * 681 ≤ 1362; decide)
  rcases mem2 he with rfl | rfl
  · refine RO.tup (k := 1) (w := 84) (fun e he => ?_) ?_
    · obtain ⟨r, hm, rfl⟩ := List.mem_map.mp he
      exact rwD_ro (hr r hm)
    · rw [List.length_map]
      omega
  · cases e : l.2 with
    | none => exact RO.none.more (by omega) (Nat.le_refl _)
    | some i =>
      have := hb i e
      exact (RO.int (by omega) (by omega)).more (by omega) (by omega)
theorem shD_ro {ls : List LY} {x y : Int} {ms : List MV} (h : VLays ls) (hw : VWin x y ms) : RO 5 10906 (shD ls x y ms) := by
  obtain ⟨h1, h4, hl⟩ := h
  refine RO.tup (k := 4) (w := 5452) (fun e he => ?_) (by show 2 * 5453 ≤ 10906; decide)
  rcases mem2 he with rfl | rfl
  · refine RO.tup (k := 3) (w := 1362) (fun e he => ?_) ?_
    · obtain ⟨l, hm, rfl⟩ := List.mem_map.mp he
      exact lyD_ro (hl l hm)
    · rw [List.length_map]
      omega
  · exact (winD_ro hw).more (by omega) (by omega)
theorem dOk_up : ∀ {n : Nat} {d : PyData}, dOk n d → dOk (n + 1) d
  | 0, _, h => .inl h
  | n + 1, _, .inl h => .inl h
  | n + 1, _, .inr ⟨ds, h1, h2, h3⟩ => .inr ⟨ds, h1, h2, fun e he => dOk_up (h3 e he)⟩
theorem dOk_pic {c : PIC} (h : c.1.length ≤ 1000) : dOk 3 (picD c) := by
  refine .inr ⟨_, .inr rfl, (by show 2 ≤ 1000; decide), fun e he => ?_⟩
  rcases mem2 he with rfl | rfl
  · refine dOk_up (n := 1) (.inr ⟨_, .inr rfl, by rw [List.length_map]; exact h, fun e he => ?_⟩)
    obtain ⟨i, _, rfl⟩ := List.mem_map.mp he
    exact fl_int i
  · exact dOk_pl _
theorem dOk_pics {cs : List PIC} (h : cs.length ≤ 1000) (hc : ∀ c ∈ cs, c.1.length ≤ 1000) : dOk 4 (.list (cs.map picD)) := by
  refine .inr ⟨_, .inl rfl, by rw [List.length_map]; exact h, fun e he => ?_⟩
  obtain ⟨c, hm, rfl⟩ := List.mem_map.mp he
  exact dOk_pic (hc c hm)
theorem lcmap_list {K : PySem.W.Frag} {a : Addr} {xs : List V} {g : TG} {tt : TT} {te : TE} {vs : List Nat} {σ : L2.St} {H1 : Hp} {D : Addr} {Qd : Hp → Prop} (ys : List V) (hl : ys.length = xs.length) (hz : xs.length ≤ 1000) (hS : SqL K H1 a xs) (hD : H1 D = none)
    (hs : ∀ (i : Nat) (x y : V) (H : Hp) (R : V → Hp → Prop) (Z : Hp → Prop), xs[i]? = some x → ys[i]? = some y → Same H1 H → (∀ H4, Same H H4 → R y H4) → g x (wipe σ vs) H fun σ2 H2 => wipe σ2 vs = wipe σ vs ∧ tt σ2 H2 fun b H3 => if b = true then te σ2 H3 R else Z H3)
    (hd : ∀ H, Same H1 H → H D = some (.lst ys) → Qd H) :
    ∃ W : Nat → Nat → Hp → Prop, (∃ m, W 0 m (upd H1 D (.lst []))) ∧ ∀ i m H, W i m H →
      ((Itl K a).stop i H ∧ Qd H) ∨ ((Itl K a).go i H ∧ ∃ Nx : Hp → Prop, (∀ H', Nx H' → ∃ m', m' < m ∧ W (i + 1) m' H') ∧ ∀ x H', (Itl K a).yld i H x H' → g x (wipe σ vs) H' fun σ2 H2 => wipe σ2 vs = wipe σ vs ∧ tt σ2 H2 fun b H3 =>
        if b = true then te σ2 H3 fun y H4 => ∃ acc, H4 D = some (.lst acc) ∧ acc.length < sizeLine ∧ Nx (upd H4 D (.lst (acc ++ [y]))) else Nx H3) := by
  refine lc_list (K := K) (a := a) (xs := xs) (fun i H => Same H1 H ∧ H D = some (.lst (ys.take i))) ⟨same_upd hD, upd_same⟩ (fun i H _ p => p.1.seq hS) (fun i x H hx p => ?_) (fun H p => ?_)
  · have hi : i < xs.length := (List.getElem?_eq_some_iff.mp hx).1
    obtain ⟨y, hy⟩ : ∃ y, ys[i]? = some y := ⟨_, List.getElem?_eq_getElem (by omega)⟩
    refine hs i x y H _ _ hx hy p.1 (fun H4 s4 => ⟨ys.take i, s4 _ _ p.2, ?_, ?_, ?_⟩)
    · rw [List.length_take]
      exact Nat.lt_of_le_of_lt (Nat.min_le_left _ _) (small1000 (by omega))
    · intro b o e
      rw [upd_ne (ne_of_none e hD)]
      exact s4 _ _ (p.1 _ _ e)
    · rw [upd_same, List.take_add_one, hy]
      rfl
  · refine hd H p.1 ?_
    rw [p.2, List.take_of_length_le (by omega)]
/-! ### laying -/
def rnd (rs : List RW) : Option Int → Int
  | none => 0
  | some b => tot (rs.drop b.toNat)
def lays (rs : List RW) (bk : Option Int) (n : Nat) : List V := (List.range n).map fun i => V.int (shown rs bk (i : Nat))
theorem lays_at {rs : List RW} {bk : Option Int} {n i : Nat} (h : i < n) : (lays rs bk n)[i]? = some (.int (shown rs bk (i : Nat))) := by
  unfold lays
  rw [List.getElem?_map, List.getElem?_range h]
  rfl
theorem lays_len (rs : List RW) (bk : Option Int) (n : Nat) : (lays rs bk n).length = n := by
  unfold lays
  rw [List.length_map, List.length_range]
theorem lays_of {rs : List RW} {bk : Option Int} {n : Nat} {fs : List Int} (hl : n ≤ fs.length) (h : ∀ i, i < fs.length → fs[i]? = some (shown rs bk (i : Nat))) : (fs.map V.int).take n = lays rs bk n := by
  apply List.ext_getElem?
  intro i
  by_cases hi : i < n
  · rw [lays_at hi, List.getElem?_take_of_lt hi, List.getElem?_map, h i (by omega)]
    rfl
  · rw [List.getElem?_eq_none (by rw [List.length_take]; omega), List.getElem?_eq_none (by rw [lays_len]; omega)]
/-! ### laid out, row by row -/
/-- a walk over J: Body tells what is asked of a turn, Qd what is asked at the end -/
abbrev Goes (J : It) (Body : V → Hp → (Hp → Prop) → Prop) (Hs : Hp) (Qd : Hp → Prop) : Prop :=
  ∃ W : Nat → Nat → Hp → Prop, (∃ m, W 0 m Hs) ∧ ∀ i m H, W i m H →
    (J.stop i H ∧ Qd H) ∨ (J.go i H ∧ ∃ Nx : Hp → Prop, (∀ H', Nx H' → ∃ m', m' < m ∧ W (i + 1) m' H') ∧ ∀ x H', J.yld i H x H' → Body x H' Nx)
/-- n turns: Pv i stands when i of them are done -/
theorem goes_by {J : It} {n : Nat} {Body : V → Hp → (Hp → Prop) → Prop} {Hs : Hp} {Qd : Hp → Prop} (Pv : Nat → Hp → Prop) (h0 : Pv 0 Hs) (last : ∀ H, Pv n H → J.stop n H ∧ Qd H)
    (turn : ∀ i H, i < n → Pv i H → J.go i H ∧ ∀ x H', J.yld i H x H' → Body x H' (Pv (i + 1))) : Goes J Body Hs Qd := by
  refine ⟨fun done left H => done + left = n ∧ Pv done H, ⟨n, Nat.zero_add n, h0⟩, fun i left H here => ?_⟩
  cases left with
  | zero =>
    obtain ⟨rfl, p⟩ := here
    exact .inl (last H p)
  | succ less =>
    have now := turn i H (by have := here.1; omega) here.2
    exact .inr ⟨now.1, Pv (i + 1), fun H' p => ⟨less, Nat.lt_succ_self less, by have := here.1; omega, p⟩, now.2⟩
theorem wk_tup {K : PySem.W.Frag} {a : Addr} {xs : List V} {Body : V → Hp → (Hp → Prop) → Prop} {Hs : Hp} {Qd : Hp → Prop} (Pv : Nat → Hp → Prop) (h0 : Pv 0 Hs) (hl : ∀ i H, i ≤ xs.length → Pv i H → SqT K H a xs)
    (hs : ∀ i x H, xs[i]? = some x → Pv i H → Body x H (Pv (i + 1))) (hd : ∀ H, Pv xs.length H → Qd H) : Goes (Itt K a) Body Hs Qd :=
  goes_by (n := xs.length) Pv h0 (fun H p => ⟨⟨xs, hl _ H (Nat.le_refl _) p, Nat.le_refl _⟩, hd H p⟩) fun i H lt p =>
    have stays := hl i H (Nat.le_of_lt lt) p
    ⟨⟨xs, _, stays, List.getElem?_eq_getElem lt⟩, fun x _ y => y.1 ▸ hs i x H (y.2 xs stays) p⟩
theorem wk_list {K : PySem.W.Frag} {a : Addr} {xs : List V} {Body : V → Hp → (Hp → Prop) → Prop} {Hs : Hp} {Qd : Hp → Prop} (Pv : Nat → Hp → Prop) (h0 : Pv 0 Hs) (hl : ∀ i H, i ≤ xs.length → Pv i H → SqL K H a xs)
    (hs : ∀ i x H, xs[i]? = some x → Pv i H → Body x H (Pv (i + 1))) (hd : ∀ H, Pv xs.length H → Qd H) : Goes (Itl K a) Body Hs Qd :=
  goes_by (n := xs.length) Pv h0 (fun H p => ⟨⟨xs, hl _ H (Nat.le_refl _) p, Nat.le_refl _⟩, hd H p⟩) fun i H lt p =>
    have stays := hl i H (Nat.le_of_lt lt) p
    ⟨⟨xs, _, stays, List.getElem?_eq_getElem lt⟩, fun x _ y => y.1 ▸ hs i x H (y.2 xs stays) p⟩
theorem wk_range {lo : Int} {n : Nat} {Body : V → Hp → (Hp → Prop) → Prop} {Hs : Hp} {Qd : Hp → Prop} (Pv : Nat → Hp → Prop) (h0 : Pv 0 Hs)
    (hs : ∀ i H, i < n → Pv i H → Body (.int (lo + i)) H (Pv (i + 1))) (hd : ∀ H, Pv n H → Qd H) : Goes (Itr lo n) Body Hs Qd :=
  goes_by Pv h0 (fun H p => ⟨Nat.le_refl n, hd H p⟩) fun i H lt p => ⟨lt, fun _ _ y => y.1 ▸ y.2 ▸ hs i H lt p⟩
theorem yes_ok2 {σ : L2.St} {H : Hp} {X Z : Hp → Prop} (h : X H) : tYes σ H (fun b H3 => if b = true then X H3 else Z H3) := by
  show if true = true then X H else Z H
  rw [if_pos rfl]
  exact h
def dwg : List RW → List Int
  | [] => []
  | r :: t => List.replicate r.2.toNat r.1 ++ dwg t
theorem dwg_append (a b : List RW) : dwg (a ++ b) = dwg a ++ dwg b := by
  induction a with
  | nil => rfl
  | cons r t ih => rw [List.cons_append, dwg, dwg, ih, List.append_assoc]
theorem dwg_len : ∀ {rs : List RW}, (∀ r ∈ rs, VRow r) → ((dwg rs).length : Int) = tot rs
  | [], _ => rfl
  | r :: t, v => by
    have v1 := v r (List.mem_cons_self ..)
    have ih := dwg_len (rs := t) fun q hq => v q (List.mem_cons_of_mem _ hq)
    rw [dwg, List.length_append, List.length_replicate, tot_cons]
    obtain ⟨_, _, h3, _⟩ := v1
    omega
theorem dwg_at : ∀ {rs : List RW} {i : Nat}, (∀ r ∈ rs, VRow r) → (i : Int) < tot rs → (dwg rs)[i]? = some (walk rs i)
  | [], i, _, h => by
    rw [tot_nil] at h
    omega
  | r :: t, i, v, h => by
    have v1 := v r (List.mem_cons_self ..)
    have vt : ∀ q ∈ t, VRow q := fun q hq => v q (List.mem_cons_of_mem _ hq)
    obtain ⟨_, _, h3, _⟩ := v1
    rw [tot_cons] at h
    rw [dwg]
    unfold walk
    by_cases c : (i : Int) < r.2
    · rw [if_pos c, List.getElem?_append_left (by rw [List.length_replicate]; omega), List.getElem?_replicate, if_pos (by omega)]
    · rw [if_neg c, List.getElem?_append_right (by rw [List.length_replicate]; omega), List.length_replicate]
      have := dwg_at (rs := t) (i := i - r.2.toNat) vt (by omega)
      rw [this]
      congr 2
      omega
theorem walk_cons (r : RW) (t : List RW) (m : Int) : walk (r :: t) m = if m < r.2 then r.1 else walk t (m - r.2) := rfl
theorem walk_append : ∀ {a b : List RW} {m : Int}, (∀ r ∈ a, VRow r) → 0 ≤ m → walk (a ++ b) m = if m < tot a then walk a m else walk b (m - tot a)
  | [], b, m, _, h => by
    rw [tot_nil, if_neg (by omega), List.nil_append, show m - 0 = m by omega]
  | r :: t, b, m, v, h => by
    have v1 := v r (List.mem_cons_self ..)
    have vt : ∀ q ∈ t, VRow q := fun q hq => v q (List.mem_cons_of_mem _ hq)
    have t0 := (tot_nonneg vt).1
    obtain ⟨_, _, h3, _⟩ := v1
    rw [List.cons_append, tot_cons, walk_cons, walk_cons]
    by_cases c : m < r.2
    · rw [if_pos c, if_pos (by omega), if_pos c]
    · rw [if_neg c, walk_append vt (by omega), if_neg c]
      by_cases d : m < r.2 + tot t
      · rw [if_pos d, if_pos (by omega)]
      · rw [if_neg d, if_neg (by omega), show m - r.2 - tot t = m - (r.2 + tot t) by omega]
theorem rep_at {α : Type} {B : List α} (hB : 0 < B.length) : ∀ (t j : Nat), j < t * B.length → (List.replicate t B).flatten[j]? = B[j % B.length]?
  | 0, j, h => by omega
  | t + 1, j, h => by
    rw [List.replicate_succ, List.flatten_cons]
    by_cases c : j < B.length
    · rw [List.getElem?_append_left c, Nat.mod_eq_of_lt c]
    · rw [List.getElem?_append_right (by omega), rep_at hB t (j - B.length) (by rw [Nat.add_mul, Nat.one_mul] at h; omega), ← Nat.mod_eq_sub_mod (by omega)]
/-- what a layer shows: ahead once, around again and again -/
def ahL (rs : List RW) : Option Int → List Int
  | none => dwg rs
  | some b => dwg (rs.take b.toNat)
def arL (rs : List RW) : Option Int → List Int
  | none => [0]
  | some b => dwg (rs.drop b.toNat)
theorem VRows.takeV {rs : List RW} (v : VRows rs) (k : Nat) : VRows (rs.take k) := ⟨by rw [List.length_take]; have := v.1; omega, fun r hr => v.2 r (List.mem_of_mem_take hr)⟩
theorem VRows.dropV {rs : List RW} (v : VRows rs) (k : Nat) : VRows (rs.drop k) := ⟨by rw [List.length_drop]; have := v.1; omega, fun r hr => v.2 r (List.mem_of_mem_drop hr)⟩
theorem ahL_len {rs : List RW} {bk : Option Int} (v : VRows rs) : (ahL rs bk).length ≤ 192 := by
  cases bk with
  | none =>
    have h := dwg_len v.2
    have t := (tot_nonneg v.2).2
    have := v.1
    show (dwg rs).length ≤ 192
    omega
  | some b =>
    have h := dwg_len (v.takeV b.toNat).2
    have t := (tot_nonneg (v.takeV b.toNat).2).2
    have := (v.takeV b.toNat).1
    show (dwg (rs.take b.toNat)).length ≤ 192
    omega
theorem arL_len {rs : List RW} {bk : Option Int} (v : VRows rs) (vb : VBack rs bk) : 1 ≤ (arL rs bk).length ∧ (arL rs bk).length ≤ 192 := by
  cases bk with
  | none => exact ⟨Nat.le_refl _, by show 1 ≤ 192; omega⟩
  | some b =>
    have hb := vb b rfl
    have h := dwg_len (v.dropV b.toNat).2
    have t := tot_nonneg (v.dropV b.toNat).2
    have := v.1
    rw [List.length_drop] at t
    show 1 ≤ (dwg (rs.drop b.toNat)).length ∧ (dwg (rs.drop b.toNat)).length ≤ 192
    omega
theorem shown_lay {rs : List RW} {bk : Option Int} (v : VRows rs) (vb : VBack rs bk) (i : Nat) :
    some (shown rs bk i) = if i < (ahL rs bk).length then (ahL rs bk)[i]? else (arL rs bk)[(i - (ahL rs bk).length) % (arL rs bk).length]? := by
  cases bk with
  | none =>
    have h := dwg_len v.2
    show some (walk rs i) = if i < (dwg rs).length then (dwg rs)[i]? else ([0] : List Int)[(i - (dwg rs).length) % 1]?
    by_cases c : i < (dwg rs).length
    · rw [if_pos c, dwg_at v.2 (by omega)]
    · rw [if_neg c, walk_out rs i (by omega) v.2, Nat.mod_one]
      rfl
  | some b =>
    have hb := vb b rfl
    have h := dwg_len (v.takeV b.toNat).2
    have h2 := dwg_len (v.dropV b.toNat).2
    have t2 := (tot_nonneg (v.dropV b.toNat).2).1
    rw [List.length_drop] at t2
    have cpos : 0 < tot (rs.drop b.toNat) := by omega
    show some (walk rs (if (i : Int) < tot (rs.take b.toNat) then (i : Int) else tot (rs.take b.toNat) + ((i : Int) - tot (rs.take b.toNat)) % tot (rs.drop b.toNat))) = if i < (dwg (rs.take b.toNat)).length then (dwg (rs.take b.toNat))[i]? else (dwg (rs.drop b.toNat))[(i - (dwg (rs.take b.toNat)).length) % (dwg (rs.drop b.toNat)).length]?
    have wa := fun m h0 => walk_append (a := rs.take b.toNat) (b := rs.drop b.toNat) (m := m) (v.takeV b.toNat).2 h0
    rw [List.take_append_drop] at wa
    by_cases c : i < (dwg (rs.take b.toNat)).length
    · rw [if_pos c, if_pos (by omega), wa _ (by omega), if_pos (by omega), dwg_at (v.takeV b.toNat).2 (by omega)]
    · have m0 := Int.emod_nonneg ((i : Int) - tot (rs.take b.toNat)) (show tot (rs.drop b.toNat) ≠ 0 by omega)
      have m1 := Int.emod_lt_of_pos ((i : Int) - tot (rs.take b.toNat)) cpos
      have t1 := (tot_nonneg (v.takeV b.toNat).2).1
      have em : (((i - (dwg (rs.take b.toNat)).length) % (dwg (rs.drop b.toNat)).length : Nat) : Int) = ((i : Int) - tot (rs.take b.toNat)) % tot (rs.drop b.toNat) := by
        rw [Int.natCast_emod, h2, Int.natCast_sub (by omega), h]
      rw [if_neg c, if_neg (by omega), wa _ (by omega), if_neg (by omega), dwg_at (v.dropV b.toNat).2 (by omega), em]
      congr 2
      omega
def laysI (rs : List RW) (bk : Option Int) (n : Nat) : List Int := (List.range n).map fun i => shown rs bk (i : Nat)
theorem laysI_map (rs : List RW) (bk : Option Int) (n : Nat) : lays rs bk n = (laysI rs bk n).map V.int := by
  unfold lays laysI
  rw [List.map_map]
  rfl
theorem first_lay {rs : List RW} {bk : Option Int} (v : VRows rs) (vb : VBack rs bk) {n t : Nat} (ht : n ≤ (ahL rs bk).length + t * (arL rs bk).length) :
    ((ahL rs bk) ++ (List.replicate t (arL rs bk)).flatten).take n = laysI rs bk n := by
  have hp := (arL_len v vb).1
  apply List.ext_getElem?
  intro i
  unfold laysI
  by_cases hi : i < n
  · rw [List.getElem?_take_of_lt hi, List.getElem?_map, List.getElem?_range hi]
    show _ = some (shown rs bk (i : Nat))
    rw [shown_lay v vb]
    by_cases c : i < (ahL rs bk).length
    · rw [if_pos c, List.getElem?_append_left c]
    · rw [if_neg c, List.getElem?_append_right (by omega), rep_at (by omega) t _ (by omega)]
  · rw [List.getElem?_eq_none (by rw [List.length_take]; omega), List.getElem?_eq_none (by rw [List.length_map, List.length_range]; omega)]
/-! ### data that is compared -/
mutual
def nb : PyData → Bool
  | .none => true
  | .int _ => true
  | .str x => PyData.strOk x
  | .bool _ => false
  | .list xs => nbs xs
  | .tuple xs => nbs xs
  | .dict _ => false
def nbs : List PyData → Bool
  | [] => true
  | x :: xs => nb x && nbs xs
end
theorem nbs_all : ∀ {xs : List PyData}, (∀ x ∈ xs, nb x = true) → nbs xs = true
  | [], _ => rfl
  | x :: xs, h => by
    show (nb x && nbs xs) = true
    rw [h x (List.mem_cons_self ..), nbs_all fun y hy => h y (List.mem_cons_of_mem _ hy)]
    rfl
mutual
theorem nb_can : ∀ d : PyData, nb d = true → d.canLay0 = true
  | .none, _ => rfl
  | .int _, _ => rfl
  | .str x, h => h
  | .bool _, h => nomatch h
  | .list xs, h => nbs_can xs h
  | .tuple xs, h => nbs_can xs h
  | .dict _, h => nomatch h
theorem nbs_can : ∀ xs : List PyData, nbs xs = true → PyData.canLayAll0 xs = true
  | [], _ => rfl
  | x :: xs, h => by
    have h' : (nb x && nbs xs) = true := h
    rw [Bool.and_eq_true] at h'
    show (x.canLay0 && PyData.canLayAll0 xs) = true
    rw [nb_can x h'.1, nbs_can xs h'.2]
    rfl
end
mutual
theorem nb_eq : ∀ d e : PyData, nb d = true → nb e = true → (PyData.eqv d e = true → d = e)
  | .none, e, _, h => by cases e <;> first | (intro _; rfl) | (intro z; cases z) | (cases h)
  | .int i, e, _, h => by
    cases e <;> first | (intro z; cases z) | (cases h) | skip
    intro z
    rw [PyData.eqv] at z
    rw [eq_of_beq z]
  | .str x, e, _, h => by
    cases e <;> first | (intro z; cases z) | (cases h) | skip
    intro z
    rw [PyData.eqv] at z
    rw [eq_of_beq z]
  | .bool _, _, h, _ => nomatch h
  | .list xs, e, h0, h => by
    cases e <;> first | (intro z; cases z) | (cases h) | skip
    intro z
    rw [PyData.eqv] at z
    rw [nbs_eq xs _ h0 h z]
  | .tuple xs, e, h0, h => by
    cases e <;> first | (intro z; cases z) | (cases h) | skip
    intro z
    rw [PyData.eqv] at z
    rw [nbs_eq xs _ h0 h z]
  | .dict _, _, h, _ => nomatch h
theorem nbs_eq : ∀ xs ys : List PyData, nbs xs = true → nbs ys = true → (PyData.eqvAll xs ys = true → xs = ys)
  | [], [], _, _ => fun _ => rfl
  | [], _ :: _, _, _ => fun z => nomatch z
  | _ :: _, [], _, _ => fun z => nomatch z
  | x :: xs, y :: ys, h0, h => by
    intro z
    have h0' : (nb x && nbs xs) = true := h0
    have h' : (nb y && nbs ys) = true := h
    rw [Bool.and_eq_true] at h0' h'
    rw [PyData.eqvAll, Bool.and_eq_true] at z
    rw [nb_eq x y h0'.1 h'.1 z.1, nbs_eq xs ys h0'.2 h'.2 z.2]
end
theorem nb_eqv {d e : PyData} (h0 : nb d = true) (h : nb e = true) : PyData.eqv d e = true ↔ d = e :=
  ⟨nb_eq d e h0 h, fun z => by rw [z]; exact SeqAt.eqv_refl e (nb_can e h)⟩
/-- may be compared: depth at most k -/
structure Sd (k : Nat) (d : PyData) : Prop where
  nb : nb d = true
  dp : d.depth ≤ k
theorem Sd.int {k : Nat} (i : Int) : Sd k (.int i) := ⟨rfl, Nat.zero_le _⟩
theorem Sd.none {k : Nat} : Sd k .none := ⟨rfl, Nat.zero_le _⟩
theorem Sd.more {k k' : Nat} {d : PyData} (h : Sd k d) (h1 : k ≤ k') : Sd k' d := ⟨h.nb, Nat.le_trans h.dp h1⟩
theorem sd_all {k : Nat} : ∀ {ds : List PyData}, (∀ e ∈ ds, Sd k e) → PyData.depthAll ds ≤ k
  | [], _ => Nat.zero_le _
  | d :: t, h => Nat.max_le.mpr ⟨(h d (List.mem_cons_self ..)).dp, sd_all fun x hx => h x (List.mem_cons_of_mem _ hx)⟩
theorem Sd.tup {k : Nat} {ds : List PyData} (h : ∀ e ∈ ds, Sd k e) : Sd (k + 1) (.tuple ds) := ⟨nbs_all fun x hx => (h x hx).nb, Nat.succ_le_succ (sd_all h)⟩
theorem Sd.lst {k : Nat} {ds : List PyData} (h : ∀ e ∈ ds, Sd k e) : Sd (k + 1) (.list ds) := ⟨nbs_all fun x hx => (h x hx).nb, Nat.succ_le_succ (sd_all h)⟩
theorem Sd.sh {k : Nat} {d : PyData} (h : Sd k d) (hk : k ≤ 64) : SeqAt.shaped d = true := by
  show (d.canLay0 && decide (d.depth ≤ 64)) = true
  rw [nb_can d h.nb, decide_eq_true (Nat.le_trans h.dp hk)]
  rfl
theorem Sd.ints {ns : List Int} : Sd 1 (.list (ns.map .int)) := Sd.lst fun e he => by
  obtain ⟨i, _, rfl⟩ := List.mem_map.mp he
  exact Sd.int i
theorem Sd.intsT {ns : List Int} : Sd 1 (.tuple (ns.map .int)) := Sd.tup fun e he => by
  obtain ⟨i, _, rfl⟩ := List.mem_map.mp he
  exact Sd.int i
theorem ints_inj {ns ms : List Int} : ns.map PyData.int = ms.map PyData.int ↔ ns = ms :=
  ⟨fun h => List.map_inj_right (fun _ _ e => PyData.int.inj e) |>.mp h, fun h => by rw [h]⟩
theorem eqv_ints (ns ms : List Int) : PyData.eqv (.list (ns.map .int)) (.list (ms.map .int)) = decide (ns = ms) := by
  have h := nb_eqv (Sd.ints (ns := ns)).nb (Sd.ints (ns := ms)).nb
  by_cases e : ns = ms
  · rw [decide_eq_true e]
    exact h.mpr (by rw [e])
  · rw [decide_eq_false e]
    exact Bool.eq_false_iff.mpr fun z => e (ints_inj.mp (PyData.list.inj (h.mp z)))
/-- x != y of data: the readings -/
theorem ne_data {K : PySem.W.Frag} {H : Hp} {x y : V} {d e : PyData} {k : Nat} {Q : VK} (hx : Dp K H x d) (hy : Dp K H y e) (sd : Sd k d) (se : Sd k e) (hk : k ≤ 64) (q : ∀ b : Bool, (b = true ↔ d = e) → Q (.bl (!b)) H) : rNeD K x y H Q :=
  ⟨d, e, hx, hy, sd.sh hk, se.sh hk, q _ (nb_eqv sd.nb se.nb)⟩
theorem ne_same {K : PySem.W.Frag} {H : Hp} {x y : V} {d : PyData} {k : Nat} {Q : VK} (hx : Dp K H x d) (hy : Dp K H y d) (sd : Sd k d) (hk : k ≤ 64) (q : Q (.bl false) H) : rNeD K x y H Q :=
  ⟨d, d, hx, hy, sd.sh hk, sd.sh hk, by rw [(nb_eqv sd.nb sd.nb).mpr rfl]; exact q⟩
theorem eq_data {K : PySem.W.Frag} {H : Hp} {x y : V} {d e : PyData} {k : Nat} {Q : VK} (hx : Dp K H x d) (hy : Dp K H y e) (sd : Sd k d) (se : Sd k e) (hk : k ≤ 64) (q : ∀ b : Bool, (b = true ↔ d = e) → Q (.bl b) H) : rEqD K x y H Q :=
  ⟨d, e, hx, hy, sd.sh hk, se.sh hk, q _ (nb_eqv sd.nb se.nb)⟩
theorem ne_ints {K : PySem.W.Frag} {H : Hp} {x y : Addr} {ns ms : List Int} {Q : VK} (hx : SqL K H x (ns.map V.int)) (hy : SqL K H y (ms.map V.int)) (q : Q (.bl (!decide (ns = ms))) H) : rNeD K (.ref x) (.ref y) H Q :=
  ⟨_, _, .lst hx (ints_dp _), .lst hy (ints_dp _), Sd.ints.sh (by decide), Sd.ints.sh (by decide), by rw [eqv_ints]; exact q⟩
theorem ints_dpl {K : PySem.W.Frag} {H : Hp} {p : Addr} {ns : List Int} (h : SqL K H p (ns.map V.int)) : Dp K H (.ref p) (.list (ns.map .int)) := .lst h (ints_dp _)
theorem while_R {c : TT} {tb : TS} {D : Ends} {σ : L2.St} {H : Hp} (Pv : L2.St → Hp → Prop) (μ : L2.St → Hp → Nat) (h0 : Pv σ H)
    (hs : ∀ σ H, Pv σ H → ∀ R : Bool → Hp → Prop, (∀ H1, tb { D with nx := fun σ' H' => Pv σ' H' ∧ μ σ' H' < μ σ H, ct := fun σ' H' => Pv σ' H' ∧ μ σ' H' < μ σ H, bk := D.nx } σ H1 → R true H1) → (∀ H1, D.nx σ H1 → R false H1) → c σ H R) : tWhile c tb D σ H := by
  refine ⟨fun m σ H => m = μ σ H ∧ Pv σ H, ⟨_, rfl, h0⟩, ?_⟩
  rintro m σ H ⟨rfl, p⟩
  refine hs σ H p _ (fun H1 h => ?_) (fun H1 h => ?_)
  · show if true = true then _ else _
    rw [if_pos rfl]
    exact ⟨_, fun σ' H' ⟨p', l⟩ => ⟨_, l, rfl, p'⟩, h⟩
  · show if false = true then _ else _
    rw [if_neg (by decide)]
    exact h
/-! ### what comes again and again -/
section
variable {f : Nat → Int}
theorem per_mul {A m : Nat} (h : ∀ t, A ≤ t → f (t + m) = f t) : ∀ (k t : Nat), A ≤ t → f (t + m * k) = f t
  | 0, t, _ => by rw [Nat.mul_zero, Nat.add_zero]
  | k + 1, t, ht => by rw [Nat.mul_succ, ← Nat.add_assoc, h _ (by omega), per_mul h k t ht]
theorem per_mod {A m n : Nat} (h : ∀ t, A ≤ t → f (t + m) = f t) (h' : ∀ t, A ≤ t → f (t + n) = f t) : ∀ t, A ≤ t → f (t + n % m) = f t := fun t ht => by
  rw [← per_mul h (n / m) _ (show A ≤ t + n % m by omega), Nat.add_assoc, Nat.mod_add_div, h' t ht]
theorem per_ev {A c m B : Nat} (hc : 1 ≤ c) (hp : ∀ t, A ≤ t → f (t + c) = f t) (h : ∀ t, B ≤ t → f (t + m) = f t) : ∀ t, A ≤ t → f (t + m) = f t := fun t ht => by
  have hb : B ≤ c * B := Nat.le_mul_of_pos_left B hc
  rw [← per_mul hp B t ht, ← h (t + c * B) (by omega), ← per_mul hp B (t + m) (by omega)]
  congr 1
  omega
/-- the least round -/
structure Lst (f : Nat → Int) (a m : Nat) : Prop where
  m1 : 1 ≤ m
  per : ∀ t, a ≤ t → f (t + m) = f t
  dvd : ∀ n B, (∀ t, B ≤ t → f (t + n) = f t) → m ∣ n
  fst : ∀ b, b + 1 = a → f (b + m) ≠ f b
theorem ex_least {A c : Nat} (hc : 1 ≤ c) (hp : ∀ t, A ≤ t → f (t + c) = f t) : ∃ m, 1 ≤ m ∧ m ≤ c ∧ (∀ t, A ≤ t → f (t + m) = f t) ∧ ∀ k, 1 ≤ k → (∀ t, A ≤ t → f (t + k) = f t) → m ≤ k := by
  induction c using Nat.strongRecOn with
  | ind c ih =>
    by_cases h : ∃ k, 1 ≤ k ∧ k < c ∧ ∀ t, A ≤ t → f (t + k) = f t
    · obtain ⟨k, k1, kc, kp⟩ := h
      obtain ⟨m, m1, mk, r⟩ := ih k kc k1 kp
      exact ⟨m, m1, by omega, r⟩
    · refine ⟨c, hc, Nat.le_refl _, hp, fun k k1 kp => ?_⟩
      exact Nat.le_of_not_lt fun z => h ⟨k, k1, z, kp⟩
/-- the least many, then the least ahead -/
theorem lst_of {A c m a : Nat} (hc : 1 ≤ c) (hp : ∀ t, A ≤ t → f (t + c) = f t) (m1 : 1 ≤ m) (hm : ∀ t, A ≤ t → f (t + m) = f t) (least : ∀ k, 1 ≤ k → k < m → c % k = 0 → ¬ ∀ t, A ≤ t → f (t + k) = f t)
    (ha : a ≤ A) (hb : ∀ t, a ≤ t → t < A → f (t + m) = f t) (hf : ∀ b, b + 1 = a → f (b + m) ≠ f b) : Lst f a m := by
  obtain ⟨n, n1, nc, np, nl⟩ := ex_least hc hp
  have div : ∀ k, (∀ t, A ≤ t → f (t + k) = f t) → n ∣ k := fun k kp => by
    apply Nat.dvd_of_mod_eq_zero
    rcases Nat.eq_zero_or_pos (k % n) with z | z
    · exact z
    · have := nl (k % n) z (per_mod np kp)
      have := Nat.mod_lt k (show 0 < n by omega)
      omega
  have e : m = n := by
    have h1 := Nat.le_of_dvd (by omega) (div m hm)
    rcases Nat.lt_or_ge n m with z | z
    · exact absurd np (least n n1 z (Nat.mod_eq_zero_of_dvd (div c hp)))
    · omega
  subst e
  refine ⟨m1, fun t ht => ?_, fun k B h => div k (per_ev hc hp h), hf⟩
  rcases Nat.lt_or_ge t A with z | z
  · exact hb t ht z
  · exact hm t z
theorem Lst.uniq {a m a' m' : Nat} (h : Lst f a m) (h' : Lst f a' m') : a = a' ∧ m = m' := by
  have e : m = m' := Nat.dvd_antisymm (h.dvd m' a' h'.per) (h'.dvd m a h.per)
  subst e
  refine ⟨?_, rfl⟩
  rcases Nat.lt_trichotomy a a' with z | z | z
  · exact absurd (h.per (a' - 1) (by omega)) (h'.fst (a' - 1) (by omega))
  · exact z
  · exact absurd (h'.per (a - 1) (by omega)) (h.fst (a - 1) (by omega))
/-- rounds by the least one -/
theorem Lst.iff {a m : Nat} (h : Lst f a m) (b n : Nat) (n1 : 1 ≤ n) : (∀ t, b ≤ t → f (t + n) = f t) ↔ a ≤ b ∧ m ∣ n := by
  constructor
  · intro hp
    have d := h.dvd n b hp
    refine ⟨?_, d⟩
    rcases Nat.lt_or_ge b a with z | z
    · obtain ⟨k, rfl⟩ := d
      have k1 : 1 ≤ k := by
        rcases Nat.eq_zero_or_pos k with z | z
        · rw [z] at n1
          omega
        · exact z
      exfalso
      refine h.fst (a - 1) (by omega) ?_
      have e := hp (a - 1) (by omega)
      have e2 := per_mul h.per (k - 1) (a - 1 + m) (by have := h.m1; omega)
      rw [show a - 1 + m + m * (k - 1) = a - 1 + m * k by
        obtain ⟨j, rfl⟩ : ∃ j, k = j + 1 := ⟨k - 1, by omega⟩
        rw [Nat.add_sub_cancel, Nat.mul_succ]
        omega, e] at e2
      exact e2.symm
    · exact z
  · rintro ⟨z, k, rfl⟩ t ht
    exact per_mul h.per k t (by omega)
def seg (f : Nat → Int) (A c : Nat) : List Int := (List.range c).map fun j => f (A + j)
theorem seg_len (A c : Nat) : (seg f A c).length = c := by
  unfold seg
  rw [List.length_map, List.length_range]
theorem seg_at {A c i : Nat} (h : i < c) : (seg f A c)[i]? = some (f (A + i)) := by
  unfold seg
  rw [List.getElem?_map, List.getElem?_range h]
  rfl
theorem rot_at {A c m j : Nat} (hp : ∀ t, A ≤ t → f (t + c) = f t) (hm : m ≤ c) (hj : j < c) : ((seg f A c).drop m ++ (seg f A c).take m)[j]? = some (f (A + j + m)) := by
  by_cases h : j < c - m
  · rw [List.getElem?_append_left (by rw [List.length_drop, seg_len]; exact h), List.getElem?_drop, seg_at (by omega)]
    congr 2
    omega
  · rw [List.getElem?_append_right (by rw [List.length_drop, seg_len]; omega), List.length_drop, seg_len, List.getElem?_take_of_lt (by omega), seg_at (by omega), ← hp _ (by omega)]
    congr 2
    omega
theorem rot_iff {A c m : Nat} (hc : 1 ≤ c) (hp : ∀ t, A ≤ t → f (t + c) = f t) (hm : m ≤ c) : (seg f A c).drop m ++ (seg f A c).take m = seg f A c ↔ ∀ t, A ≤ t → f (t + m) = f t := by
  constructor
  · intro h t ht
    have l := Nat.mod_lt (t - A) (show 0 < c by omega)
    have e := rot_at hp hm l
    rw [h, seg_at l] at e
    have e1 := Option.some.inj e
    have q := Nat.mod_add_div (t - A) c
    have e2 := per_mul hp ((t - A) / c) (A + (t - A) % c) (by omega)
    have e3 := per_mul hp ((t - A) / c) (A + (t - A) % c + m) (by omega)
    rw [show A + (t - A) % c + c * ((t - A) / c) = t by omega] at e2
    rw [show A + (t - A) % c + m + c * ((t - A) / c) = t + m by omega] at e3
    rw [e2, e3]
    exact e1.symm
  · intro h
    apply List.ext_getElem?
    intro i
    by_cases hi : i < c
    · rw [rot_at hp hm hi, seg_at hi, h _ (by omega)]
    · rw [List.getElem?_eq_none (by rw [List.length_append, List.length_drop, List.length_take, seg_len]; omega), List.getElem?_eq_none (by rw [seg_len]; omega)]
end
/-- what a layer shows, by the moment -/
def shN (rs : List RW) (bk : Option Int) (t : Nat) : Int := shown rs bk (t : Nat)
theorem shN_per {rs : List RW} {bk : Option Int} (v : VRows rs) (vb : VBack rs bk) : ∀ t, (ahL rs bk).length ≤ t → shN rs bk (t + (arL rs bk).length) = shN rs bk t := fun t ht => by
  have e1 := shown_lay v vb t
  have e2 := shown_lay v vb (t + (arL rs bk).length)
  rw [if_neg (by omega)] at e1 e2
  rw [show t + (arL rs bk).length - (ahL rs bk).length = t - (ahL rs bk).length + (arL rs bk).length by omega, Nat.add_mod_right] at e2
  exact Option.some.inj (e2.trans e1.symm)
theorem arL_seg {rs : List RW} {bk : Option Int} (v : VRows rs) (vb : VBack rs bk) : arL rs bk = seg (shN rs bk) (ahL rs bk).length (arL rs bk).length := by
  apply List.ext_getElem?
  intro i
  by_cases hi : i < (arL rs bk).length
  · rw [seg_at hi]
    show _ = some (shown rs bk (((ahL rs bk).length + i : Nat) : Int))
    rw [shown_lay v vb, if_neg (by omega), Nat.add_sub_cancel_left, Nat.mod_eq_of_lt hi]
  · rw [List.getElem?_eq_none (by omega), List.getElem?_eq_none (by rw [seg_len]; omega)]
theorem aa_at {rs : List RW} {bk : Option Int} (v : VRows rs) (vb : VBack rs bk) {i : Nat} (h : i < (ahL rs bk).length + (arL rs bk).length) : (ahL rs bk ++ arL rs bk)[i]? = some (shN rs bk i) := by
  show _ = some (shown rs bk (i : Nat))
  rw [shown_lay v vb]
  by_cases c : i < (ahL rs bk).length
  · rw [if_pos c, List.getElem?_append_left c]
  · rw [if_neg c, List.getElem?_append_right (by omega), Nat.mod_eq_of_lt (by omega)]
/-! ### helpers of the laws over rounds -/
theorem Paired.appP {α β : Type} {F : α → β → Prop} : ∀ {l₁ m₁ : List α} {l₂ m₂ : List β}, Paired F l₁ l₂ → Paired F m₁ m₂ → Paired F (l₁ ++ m₁) (l₂ ++ m₂)
  | _, _, _, _, .nil, h => h
  | _, _, _, _, .cons r t, h => .cons r (Paired.appP t h)
theorem Paired.repP {α β : Type} {F : α → β → Prop} {l₁ : List α} {l₂ : List β} (h : Paired F l₁ l₂) : ∀ n, Paired F (List.replicate n l₁).flatten (List.replicate n l₂).flatten
  | 0 => .nil
  | n + 1 => by
    rw [List.replicate_succ, List.replicate_succ, List.flatten_cons, List.flatten_cons]
    exact Paired.appP h (Paired.repP h n)
theorem mem_rep {α : Type} {l : List α} {x : α} {n : Nat} (h : x ∈ (List.replicate n l).flatten) : x ∈ l := by
  obtain ⟨m, hm, hx⟩ := List.mem_flatten.mp h
  rw [(List.mem_replicate.mp hm).2] at hx
  exact hx
theorem len_rep {α : Type} {l : List α} {n : Nat} : (List.replicate n l).flatten.length = n * l.length := by
  rw [List.length_flatten, List.map_replicate, List.sum_replicate_nat]
theorem cut_mid {xs : List V} {a b : Nat} (h : a ≤ b) (h2 : b ≤ xs.length) : cutV xs (some (a : Int)) (some (b : Int)) = (xs.drop a).take (b - a) := by
  unfold cutV
  rw [HT.sIx_nat, HT.sIx_nat, Nat.min_eq_left h2, Nat.min_eq_left (show a ≤ xs.length by omega)]
theorem lays_cut {rs : List RW} {bk : Option Int} {n a b : Nat} (h : a ≤ b) (h2 : b ≤ n) : cutV (lays rs bk n) (some (a : Int)) (some (b : Int)) = (seg (shN rs bk) a (b - a)).map V.int := by
  rw [cut_mid h (by rw [lays_len]; exact h2)]
  apply List.ext_getElem?
  intro i
  by_cases hi : i < b - a
  · rw [List.getElem?_take_of_lt hi, List.getElem?_drop, lays_at (by omega), List.getElem?_map, seg_at hi]
    rfl
  · rw [List.getElem?_eq_none (by rw [List.length_take]; omega), List.getElem?_eq_none (by rw [List.length_map, seg_len]; omega)]
theorem cut_opt {rs : List RW} {bk : Option Int} (vb : VBack rs bk) (xs : List V) : cutV xs none bk = match bk with | none => xs | some b => xs.take b.toNat := by
  cases bk with
  | none => exact cut_all xs
  | some b =>
    have hb := vb b rfl
    obtain ⟨k, rfl⟩ : ∃ k : Nat, b = (k : Int) := ⟨b.toNat, by omega⟩
    exact cut_to xs k
def ahd (rs : List RW) : Option Int → List RW
  | none => rs
  | some b => rs.take b.toNat
def siz (rs : List RW) : Option Int → Int
  | none => 1
  | some b => tot (rs.drop b.toNat)
theorem siz_pos {rs : List RW} {bk : Option Int} (v : VRows rs) (vb : VBack rs bk) : 1 ≤ siz rs bk ∧ siz rs bk ≤ 192 := by
  obtain ⟨v8, vr⟩ := v
  cases bk with
  | none => exact ⟨by show (1 : Int) ≤ 1; omega, by show (1 : Int) ≤ 192; omega⟩
  | some b =>
    have hb := vb b rfl
    have := tot_nonneg (rs := rs.drop b.toNat) fun q hq => vr q (List.mem_of_mem_drop hq)
    rw [List.length_drop] at this
    obtain ⟨t1, t2⟩ := this
    constructor
    · show 1 ≤ tot (rs.drop b.toNat)
      omega
    · show tot (rs.drop b.toNat) ≤ 192
      omega
theorem siz_len {rs : List RW} {bk : Option Int} (v : VRows rs) : siz rs bk = ((arL rs bk).length : Int) := by
  cases bk with
  | none => rfl
  | some b => exact (dwg_len (v.dropV b.toNat).2).symm
theorem ahL_tot {rs : List RW} {bk : Option Int} (v : VRows rs) : ((ahL rs bk).length : Int) ≤ tot rs := by
  cases bk with
  | none => exact Int.le_of_eq (dwg_len v.2)
  | some b =>
    show ((dwg (rs.take b.toNat)).length : Int) ≤ tot rs
    have h := dwg_len (v.takeV b.toNat).2
    have s := tot_split rs b.toNat
    have t := (tot_nonneg (v.dropV b.toNat).2).1
    omega
/-- by the whole length and the round's size -/
theorem per_whole {rs : List RW} {bk : Option Int} (v : VRows rs) (vb : VBack rs bk) {W c : Nat} (hW : (W : Int) = tot rs) (hc : (c : Int) = siz rs bk) : ∀ t, W ≤ t → shN rs bk (t + c) = shN rs bk t := fun t ht => by
  have e := siz_len (bk := bk) v
  have a := ahL_tot (bk := bk) v
  rw [show c = (arL rs bk).length by omega]
  exact shN_per v vb t (by omega)
theorem Gr.keepRow {st : Addr} {K : PySem.W.Frag} {H H' : Hp} (g : Gr st H H') (s : IsSt H st) {vs : List V} {rs : List RW} (p : Paired (RowAt K H) vs rs) : Paired (RowAt K H') vs rs := Paired.mono p fun _ _ => RowAt.keep (g.tk s)
theorem gr_upd {st D : Addr} {H0 H : Hp} {o : HO} (g : Gr st H0 H) (n0 : H0 D = none) (nD : D ≠ st) : Gr st H0 (upd H D o) :=
  ⟨fun b x nb e => by rw [upd_ne (ne_of_none e n0)]; exact g.1 b x nb e, fun hz => by
    obtain ⟨x, y, hx, hxy⟩ := g.2 hz
    exact ⟨x, y, by rw [upd_ne (Ne.symm nD)]; exact hx, hxy⟩⟩
/-! ### rounds of sheets -/
def plN (x y : Int) (ms : List MV) (t : Nat) : RW × RW := plc x y ms (t : Int)
theorem rwD_inj {r s : RW} (h : rwD r = rwD s) : r = s := by
  have e := PyData.tuple.inj h
  injection e with e1 e2
  injection e2 with e2 _
  exact Prod.ext (PyData.int.inj e1) (PyData.int.inj e2)
theorem plD_inj {p q : RW × RW} (h : plD p = plD q) : p = q := by
  have e := PyData.tuple.inj h
  injection e with e1 e2
  injection e2 with e2 _
  exact Prod.ext (rwD_inj e1) (rwD_inj e2)
theorem picD_inj {c d : PIC} (h : picD c = picD d) : c = d := by
  have e := PyData.tuple.inj h
  injection e with e1 e2
  injection e2 with e2 _
  exact Prod.ext (ints_inj.mp (PyData.tuple.inj e1)) (plD_inj e2)
theorem sd_rw (r : RW) : Sd 1 (rwD r) := Sd.tup fun e he => by
  rcases mem2 he with rfl | rfl <;> exact Sd.int _
theorem sd_pl (p : RW × RW) : Sd 2 (plD p) := Sd.tup fun e he => by
  rcases mem2 he with rfl | rfl <;> exact sd_rw _
theorem sd_pic (c : PIC) : Sd 3 (picD c) := Sd.tup fun e he => by
  rcases mem2 he with rfl | rfl
  · exact Sd.intsT.more (by decide)
  · exact sd_pl _
structure WinR (x y : Int) (ms : List MV) (b : Nat) : Prop where
  per : ∀ t, b ≤ t → plN x y ms (t + 1) = plN x y ms t
  fst : ∀ c, c + 1 = b → plN x y ms (c + 1) ≠ plN x y ms c
structure ShR (ls : List LY) (x y : Int) (ms : List MV) (a m : Nat) : Prop where
  m1 : 1 ≤ m
  perL : ∀ l ∈ ls, ∀ t, a ≤ t → shN l.1 l.2 (t + m) = shN l.1 l.2 t
  perW : ∀ t, a ≤ t → plN x y ms (t + 1) = plN x y ms t
  dvd : ∀ n, (∀ l ∈ ls, ∀ a' m', Lst (shN l.1 l.2) a' m' → m' ∣ n) → m ∣ n
  fst : ∀ b, b + 1 = a → (∃ l ∈ ls, shN l.1 l.2 (b + m) ≠ shN l.1 l.2 b) ∨ plN x y ms (b + 1) ≠ plN x y ms b
theorem ShR.uniq {ls : List LY} {x y : Int} {ms : List MV} {a m a' m' : Nat} (h : ShR ls x y ms a m) (h' : ShR ls x y ms a' m') : a = a' ∧ m = m' := by
  have e : m = m' := Nat.dvd_antisymm (h.dvd m' fun l hl b n hb => hb.dvd m' a' (h'.perL l hl)) (h'.dvd m fun l hl b n hb => hb.dvd m a (h.perL l hl))
  subst e
  refine ⟨?_, rfl⟩
  rcases Nat.lt_trichotomy a a' with z | z | z
  · rcases h'.fst (a' - 1) (by omega) with ⟨l, hl, hn⟩ | hn
    · exact absurd (h.perL l hl (a' - 1) (by omega)) hn
    · exact absurd (h.perW (a' - 1) (by omega)) hn
  · exact z
  · rcases h.fst (a - 1) (by omega) with ⟨l, hl, hn⟩ | hn
    · exact absurd (h'.perL l hl (a - 1) (by omega)) hn
    · exact absurd (h'.perW (a - 1) (by omega)) hn
theorem Paired.mem2 {α β : Type} {F : α → β → Prop} {l₁ : List α} {l₂ : List β} (p : Paired F l₁ l₂) {y : β} (h : y ∈ l₂) : ∃ x ∈ l₁, F x y := by
  obtain ⟨i, hi⟩ := List.mem_iff_getElem?.mp h
  obtain ⟨x, hx, f⟩ := Paired.at2 p hi
  exact ⟨x, List.mem_of_getElem? hx, f⟩
theorem Paired.mem1 {α β : Type} {F : α → β → Prop} {l₁ : List α} {l₂ : List β} (p : Paired F l₁ l₂) {x : α} (h : x ∈ l₁) : ∃ y ∈ l₂, F x y := by
  obtain ⟨i, hi⟩ := List.mem_iff_getElem?.mp h
  obtain ⟨y, hy, f⟩ := Paired.at p hi
  exact ⟨y, List.mem_of_getElem? hy, f⟩
abbrev RdOf (r : Nat × Nat) (l : LY) : Prop := Lst (shN l.1 l.2) r.1 r.2 ∧ r.1 ≤ 192 ∧ r.2 ≤ 192
theorem shR_mk {ls : List LY} {rd : List (Nat × Nat)} {x y : Int} {ms : List MV} {a b m : Nat} (hp : Paired RdOf rd ls) (hw : WinR x y ms b) (ha : ∀ r ∈ rd, r.1 ≤ a) (hb : b ≤ a) (hm : a = b ∨ ∃ r ∈ rd, r.1 = a) (m1 : 1 ≤ m)
    (hd : ∀ r ∈ rd, r.2 ∣ m) (hl : ∀ n, (∀ r ∈ rd, r.2 ∣ n) → m ∣ n) : ShR ls x y ms a m := by
  refine ⟨m1, fun l hl t ht => ?_, fun t ht => hw.per t (by omega), fun n hn => hl n fun r hr => ?_, fun c hc => ?_⟩
  · obtain ⟨r, hr, f, _⟩ := Paired.mem2 hp hl
    obtain ⟨k, rfl⟩ := hd r hr
    exact per_mul f.per k t (by have := ha r hr; omega)
  · obtain ⟨l, hl', f, _⟩ := Paired.mem1 hp hr
    exact hn l hl' r.1 r.2 f
  · rcases hm with e | ⟨r, hr, e⟩
    · exact .inr (hw.fst c (by omega))
    · obtain ⟨l, hl', f, _⟩ := Paired.mem1 hp hr
      refine .inl ⟨l, hl', fun z => f.fst c (by omega) ?_⟩
      obtain ⟨k, hk⟩ := hd r hr
      obtain ⟨j, rfl⟩ : ∃ j, k = j + 1 := ⟨k - 1, by
        rcases Nat.eq_zero_or_pos k with z | z
        · rw [z] at hk
          omega
        · omega⟩
      have e2 := per_mul f.per j (c + r.2) (by have := f.m1; omega)
      rw [show c + r.2 + r.2 * j = c + m by rw [hk, Nat.mul_succ]; omega, z] at e2
      exact e2.symm
theorem ShR.pic_eq {ls : List LY} {x y : Int} {ms : List MV} {a m : Nat} (h : ShR ls x y ms a m) {t : Nat} (ht : a ≤ t) (k : Nat) : pic ls x y ms ((t + m * k : Nat) : Int) = pic ls x y ms (t : Int) := by
  refine Prod.ext ?_ ?_
  · exact List.map_congr_left fun l hl => per_mul (h.perL l hl) k t ht
  · have := per_mul (f := fun t => (0 : Int)) (A := 0) (m := 1) (fun _ _ => rfl)
    have e : ∀ n, plN x y ms (t + n) = plN x y ms t := fun n => by
      induction n with
      | zero => rfl
      | succ n ih => rw [← Nat.add_assoc, h.perW _ (by omega), ih]
    exact e (m * k)
theorem ShR.pic_ne {ls : List LY} {x y : Int} {ms : List MV} {a m : Nat} (h : ShR ls x y ms a m) {b : Nat} (hb : b + 1 = a) : pic ls x y ms (b : Int) ≠ pic ls x y ms ((b + m : Nat) : Int) := fun e => by
  rcases h.fst b hb with ⟨l, hl, hn⟩ | hn
  · exact hn (List.map_inj_left.mp (congrArg Prod.fst e) l hl).symm
  · refine hn ?_
    have e1 : plN x y ms b = plN x y ms (b + m) := congrArg Prod.snd e
    have e2 : ∀ n, plN x y ms (b + 1 + n) = plN x y ms (b + 1) := fun n => by
      induction n with
      | zero => rfl
      | succ n ih => rw [← Nat.add_assoc, h.perW _ (by omega), ih]
    have m1 := h.m1
    have e3 := e2 (m - 1)
    rw [show b + 1 + (m - 1) = b + m by omega] at e3
    rw [e1, e3]
theorem winR_of {x y : Int} {ms : List MV} {L b : Nat} (vm : ∀ m ∈ ms, VMove m) (hL : (L : Int) = mtot ms) (hb : b ≤ L) (hp : ∀ t, b ≤ t → t < L → plN x y ms (t + 1) = plN x y ms t) (hf : ∀ c, c + 1 = b → plN x y ms (c + 1) ≠ plN x y ms c) : WinR x y ms b := by
  refine ⟨fun t ht => ?_, hf⟩
  rcases Nat.lt_or_ge t L with z | z
  · exact hp t ht z
  · exact plc_far ms x y _ _ vm (by omega) (by omega)
/-- the step of the law's own reckoning of a common multiple -/
theorem lcm_step {s z k : Nat} (s1 : 1 ≤ s) (z1 : 1 ≤ z) (k1 : 1 ≤ k) (hd : z ∣ s * k) (hmin : ∀ j, 1 ≤ j → j < k → ¬ z ∣ s * j) : s * k = Nat.lcm s z := by
  obtain ⟨j, hj⟩ := Nat.dvd_lcm_left s z
  have lp : 0 < Nat.lcm s z := Nat.lcm_pos (by omega) (by omega)
  have j1 : 1 ≤ j := by
    rcases Nat.eq_zero_or_pos j with e | e
    · rw [e] at hj
      omega
    · exact e
  have h1 : Nat.lcm s z ∣ s * k := Nat.lcm_dvd (Nat.dvd_mul_right s k) hd
  have h2 : k ≤ j := Nat.le_of_not_lt fun lt => hmin j j1 lt (by rw [← hj]; exact Nat.dvd_lcm_right s z)
  have h3 := Nat.le_of_dvd (Nat.mul_pos (by omega) (by omega)) h1
  have h4 : s * k ≤ s * j := Nat.mul_le_mul_left s h2
  omega
theorem lcm_le {s z : Nat} (h : 0 < Nat.gcd s z) : Nat.lcm s z ≤ s * z := by
  unfold Nat.lcm
  exact Nat.div_le_self _ _

/-! ### defs called where an error is handled -/
/-- f, called while the error at a (class cls, dict d) is handled, keeps sp -/
structure FnE (P : Program) (w : World) (K : PySem.W.Frag) (mg : Str → Option Value) (base : Heap) (k : Nat) (f : Addr) (fd : FuncData) (ps : List Str) (sp : Addr → Value → Option Addr → Sp) : Prop where
  len : ∀ a cls d vs H Q E, sp a cls d vs H Q E → vs.length = ps.length
  run : ∀ (A : Around) (outer : List Env) (s : Shared) (H : Hp) (args : Args) (us : List Value) (vs : List V) (Q : VK) (E : XK) (a : Addr) (oe : Obj) (cls : Value) (d : Option Addr), L2H.RoomH k A → Zc cls d oe → (∃ z, oe.data = .fields z) → L2H.PinOk outer H s (a, oe) →
    Env0 P w K mg base A outer s H → BindsTo s fd args (ps.zip us) → Vals vs us → sp a cls d vs H Q E → codeAny (model P w) A (.call (.ref f) args) (CR CX0 outer P w H s Q E) s
section
variable {P : Program} {w : World} {K : PySem.W.Frag} {mg : Str → Option Value} {base : Heap}
theorem fun_okE {x qual : Str} {st : Stmt} {f : Addr} {fd : FuncData} {N ps : List Str} {k : Nat} {sp : Addr → Value → Option Addr → Sp} (F : Fun K x qual st f fd) (S : FnScope N ps (defScope st)) (ln : ∀ a cls d vs H Q E, sp a cls d vs H Q E → vs.length = ps.length)
    (hbody : ∀ (cdv : Value) (A : Around) (outer : List Env) (s : Shared) (H : Hp) (vs : List V) (Q : VK) (E : XK) (a : Addr) (oe : Obj) (cls : Value) (d : Option Addr), Zc cls d oe → (∃ z, oe.data = .fields z) → L2H.RoomH k (A.deeper (envOfC qual (defScope st) s.heap.objs.size f cdv)) → sp a cls d vs H Q E →
      ∃ t, PSs (L2H.cxH CX0 P w K mg base N qual (defScope st) f cdv A outer s H E (a, oe)) (defBody st) t ∧ t { nx := fun _ H' => Q .non H', rt := Q } (L2.start N vs) H) : FnE P w K mg base (k + 1) f fd ps sp := by
  obtain ⟨cdv, D⟩ := defAt_of F
  refine ⟨ln, fun A outer s H args us vs Q E a oe cls d hr hz hfs hpin e0 hb r hsp => D.call S hr.depth e0 hb fun s1 begun => ?_⟩
  obtain ⟨t, ht, hq⟩ := hbody cdv A outer s H vs Q E a oe cls d hz hfs (hr.deeper _) hsp
  exact thn (ht.run [] s1 _ H _ (L2H.inv_startH S hpin e0 (ln _ _ _ _ _ _ _ hsp) r begun) hq) fun _ _ h => given_by rfl h
end
section
variable {X : Cx}
/-- what is pinned in the context may be pinned in a body that it calls -/
theorem pinned {pins : List (Addr × Obj)} {σ : L2.St} {H : Hp} {s : Shared} {p : Addr × Obj} (I : Inv X pins σ H s) (hpn : p ∈ X.pn) : L2H.PinOk X.stack H s p := by
  obtain ⟨get, free, low, far, flat⟩ := I.pin p (List.mem_append_left pins hpn)
  refine ⟨get, free, fun on => ?_, flat⟩
  rcases List.mem_cons.mp (I.stkSub p.1 on) with z | z
  · exact low z
  · exact far z
/-- a call of a global name: T tells what is asked of its arguments -/
theorem pe_named {f : Addr} {x : Str} {q pos : Pos} {e : Expr} {es : List Expr} {t : TA} {T : List V → Hp → VK → Prop} (hg : Gl X x) (hm : X.mg x = some (.ref f)) (hk : PySem.W.keepIn X.K (.ref f) = true) (ha : PA X (e :: es) t)
    (run : ∀ (pins : List (Addr × Obj)) (s : Shared) (σ : L2.St) (H : Hp) (us : List Value) (vs : List V) (Q : VK), Inv X pins σ H s → Vals vs us → T vs H Q → wpAny (model X.prog X.w) X.A (call (.ref f) us) (EP X pins σ Q) X.xe s)
    (plain : (x == ("__debug__" : Str)) = false) (first : starEach (e :: es) X.env = (false, eval e X.env) :: starEach es X.env) (noStar : (backTo pos (starEach es X.env)).any (·.1) = false) :
    PE X (.Call (.Name x q) (e :: es) [] pos) (fun σ H Q => t σ H fun vs H1 => T vs H1 Q) :=
  ⟨fun pins s σ H Q I h => wpAny_Call_Name_kw (ld_glob I hg hm (PySem.W.callWith_K (h₀ := X.base) I.ok.mod.kin hk
    (thn (ha.run pos pins s σ H _ I h) fun us s1 ⟨vs, H1, I1, r, due⟩ => ⟨I1.kIn, run pins s1 σ H1 us vs Q I1 r due⟩) first noStar) plain)⟩
/-- f(e, ..), the error at a being handled -/
theorem pe_callE {k : Nat} {f a : Addr} {oe : Obj} {cls : Value} {d : Option Addr} {fd : FuncData} {ps : List Str} {sp : Addr → Value → Option Addr → Sp} {x : Str} {q pos : Pos} {e : Expr} {es : List Expr} {t : TA} (F : FnE X.prog X.w X.K X.mg X.base k f fd ps sp) (hr : L2H.RoomH k X.A) (hpn : (a, oe) ∈ X.pn)
    (hz : Zc cls d oe) (hfs : ∃ z, oe.data = .fields z) (hg : Gl X x) (hm : X.mg x = some (.ref f)) (hk : PySem.W.keepIn X.K (.ref f) = true) (hb : Binds X.K fd ps []) (ha : PA X (e :: es) t)
    (hdb : (x == ("__debug__" : Str)) = false := by decide) (he : starEach (e :: es) X.env = (false, eval e X.env) :: starEach es X.env := by rfl) (hpl : (backTo pos (starEach es X.env)).any (·.1) = false := by rfl) :
    PE X (.Call (.Name x q) (e :: es) [] pos) (fun σ H Q => t σ H fun vs H1 => sp a cls d vs H1 Q E0) := by
  refine pe_named (T := fun vs H Q => sp a cls d vs H Q E0) hg hm hk ha (fun pins s σ H us vs Q I r due => ?_) hdb he hpl
  have binds : BindsTo s fd ⟨us, []⟩ (ps.zip us) := by
    simpa only [List.append_nil] using hb s us I.kIn (by rw [List.append_nil, ← r.length]; exact F.len _ _ _ _ _ _ _ due)
  refine wpAny_call (codeAny_mono (F.run X.A X.stack s H ⟨us, []⟩ us vs Q E0 a oe cls d hr hz hfs (pinned I hpn) I.env0 binds r due) fun res s' left => ?_)
  match res, left with
  | .ok (.ret _), left => exact I.after left
  | .ok .next, left | .ok .brk, left | .ok .cont, left | .error _, left => exact False.elim left
/-- isinstance(e, c), e a handled error -/
def rIsP (K : PySem.W.Frag) (D a : Addr) (d : Option Addr) : List V → Hp → VK → Prop := fun xs H Q => ∃ (c : V) (cv : Value) (b : Bool), xs = [.ref a, c] ∧ (∀ u, RelV c u → u = cv) ∧ PySem.W.kitOne K (.ref D) cv = some b ∧
  (∀ dd, d = some dd → ∃ fs, H dd = some (.xd fs)) ∧ Q (.bl b) H
theorem call_isP {a D : Addr} {oe : Obj} {d : Option Addr} (hpn : (a, oe) ∈ X.pn) (C : ExcC X.K D) (hz : Zc (.ref D) d oe) (hfs : ∃ z, oe.data = .fields z) : CallR X (.builtin "isinstance") (rIsP X.K D a d) := by
  intro pins s σ H xs us Q I r h
  obtain ⟨c, cv, b, rfl, hcv, e, hd, q⟩ := h
  obtain ⟨u1, u2, rfl, r1, r2⟩ := vals2 r
  have ec := hcv _ r2
  subst ec
  cases (show u1 = Value.ref a from r1)
  obtain ⟨hget, _⟩ := I.pin (a, oe) (List.mem_append_left _ hpn)
  obtain ⟨z, hv⟩ := hfs
  have hno : PySem.W.notCls oe = true := by
    unfold PySem.W.notCls
    rw [hv]
  obtain ⟨od, J⟩ : ∃ od, PySem.W.InstAt s.heap a oe D od := by
    cases d with
    | none => exact ⟨none, hget, hz.1, hno, by rw [hz.2]; trivial⟩
    | some dd =>
      obtain ⟨fs, hfs⟩ := hd dd rfl
      obtain ⟨mA, hns, hr⟩ := (show ObjOk X.prog X.w H s.heap dd (.xd fs) from I.hok dd _ hfs)
      obtain ⟨od, ho, hl⟩ := lookIn_ns hns
      exact ⟨some od, hget, hz.1, hno, by rw [hz.2]; exact ho⟩
  have hcl : (PySem.W.clsIn X.K D).isSome = true := by
    obtain ⟨cd, hc, _⟩ := PySem.W.any_some C.hd
    rw [hc]
    rfl
  exact PySem.W.kia_one (PySem.W.kitx_exc hcl C.hg C.hk C.hs C.ha C.hn C.ht C.hm) I.kIn J e (fun z => nomatch z) fun tk => ⟨.bl b, H, I.tok tk, rfl, q⟩
end

/-! ### what the written part says of the refusals -/
def excCB (K : PySem.W.Frag) (D : Addr) : Bool :=
  decide (PySem.W.findIn K (.ref D) "__getattribute__" = some (some (.builtin "BaseException.__getattribute__"))) && (decide (PySem.W.findIn K (.ref D) "__getattr__" = some none) && (decide (PySem.W.subIn K (.ref D) (.type "BaseException") = some true) &&
    (PySem.W.hasDictIn K D && (decide (PySem.W.findIn K (.ref D) "__class__" = some (some (.builtin "object.__class__"))) && (decide (PySem.W.specialIn K (.builtin "object.__class__") "__get__" = some (some (.builtin "getset_descriptor.__get__"))) &&
      (decide (PySem.W.takesIn K (.builtin "object.__class__") = some true) && decide (PySem.W.mroIn K D (.type "object") = some true)))))))
theorem excC_of {K : PySem.W.Frag} {D : Addr} (h : excCB K D = true) : ExcC K D := by
  unfold excCB at h
  simp only [Bool.and_eq_true, decide_eq_true_eq] at h
  obtain ⟨h1, h2, h3, h4, h5, h6, h7, h8⟩ := h
  exact ⟨h1, h2, h3, h4, h5, h6, h7, h8⟩
def excTB (K : PySem.W.Frag) (c : Nat → Addr) (LE : Addr) : Bool :=
  (List.range 16).all fun i => excCB K (c i) && (decide (PySem.W.kitOne K (.ref (c i)) (.type "ValueError") = some true) && (decide (PySem.W.exmOne K (.ref (c i)) (.ref LE) = some true) &&
    ((decide (14 ≤ i) || PySem.W.excIn K (c i) PySem.HandSPX.veTail "ValueError.__new__") && (PySem.W.keepIn K (.ref (c i)) && (decide (PySem.W.typeIn K (.ref (c i)) = some (.type "type")) &&
      (List.range 16).all fun j => decide (PySem.W.kitOne K (.ref (c i)) (.ref (c j)) = some (decide (i = j))))))))
/-- the sixteen refusals stand at c 0 .. c 15, LanternError at LE -/
structure ExcT (K : PySem.W.Frag) (c : Nat → Addr) (LE : Addr) : Prop where
  e : ∀ i, i < 16 → ExcC K (c i)
  kv : ∀ i, i < 16 → PySem.W.kitOne K (.ref (c i)) (.type "ValueError") = some true
  ex : ∀ i, i < 16 → PySem.W.exmOne K (.ref (c i)) (.ref LE) = some true
  nw : ∀ i, i < 14 → PySem.W.excIn K (c i) PySem.HandSPX.veTail "ValueError.__new__" = true
  kp : ∀ i, i < 16 → PySem.W.keepIn K (.ref (c i)) = true
  ty : ∀ i, i < 16 → PySem.W.typeIn K (.ref (c i)) = some (.type "type")
  ko : ∀ i, i < 16 → ∀ j, j < 16 → PySem.W.kitOne K (.ref (c i)) (.ref (c j)) = some (decide (i = j))
theorem excT_of {K : PySem.W.Frag} {c : Nat → Addr} {LE : Addr} (h : excTB K c LE = true) : ExcT K c LE := by
  have key : ∀ i, i < 16 → excCB K (c i) = true ∧ PySem.W.kitOne K (.ref (c i)) (.type "ValueError") = some true ∧ PySem.W.exmOne K (.ref (c i)) (.ref LE) = some true ∧ (14 ≤ i ∨ PySem.W.excIn K (c i) PySem.HandSPX.veTail "ValueError.__new__" = true) ∧ PySem.W.keepIn K (.ref (c i)) = true ∧
      PySem.W.typeIn K (.ref (c i)) = some (.type "type") ∧ ∀ j, j < 16 → PySem.W.kitOne K (.ref (c i)) (.ref (c j)) = some (decide (i = j)) := fun i hi => by
    have z := List.all_eq_true.mp h i (List.mem_range.mpr hi)
    simp only [Bool.and_eq_true, Bool.or_eq_true, decide_eq_true_eq] at z
    obtain ⟨z1, z2, z3, z4, z5, z6, z7⟩ := z
    exact ⟨z1, z2, z3, z4, z5, z6, fun j hj => of_decide_eq_true (List.all_eq_true.mp z7 j (List.mem_range.mpr hj))⟩
  exact ⟨fun i hi => excC_of (key i hi).1, fun i hi => (key i hi).2.1, fun i hi => (key i hi).2.2.1, fun i hi => (key i (by omega)).2.2.2.1.elim (fun z => absurd z (by omega)) id, fun i hi => (key i hi).2.2.2.2.1, fun i hi => (key i hi).2.2.2.2.2.1, fun i hi => (key i hi).2.2.2.2.2.2⟩
theorem ExcT.rs {X : Cx} {c : Nat → Addr} {LE : Addr} (T : ExcT X.K c LE) {i : Nat} (hi : i < 16) : Raises X (.ref (c i)) := raises_own (T.e i hi).hs (T.ty i hi)
/-! ### xs.count(True) -/
def rCntB (K : PySem.W.Frag) : V → List V → Hp → VK → Prop := fun x xs H Q => ∃ (p : Addr) (bs : List Bool), x = .ref p ∧ xs = [.bl true] ∧ SqL K H p (bs.map V.bl) ∧ Q (.int (bs.count true : Nat)) H
theorem bl_flat : ∀ bs : List Bool, (bs.map V.bl).all flatV = true
  | [] => rfl
  | b :: r => by
    rw [List.map_cons, List.all_cons, bl_flat r]
    rfl
theorem cnt_bl : ∀ {bs : List Bool} {us : List Value}, Vals (bs.map V.bl) us → us.countP (eqU (.bl true)) = bs.count true
  | [], _, .nil => rfl
  | b :: r, _, .cons (b := u) (l₂ := us) ru rt => by
    have e : eqU (.bl true) u = eqV (.bl b) (.bl true) := eqU_of ru rfl
    rw [List.countP_cons, cnt_bl rt, List.count_cons, e]
    cases b <;> rfl
theorem mt_bcount {X : Cx} : MtR X "list.count" (rCntB X.K) := by
  intro pins s σ H x xs v us Q I rx rxs h
  obtain ⟨p, bs, rfl, rfl, hs, q⟩ := h
  cases rx
  obtain ⟨u, rfl, ru⟩ := rxs.one
  obtain ⟨its, rv, ⟨⟨cls, dd, data, sl⟩, n, ho, hc, hdn, hd⟩, hlen⟩ := I.list hs
  simp only at hc hd
  subst hc hd
  refine call_meets PySem.F.slot_list_count ⟨_, ho, rfl⟩ PySem.F.entry_list_count
    (PySem.F.args_list_count_2 _ _) (SeqAt.list_countAt p its.toArray n dd sl u (eqU (.bl true)))
    ⟨ho, fun y hy => mem_eqAt ru rfl rv (bl_flat bs) y (by simpa using hy), ?_⟩
  refine ⟨.int (bs.count true : Nat), H, I.tok _, ⟨s.toks, ?_⟩, q⟩
  show Value.int ((its.toArray.toList.countP (eqU (.bl true)) : Nat) : Int) s.toks = Value.int ((bs.count true : Nat) : Int) s.toks
  rw [List.toList_toArray, cnt_bl rv]
/-! ### what is told of a call -/
def bits (i : Nat) : List Bool := (List.range 16).map fun j => decide (i = j)
def HasXd (d : Option Addr) (H : Hp) : Prop := ∀ dd, d = some dd → ∃ fs, H dd = some (.xd fs)
def spCls (c : Nat → Addr) : Addr → Value → Option Addr → Sp := fun a cls d vs H Q _ => ∃ i, i < 16 ∧ vs = [.ref a] ∧ cls = .ref (c i) ∧ HasXd d H ∧ ∀ H' p, Same H H' → H p = none → H' p = some (.lst ((bits i).map V.bl)) → Q (.ref p) H'
/-- what is wished of a refusal that met catches: told are 'refused' and its number, 'many' and both fields, 'leaned' and the numbers -/
def EMet (c : Nat → Addr) (Q : VK) : XK := fun cls d H => ∃ i, i < 16 ∧ cls = .ref (c i) ∧ HasXd d H ∧
  (i < 14 → ∀ H' p, Same H H' → H p = none → H' p = some (.tup [.str "refused", .int (i : Nat)]) → Q (.ref p) H') ∧
  (i = 14 → ∃ dd fs m n, d = some dd ∧ H dd = some (.xd fs) ∧ fs.lookup ("many" : Str) = some m ∧ fs.lookup ("most" : Str) = some n ∧ ∀ H' p q, Same H H' → H p = none → H' q = some (.tup [m, n]) → H' p = some (.tup [.str "many", .ref q]) → Q (.ref p) H') ∧
  (i = 15 → ∃ dd fs m, d = some dd ∧ H dd = some (.xd fs) ∧ fs.lookup ("numbers" : Str) = some m ∧ ∀ H' p, Same H H' → H p = none → H' p = some (.tup [.str "leaned", m]) → Q (.ref p) H')
/-- what met makes of the lambda's reading -/
def TMet (c : Nat → Addr) : (XK → Hp → VK → Prop) → Hp → VK → Prop := fun tl H Q =>
  tl (EMet c Q) H fun v H1 => 2 ≤ sizeLine ∧ ∀ p, H1 p = none → Q (.ref p) (upd H1 p (.tup [.str "told", v]))

def clsN : List Str := ["NoLayer", "NoWindow", "NoSheet", "NoMoment", "NoRow", "NoNumber", "NoDrawings", "Unlike", "Endless", "Squeezed", "NoPaper", "NoDeed", "NoText", "NoWords", "TooMany", "Leaned"]
structure ExcN (K : PySem.W.Frag) (mg : Str → Option Value) (c : Nat → Addr) (LE : Addr) : Prop extends ExcT K c LE where
  g : ∀ i n, clsN[i]? = some n → mg n = some (.ref (c i))
  gL : mg "LanternError" = some (.ref LE)
  n1 : PySem.W.findIn K (.ref (c 14)) "many" = some none
  n2 : PySem.W.findIn K (.ref (c 14)) "most" = some none
  n3 : PySem.W.findIn K (.ref (c 15)) "numbers" = some none
theorem ExcN.xf {K : PySem.W.Frag} {mg : Str → Option Value} {c : Nat → Addr} {LE : Addr} (T : ExcN K mg c LE) {i : Nat} (hi : i < 16) : XfC K (c i) := ⟨(T.e i hi).hg, (T.e i hi).hk, (T.e i hi).hs, (T.e i hi).hd⟩
structure ClE (P : Program) (w : World) (K : PySem.W.Frag) (mg : Str → Option Value) (base : Heap) (k : Nat) (x : Str) (ps : List Str) (sp : Addr → Value → Option Addr → Sp) : Prop where
  ex : ∃ (f : Addr) (fd : FuncData), FnE P w K mg base k f fd ps sp ∧ PySem.W.keepIn K (.ref f) = true ∧ Binds K fd ps [] ∧ mg x = some (.ref f)
/-- a def that may refuse -/
structure ClX (P : Program) (w : World) (K : PySem.W.Frag) (mg : Str → Option Value) (base : Heap) (k : Nat) (x : Str) (ps : List Str) (sp : Sp) : Prop where
  ex : ∃ (f : Addr) (fd : FuncData), FnOk P w K mg base (L2.CX P w) k f fd ps sp ∧ PySem.W.keepIn K (.ref f) = true ∧ Binds K fd ps [] ∧ mg x = some (.ref f)
section
variable {X : Cx}
theorem pe_gref {x : Str} {pos : Pos} {C : Addr} (hg : Gl X x) (h : X.mg x = some (.ref C)) (hd : (x == ("__debug__" : Str)) = false := by decide) : PE X (.Name x pos) (tC (.ref C)) := pe_glob hg h rfl hd
/-- a built-in's method, the written part told by its letter -/
theorem pe_bmK {K : PySem.W.Frag} {T : String} {name : Str} {id : String} {r : V → List V → Hp → VK → Prop} {o e : Expr} {es : List Expr} {to : TE} {t : TA} {apos cpos : Pos} (pa : PlainAttrs T) (slot : Slot T name id) (hty : typeOf (.builtin id) = pure (.type "method_descriptor")) (hm : MtR X id r) (ho : PE X o to) (ha : PA X (e :: es) t) (hK : X.K = K := by rfl)
    (hbase : attributeBase o name X.env (eval o X.env) = eval o X.env := by rfl)
    (hfew : ((backTo cpos (starEach (e :: es) X.env)).all (fun x => !x.1) && (backToKw cpos (keywordEach [] X.env)).all (fun x => x.1.isSome) && decide ((e :: es).length + ([] : List Keyword).length + (if ([] : List Keyword).isEmpty then 0 else 1) < 30)) = true := by rfl)
    (hline : (apos.endLine == cpos.line) = true := by rfl) (hs : starEach (e :: es) X.env = (false, eval e X.env) :: starEach es X.env := by rfl)
    (hplain : (backTo cpos (starEach es X.env)).any (·.1) = false := by rfl) : PE X (.Call (.Attribute o name apos) (e :: es) [] cpos) (tBM K T r to t) := by
  subst hK
  exact pe_bm pa slot hty hm ho ha hbase hfew hline hs hplain
theorem pe_ownE {k : Nat} {x : Str} {ps : List Str} {sp : Addr → Value → Option Addr → Sp} {a : Addr} {oe : Obj} {cls : Value} {d : Option Addr} {e : Expr} {es : List Expr} {t : TA} {p pos : Pos} (C : ClE X.prog X.w X.K X.mg X.base k x ps sp) (hr : L2H.RoomH k X.A) (hpn : (a, oe) ∈ X.pn) (hz : Zc cls d oe)
    (hfs : ∃ z, oe.data = .fields z) (hg : Gl X x) (ha : PA X (e :: es) t)
    (hdb : (x == ("__debug__" : Str)) = false := by decide) (he : starEach (e :: es) X.env = (false, eval e X.env) :: starEach es X.env := by rfl) (hpl : (backTo pos (starEach es X.env)).any (·.1) = false := by rfl) :
    PE X (.Call (.Name x p) (e :: es) [] pos) (fun σ H Q => t σ H fun vs H1 => sp a cls d vs H1 Q E0) := by
  obtain ⟨f, fd, F, hk, hb, hm⟩ := C.ex
  exact pe_callE F hr hpn hz hfs hg hm hk hb ha hdb he hpl
/-- f(e, ..), f may refuse: E is wished of what it lets out -/
theorem pe_ownX {k : Nat} {x : Str} {ps : List Str} {sp : Sp} {W : WX} {e : Expr} {es : List Expr} {t : TA} {p pos : Pos} (C : ClX X.prog X.w X.K X.mg X.base k x ps sp) (hr : Room k X.A) (tk : Takes X W) (hg : Gl X x) (ha : PA X (e :: es) t)
    (hdb : (x == ("__debug__" : Str)) = false := by decide) (he : starEach (e :: es) X.env = (false, eval e X.env) :: starEach es X.env := by rfl) (hpl : (backTo pos (starEach es X.env)).any (·.1) = false := by rfl) :
    PE X (.Call (.Name x p) (e :: es) [] pos) (tCallS sp (WE W) t) := by
  obtain ⟨f, fd, F, hk, hb, hm⟩ := C.ex
  exact pe_callS F hr hg hm hk hb (fun σ => passAt tk σ) ha hdb he hpl
def rIsQ (K : PySem.W.Frag) (c : Nat → Addr) (a : Addr) (cls : Value) (d : Option Addr) : List V → Hp → VK → Prop := fun xs H Q => ∃ i, i < 16 ∧ cls = .ref (c i) ∧ rIsP K (c i) a d xs H Q
theorem call_isQ {K : PySem.W.Frag} {c : Nat → Addr} {LE a : Addr} {oe : Obj} {cls : Value} {d : Option Addr} (T : ExcT K c LE) (hpn : (a, oe) ∈ X.pn) (hz : Zc cls d oe) (hfs : ∃ z, oe.data = .fields z) (hK : X.K = K := by rfl) : CallR X (.builtin "isinstance") (rIsQ K c a cls d) := by
  subst hK
  intro pins s σ H xs us Q I r h
  obtain ⟨i, hi, rfl, h⟩ := h
  exact call_isP hpn (T.e i hi) hz hfs pins s σ H xs us Q I r h
/-- what a met def must have: its place, its text -/
structure MetF (X : Cx) (x a : Str) (TT : (XK → Hp → VK → Prop) → Hp → VK → Prop) : Prop where
  ex : ∃ (g : Addr) (pg : Arguments) (bg : List Stmt) (sg : Scope) (kV doc pm cdv ct oc : Value) (an od : Option Addr) (osl : Array (Option Value)) (Ng : List Str), X.mg x = some (.ref g) ∧ PySem.W.keepIn X.K (.ref g) = true ∧
    X.K.lookup g = some ⟨oc, od, .func (PySem.W.fnOf x x pg bg sg .none kV doc pm an cdv ct), osl⟩ ∧ PySem.W.codeIn X.K cdv x = true ∧ L2.Binds X.K (PySem.W.fnOf x x pg bg sg .none kV doc pm an cdv ct) [a] [] ∧ FnScope Ng [a] sg ∧ Ng[0]? = some a ∧ Vis sg a ∧
    LamX.GivesTo X Ng x sg g cdv bg a (X.env.qual ++ "<lambda>") TT
/-- x(lambda: body) -/
theorem pe_met {T : List (Addr × Str)} {TT : (XK → Hp → VK → Prop) → Hp → VK → Prop} {x a : Str} {c P : Addr} {k : Nat} {params : Arguments} {body : Expr} {scope : Scope} {t : XK → TE} {p lpos pos : Pos} (M : MetF X x a TT) (hg : Gl X x)
    (TB : LamX.TabB X.base X.mg c P) (hcode : X.env.code = .ref c) (hmT : (P, X.env.qual ++ "<lambda>") ∈ T) (hu : ∀ p ∈ T, p.1 = P → p.2 = X.env.qual ++ "<lambda>") (hr : Room (k + 2) X.A) (L : LamX.LamS X.env.scope scope)
    (hbody : ∀ (A : Around) (outer : List Env) (s : Shared) (H : Hp) (E : XK) (f c' : Addr), Room k (A.deeper (LamX.lamEnv X scope s.heap.objs.size f c')) → PE (LamX.lamCx X A outer s H E scope f c') body (t E))
    (hdef : defaultsOf params X.env = ([], []) := by rfl)
    (hbind : ∀ (q : Str) (cl : List (Str × Addr)) (pm cv ctv : Value), bindArgs (PySem.W.kla_fn "<lambda>" q params body scope cl pm cv ctv) ⟨[], []⟩ = pure [] := by intros; rfl)
    (hdb : (x == ("__debug__" : Str)) = false := by decide) (hd : (a == ("__debug__" : Str)) = false := by decide) (hcd : (a == ("__classdict__" : Str)) = false := by decide) :
    PE X (.Call (.Name x p) [.Lambda params body scope lpos] [] pos) (LamX.tLam T TT t) := by
  obtain ⟨g, pg, bg, sg, kV, doc, pm, cdv, ct, oc, an, od, osl, Ng, hm, hk, lk, hcg, hb, Sg, hNg, hva, hG⟩ := M.ex
  exact LamX.pe_lamcall hg hm hk lk hcg hb Sg hNg hva hG TB hcode hmT hu hr L hdef hbind hbody hdb hd hcd
end
/-! ### the end of a law that makes lambdas -/
def TabsIn (q : Program) (K : PySem.W.Frag) (h : Heap) : Prop := ∀ (x : Str) (c P : Addr), ((recsOf q).find? fun e => e.name == x).isSome = true → PySem.W.tabIn K x = some (c, P) → PySem.W.CodeHd h c P ∧ h.get? P = some { cls := .none, data := .fields #[] }
theorem walk_ofL {l : PySem.W.OpenLaw} {n k : Nat} {q : Program} {loose : List Str} {XP : (Str → Option Value) → Heap → Prop} {YP : World → Heap → Prop} {d : DefRec} {K : Params → PySem.W.Frag} {x : Str}
    (hn : l.most = some n) (hn2 : n ≤ sizeLine) (hdf : d.params.defaults = []) (hr : Room k callerA) (hY : ∀ (w : World) (h : Heap), YP w h → (K w.params).In h)
    (F : ∀ (w : World) (mg : Str → Option Value) (fa : Addr) (h : Heap), (K w.params).In h → h.Ns mainGlobals mg → mg d.name = some (.ref fa) → TabsIn q (K w.params) h → LamX.LawAtS l w (K w.params) CX0 k n x mg fa h) :
    PySem.W.WalkO q loose XP YP l.row.toRowW d [] (fun f vs => PySem.call f vs) := by
  refine Att.attach_callB hn hdf
    fun w s₀ s₁ mg mb fa o pm cd doc a vs ns G Y ho hd hcd hmg hobj hints hlen hbits hg => ?_
  have hK := hY w _ Y
  have tabs : TabsIn q (K w.params) s₁.heap := fun y c P hf ht => by
    obtain ⟨dL, hfd⟩ := Option.isSome_iff_exists.mp hf
    exact PySem.W.tab_of G.T hK hfd ht
  obtain ⟨fd, cs, sp, hT, nT, C, hb, hsp, hF⟩ := F w mg fa _ hK G.T.g hmg tabs
  exact LamX.law_callTs hK G.T.g G.T.b G.T.builtins G.T.nolimit hg hT nT C G.T.bmain hobj hints
    (Nat.le_trans hlen hn2) hr hF hb (fun H hH hS => hsp H a ns hlen hbits hH hS) fun H e s' z => z

def qLam (x : Str) : Str := x ++ ".<locals>." ++ "<lambda>"
/-- as Fun, its code object told -/
structure FunC (K : PySem.W.Frag) (x qual : Str) (st : Stmt) (f : Addr) (fd : FuncData) (cc : Addr) : Prop where
  ex : ∃ (oc : Value) (od : Option Addr) (kV doc pm : Value) (an : Option Addr) (ct : Value) (osl : Array (Option Value)),
    fd = PySem.W.fnOf x qual (defArgs st) (defBody st) (defScope st) .none kV doc pm an (.ref cc) ct ∧ K.lookup f = some ⟨oc, od, .func fd, osl⟩ ∧ PySem.W.codeIn K (.ref cc) qual = true
theorem funC_mk {K : PySem.W.Frag} {x qual : Str} {st : Stmt} {f cc : Addr} {oc : Value} {od an : Option Addr} {osl : Array (Option Value)} {kV doc pm ct : Value} (l : K.lookup f = some ⟨oc, od, .func (PySem.W.fnOf x qual (defArgs st) (defBody st) (defScope st) .none kV doc pm an (.ref cc) ct), osl⟩)
    (c : PySem.W.codeIn K (.ref cc) qual = true) : FunC K x qual st f (PySem.W.fnOf x qual (defArgs st) (defBody st) (defScope st) .none kV doc pm an (.ref cc) ct) cc := ⟨⟨oc, od, kV, doc, pm, an, ct, osl, rfl, l, c⟩⟩
/-- what a maker of lambdas has: its table at PP among the tables TS -/
structure Mkr (base : Heap) (mg : Str → Option Value) (cc PP : Addr) (x : Str) (TS : List (Addr × Str)) : Prop where
  tb : LamX.TabB base mg cc PP
  hm : (PP, qLam x) ∈ TS
  hu : ∀ p ∈ TS, p.1 = PP → p.2 = qLam x
section
variable {P : Program} {w : World} {K : PySem.W.Frag} {mg : Str → Option Value} {base : Heap}
theorem fun_okL {x qual : Str} {st : Stmt} {f cc : Addr} {fd : FuncData} {N ps : List Str} {k : Nat} {sp : Sp} (F : FunC K x qual st f fd cc) (S : FnScope N ps (defScope st)) (ln : ∀ vs H Q E, sp vs H Q E → vs.length = ps.length)
    (hbody : ∀ (A : Around) (outer : List Env) (s : Shared) (H : Hp) (vs : List V) (Q : VK) (E : XK), Room k (A.deeper (envOfC qual (defScope st) s.heap.objs.size f (.ref cc))) → sp vs H Q E →
      ∃ t, PSs (cxOf CX0 P w K mg base N qual (defScope st) f (.ref cc) A outer s H E).nox (defBody st) t ∧ t { nx := fun _ H' => Q .non H', rt := Q } (L2.start N vs) H) : FnOk P w K mg base CX0 (k + 1) f fd ps sp := by
  obtain ⟨oc, od, kV, doc, pm, an, ct, osl, rfl, lk, hcd⟩ := F.ex
  refine fn_of lk hcd S ln fun A outer s H vs Q E hr hsp => ?_
  obtain ⟨t, ht, hq⟩ := hbody A outer s H vs Q E hr hsp
  exact ⟨t, ht.nox, hq⟩
end
/-! ### the state of the later laws; what stands but the state and the tables -/
def IsSx (H : Hp) (st : Addr) : Prop := ∃ (a : Int) (b : Bool), H st = some (.lst [.int a, .bl b]) ∧ 0 ≤ a ∧ (b = false → a < 2147483647)
def Gx (st : Addr) (H H' : Hp) : Prop := (∀ b o, b ≠ st → (∀ ps, o ≠ .tbl ps) → H b = some o → H' b = some o) ∧ (IsSx H st → IsSx H' st) ∧ ∀ T, LamX.Tabs T H → LamX.Tabs T H'
theorem Gx.refl {st : Addr} {H : Hp} : Gx st H H := ⟨fun _ _ _ _ h => h, id, fun _ h => h⟩
theorem Gx.trans {st : Addr} {H H1 H2 : Hp} (a : Gx st H H1) (b : Gx st H1 H2) : Gx st H H2 := ⟨fun c o n z h => b.1 c o n z (a.1 c o n z h), fun h => b.2.1 (a.2.1 h), fun T h => b.2.2 T (a.2.2 T h)⟩
theorem gx_same {st : Addr} {H H' : Hp} (s : Same H H') : Gx st H H' := ⟨fun b o _ _ h => s b o h, fun ⟨a, b, h, r⟩ => ⟨a, b, s _ _ h, r⟩, fun T h => h.ext s⟩
theorem lst_tbl {xs : List V} : ∀ ps, HO.lst xs ≠ .tbl ps := fun ps z => by cases z
theorem tup_tbl {xs : List V} : ∀ ps, HO.tup xs ≠ .tbl ps := fun ps z => by cases z
theorem tabs_lst {T : List (Addr × Str)} {H : Hp} {D : Addr} {xs ys : List V} (e : H D = some (.lst xs)) (h : LamX.Tabs T H) : LamX.Tabs T (upd H D (.lst ys)) := fun p hp => by
  obtain ⟨ps, h1, h2, h3⟩ := h p hp
  refine ⟨ps, ?_, h2, fun pos cv hc => ?_⟩
  · rw [upd_ne (ne_of h1 e (by intro z; cases z))]
    exact h1
  · obtain ⟨c0, e1, e2⟩ := h3 pos cv hc
    refine ⟨c0, e1, ?_⟩
    rw [upd_ne (ne_of e2 e (by intro z; unfold LamX.CodeO at z; cases z))]
    exact e2
theorem gx_ext {st : Addr} {H H' : Hp} (e : LamX.ExtN H H') (t : ∀ T, LamX.Tabs T H → LamX.Tabs T H') : Gx st H H' := ⟨fun b o _ z h => e b o h z, fun ⟨a, b, h, r⟩ => ⟨a, b, e _ _ h lst_tbl, r⟩, t⟩
theorem Gx.sqT {st : Addr} {K : PySem.W.Frag} {H H' : Hp} {a : Addr} {xs : List V} (g : Gx st H H') (s : IsSx H st) (h : SqT K H a xs) : SqT K H' a xs := by
  obtain ⟨u, v, hs, _⟩ := s
  rcases h with (h | ⟨o, h⟩) | h
  · exact .inl (.inl (g.1 _ _ (ne_of h hs (by intro z; cases z)) tup_tbl h))
  · exact .inl (.inr ⟨o, g.1 _ _ (ne_of h hs (by intro z; cases z)) (fun ps z => by cases z) h⟩)
  · exact .inr h
theorem Gx.tk {st : Addr} {K : PySem.W.Frag} {H H' : Hp} (g : Gx st H H') (s : IsSx H st) : TKeep K H H' := fun _ _ h => g.sqT s h
/-- what stood before the law's state was made -/
theorem Gx.sqL {st : Addr} {K : PySem.W.Frag} {H H' : Hp} {a : Addr} {xs : List V} (g : Gx st H H') (n : a ≠ st) (h : SqL K H a xs) : SqL K H' a xs := by
  rcases h with (h | ⟨o, h⟩) | h
  · exact .inl (.inl (g.1 _ _ n lst_tbl h))
  · exact .inl (.inr ⟨o, g.1 _ _ n (fun ps z => by cases z) h⟩)
  · exact .inr h
theorem sx_ne {H : Hp} {st p : Addr} (s : IsSx H st) (h : H p = none) : p ≠ st := by
  obtain ⟨a, b, e, _⟩ := s
  exact fun z => by rw [z, e] at h; cases h
theorem gx_set {st : Addr} {H : Hp} {a : Int} {b : Bool} {xs : List V} (e : H st = some (.lst xs)) (h0 : 0 ≤ a) (h1 : b = false → a < 2147483647) : Gx st H (upd H st (.lst [.int a, .bl b])) :=
  ⟨fun c o n _ h => by rw [upd_ne n]; exact h, fun _ => ⟨a, b, upd_same, h0, h1⟩, fun T h => tabs_lst e h⟩
theorem gx_upd {st D : Addr} {H0 H : Hp} {xs : List V} (g : Gx st H0 H) (n0 : H0 D = none) (nD : D ≠ st) (eD : H D = some (.lst xs)) (ys : List V) : Gx st H0 (upd H D (.lst ys)) :=
  ⟨fun b o n z h => by rw [upd_ne (ne_of_none h n0)]; exact g.1 b o n z h, fun s => by
    obtain ⟨a, b, e, r⟩ := g.2.1 s
    exact ⟨a, b, by rw [upd_ne (Ne.symm nD)]; exact e, r⟩, fun T h => tabs_lst eD (g.2.2 T h)⟩
/-- the same with the law's own tables alone -/
def Gw (TS : List (Addr × Str)) (st : Addr) (H H' : Hp) : Prop := (∀ b o, b ≠ st → (∀ ps, o ≠ .tbl ps) → H b = some o → H' b = some o) ∧ (IsSx H st → IsSx H' st) ∧ (LamX.Tabs TS H → LamX.Tabs TS H')
theorem Gw.refl {TS : List (Addr × Str)} {st : Addr} {H : Hp} : Gw TS st H H := ⟨fun _ _ _ _ h => h, id, id⟩
theorem Gw.trans {TS : List (Addr × Str)} {st : Addr} {H H1 H2 : Hp} (a : Gw TS st H H1) (b : Gw TS st H1 H2) : Gw TS st H H2 := ⟨fun c o n z h => b.1 c o n z (a.1 c o n z h), fun h => b.2.1 (a.2.1 h), fun h => b.2.2 (a.2.2 h)⟩
theorem Gx.l {TS : List (Addr × Str)} {st : Addr} {H H' : Hp} (g : Gx st H H') : Gw TS st H H' := ⟨g.1, g.2.1, g.2.2 TS⟩
theorem gw_same {TS : List (Addr × Str)} {st : Addr} {H H' : Hp} (s : Same H H') : Gw TS st H H' := (gx_same s).l
theorem gw_ext {TS : List (Addr × Str)} {st : Addr} {H H' : Hp} (e : LamX.ExtN H H') (t : LamX.Tabs TS H') : Gw TS st H H' := ⟨fun b o _ z h => e b o h z, fun ⟨a, b, h, r⟩ => ⟨a, b, e _ _ h lst_tbl, r⟩, fun _ => t⟩
theorem Gw.tk {TS : List (Addr × Str)} {st : Addr} {K : PySem.W.Frag} {H H' : Hp} (g : Gw TS st H H') (s : IsSx H st) : TKeep K H H' := fun a xs h => by
  obtain ⟨u, v, hs, _⟩ := s
  rcases h with (h | ⟨o, h⟩) | h
  · exact .inl (.inl (g.1 _ _ (ne_of h hs (by intro z; cases z)) tup_tbl h))
  · exact .inl (.inr ⟨o, g.1 _ _ (ne_of h hs (by intro z; cases z)) (fun ps z => by cases z) h⟩)
  · exact .inr h
theorem ExtN.tk {K : PySem.W.Frag} {H H' : Hp} (e : LamX.ExtN H H') : TKeep K H H' := fun a xs h => by
  rcases h with (h | ⟨o, h⟩) | h
  · exact .inl (.inl (e _ _ h tup_tbl))
  · exact .inl (.inr ⟨o, e _ _ h (fun ps z => by cases z)⟩)
  · exact .inr h
/-- what stands in a law between two of its states -/
structure Go (TS : List (Addr × Str)) (H H' : Hp) : Prop where
  e : LamX.ExtN H H'
  t : LamX.Tabs TS H'
theorem Go.sqL {TS : List (Addr × Str)} {K : PySem.W.Frag} {H H' : Hp} {a : Addr} {xs : List V} (g : Go TS H H') (h : SqL K H a xs) : SqL K H' a xs := by
  rcases h with (h | ⟨o, h⟩) | h
  · exact .inl (.inl (g.e _ _ h lst_tbl))
  · exact .inl (.inr ⟨o, g.e _ _ h (fun ps z => by cases z)⟩)
  · exact .inr h
theorem Gw.go {TS : List (Addr × Str)} {st : Addr} {H0 H H1 H2 : Hp} (g : Gw TS st H1 H2) (o : Go TS H0 H) (s : Same H H1) (n : H st = none) : Go TS H0 H2 :=
  ⟨fun b u h z => g.1 b u (ne_of_none (o.e b u h z) n) z (s _ _ (o.e b u h z)), g.2.2 (o.t.ext s)⟩

/-! ### refusals with fields -/
def clsB (s : Stmt) (i : Nat) : Stmt := match s with
  | .ClassDef _ _ _ b _ _ _ _ _ _ _ => b.getD i (.Pass ⟨0, 0, 0, 0⟩)
  | _ => .Pass ⟨0, 0, 0, 0⟩
/-- the class at C is made by its own __init__, which keeps sp -/
structure IniT (P : Program) (w : World) (K : PySem.W.Frag) (mg : Str → Option Value) (base : Heap) (C : Addr) (n : Nat) (sp : Sp) : Prop where
  ex : ∃ (fI : Addr) (fd : FuncData) (ps : List Str), OexC K C ∧ PySem.W.findIn K (.ref C) "__init__" = some (some (.ref fI)) ∧ PySem.W.typeIn K (.ref fI) = some (.type "function") ∧ FnOk P w K mg base CX0 1 fI fd ps sp ∧ Binds K fd ps []
theorem pmk_init {X : Cx} {C : Addr} {n : Nat} {sp : Sp} {x : Str} {e : Expr} {es : List Expr} {ta : TA} {p pos : Pos} (I : IniT X.prog X.w X.K X.mg X.base C n sp) (hr : Room 2 X.A) (hg : Gl X x) (hm : X.mg x = some (.ref C)) (ha : PA X (e :: es) ta)
    (hdb : (x == ("__debug__" : Str)) = false := by decide) (he : starEach (e :: es) X.env = (false, eval e X.env) :: starEach es X.env := by rfl) (hpl : (backTo pos (starEach es X.env)).any (·.1) = false := by rfl) :
    PMk X (.Call (.Name x p) (e :: es) [] pos) (tMkO C sp [] ta) := by
  obtain ⟨fI, fd, ps, o, i, t, F, b⟩ := I.ex
  exact pmk_oex o i t F hr b .nil pass0 hg hm ha hdb he hpl
/-- a wish may lean on how many slots there are -/
theorem takes_len {X : Cx} {W : WX} (tk : Takes X W) : Takes X (fun cls d σ H => σ.length = X.N.length → W cls d σ H) := fun u s' ⟨a, B, sI, pins, σ, H, cls, d, e, I, nb, up, sky, na, os, ag, hw⟩ =>
  tk u s' ⟨a, B, sI, pins, σ, H, cls, d, e, I, nb, up, sky, na, os, ag, hw I.len⟩
theorem HasXd.sm {d : Option Addr} {H H' : Hp} (h : HasXd d H) (s : Same H H') : HasXd d H' := fun dd e => by
  obtain ⟨fs, hf⟩ := h dd e
  exact ⟨fs, s _ _ hf⟩
theorem bits_count (i : Nat) (h : i < 16) : (bits i).count true = 1 := by
  have : ∀ i, i < 16 → (bits i).count true = 1 := by decide
  exact this i h
theorem bits_at (i j : Nat) (h : j < 16) : ((bits i).map V.bl)[j]? = some (.bl (decide (i = j))) := by
  unfold bits
  rw [List.map_map, List.getElem?_map, List.getElem?_range h]
  rfl
theorem run_ex {X : Cx} {st : List Stmt} {pins : List (Addr × Obj)} {s : Shared} {σ : L2.St} {H : Hp} {D : Ends} (h : ∃ t, PSs X st t ∧ t D σ H) (I : Inv X pins σ H s) :
    wpAny (model X.prog X.w) X.A (execs st X.env) (SP X pins D) X.xe s := by
  obtain ⟨t, h1, h2⟩ := h
  exact h1.run pins s σ H D I h2

theorem sl_any {K : PySem.W.Frag} {H : Hp} {a : Addr} {xs : List V} {lo hi : Option Int} {R : VK} (hS : SqT K H a xs) (h : ∀ H' p, Same H H' → SqT K H' p (cutV xs lo hi) → R (.ref p) H') : rSlA K (.ref a) lo hi H R :=
  ⟨a, xs, rfl, hS, fun w => h H a (Same.refl _) (by rw [cut_whole w]; exact hS), fun _ p np => h _ p (same_upd np) (.inl (.inl upd_same))⟩
theorem cat_any {K : PySem.W.Frag} {H : Hp} {a b : Addr} {xs ys : List V} {R : VK} (ha : SqT K H a xs) (hb : SqT K H b ys) (hz : xs.length + ys.length ≤ 1000) (h : ∀ H' p, Same H H' → SqT K H' p (xs ++ ys) → R (.ref p) H') : rCatA K (.ref a) (.ref b) H R :=
  ⟨a, b, xs, ys, rfl, rfl, ha, hb, Nat.le_of_lt (small1000 hz), fun e => h H b (Same.refl _) (by rw [e]; exact hb), fun _ e => h H a (Same.refl _) (by rw [e, List.append_nil]; exact ha), fun _ _ p np => h _ p (same_upd np) (.inl (.inl upd_same))⟩
theorem Sd.st {k : Nat} {x : Str} (h : PyData.strOk x = true) : Sd k (.str x) := ⟨h, Nat.zero_le _⟩
theorem sd_mv (m : MV) : Sd 1 (mvD m) := Sd.tup fun e he => by
  rcases mem3 he with rfl | rfl | rfl <;> exact Sd.int _
theorem sd_bk (o : Option Int) : Sd 0 (bkD o) := by
  cases o with
  | none => exact Sd.none
  | some i => exact Sd.int i
theorem sd_ly (l : LY) : Sd 3 (lyD l) := Sd.tup fun e he => by
  rcases mem2 he with rfl | rfl
  · exact Sd.tup fun z hz => by
      obtain ⟨r, _, rfl⟩ := List.mem_map.mp hz
      exact sd_rw r
  · exact (sd_bk _).more (by omega)
theorem sd_win (x y : Int) (ms : List MV) : Sd 3 (winD x y ms) := Sd.tup fun e he => by
  rcases mem3 he with rfl | rfl | rfl
  · exact Sd.int _
  · exact Sd.int _
  · exact Sd.tup fun z hz => by
      obtain ⟨m, _, rfl⟩ := List.mem_map.mp hz
      exact sd_mv m
theorem sd_sh (ls : List LY) (x y : Int) (ms : List MV) : Sd 5 (shD ls x y ms) := Sd.tup fun e he => by
  rcases mem2 he with rfl | rfl
  · exact Sd.tup fun z hz => by
      obtain ⟨l, _, rfl⟩ := List.mem_map.mp hz
      exact sd_ly l
  · exact (sd_win x y ms).more (by omega)
/-- what met tells, as data -/
def toldD (d : PyData) : PyData := .tuple [.str "told", d]
def refD (i : Int) : PyData := .tuple [.str "refused", .int i]
def manyD (m n : Int) : PyData := .tuple [.str "many", .tuple [.int m, .int n]]
theorem sd_told {k : Nat} {d : PyData} (h : Sd k d) : Sd (k + 1) (toldD d) := Sd.tup fun e he => by
  rcases mem2 he with rfl | rfl
  · exact Sd.st (by decide +kernel)
  · exact h
theorem sd_ref (i : Int) : Sd 1 (refD i) := Sd.tup fun e he => by
  rcases mem2 he with rfl | rfl
  · exact Sd.st (by decide +kernel)
  · exact Sd.int i
theorem sd_many (m n : Int) : Sd 2 (manyD m n) := Sd.tup fun e he => by
  rcases mem2 he with rfl | rfl
  · exact Sd.st (by decide +kernel)
  · exact Sd.tup fun z hz => by rcases mem2 hz with rfl | rfl <;> exact Sd.int _
theorem told_dp {K : PySem.W.Frag} {H : Hp} {p : Addr} {v : V} {d : PyData} (h : SqT K H p [.str "told", v]) (hv : Dp K H v d) : Dp K H (.ref p) (toldD d) := .tup h (.cons (.str _) (.cons hv .nil))
theorem ref_dp {K : PySem.W.Frag} {H : Hp} {p : Addr} {i : Int} (h : SqT K H p [.str "refused", .int i]) : Dp K H (.ref p) (refD i) := .tup h (.cons (.str _) (.cons (.int i) .nil))
theorem many_dp {K : PySem.W.Frag} {H : Hp} {p q : Addr} {m n : Int} (h : SqT K H p [.str "many", .ref q]) (hq : SqT K H q [.int m, .int n]) : Dp K H (.ref p) (manyD m n) := .tup h (.cons (.str _) (.cons (.tup hq (.cons (.int m) (.cons (.int n) .nil))) .nil))
/-- != of two things of the same data -/
theorem ne_eqd {K : PySem.W.Frag} {H : Hp} {x y : V} {d : PyData} {Q : VK} (hx : Dp K H x d) (hy : Dp K H y d) (sd : ∃ k, Sd k d ∧ k ≤ 64) (q : Q (.bl false) H) : rNeD K x y H Q := by
  obtain ⟨k, s, hk⟩ := sd
  exact ne_same hx hy s hk q
/-- data that stands as long as the tuples do -/
def Dk (K : PySem.W.Frag) (H : Hp) (v : V) (d : PyData) : Prop := ∀ H', TKeep K H H' → Dp K H' v d
theorem Dk.keep {K : PySem.W.Frag} {H H' : Hp} {v : V} {d : PyData} (h : Dk K H v d) (k : TKeep K H H') : Dk K H' v d := fun H2 k2 => h H2 fun a xs z => k2 _ _ (k _ _ z)
theorem Dk.dp {K : PySem.W.Frag} {H : Hp} {v : V} {d : PyData} (h : Dk K H v d) : Dp K H v d := h H fun _ _ z => z
theorem ShAt.dk {K : PySem.W.Frag} {H : Hp} {v : V} {ls : List LY} {x y : Int} {ms : List MV} (h : ShAt K H v ls x y ms) : Dk K H v (shD ls x y ms) := fun H' k => (h.keep k).dp
theorem LyAt.dk {K : PySem.W.Frag} {H : Hp} {v : V} {l : LY} (h : LyAt K H v l) : Dk K H v (lyD l) := fun H' k => (LyAt.keep k h).dp
theorem told_dk {K : PySem.W.Frag} {H : Hp} {p : Addr} {v : V} {d : PyData} (h : SqT K H p [.str "told", v]) (hv : Dk K H v d) : Dk K H (.ref p) (toldD d) := fun H' k => told_dp (k _ _ h) (hv H' k)
theorem ref_dk {K : PySem.W.Frag} {H : Hp} {p : Addr} {i : Int} (h : SqT K H p [.str "refused", .int i]) : Dk K H (.ref p) (refD i) := fun H' k => ref_dp (k _ _ h)
theorem many_dk {K : PySem.W.Frag} {H : Hp} {p q : Addr} {m n : Int} (h : SqT K H p [.str "many", .ref q]) (hq : SqT K H q [.int m, .int n]) : Dk K H (.ref p) (manyD m n) := fun H' k => many_dp (k _ _ h) (k _ _ hq)
theorem pi_listK {X : Cx} {K : PySem.W.Frag} {tg l : Expr} {tl : TE} (hl : PE X l tl) (hK : X.K = K := by rfl) : PI X tg l (iList K tl) := by
  subst hK
  exact pi_list hl
theorem pi_tupK {X : Cx} {K : PySem.W.Frag} {tg l : Expr} {tl : TE} (hl : PE X l tl) (hK : X.K = K := by rfl) : PI X tg l (iTup K tl) := by
  subst hK
  exact pi_tup hl
/-- is not, of two truths -/
theorem op_notB {X : Cx} : OpR X (compareOp .IsNot) (fun x y H Q => ∃ a b, x = .bl a ∧ y = .bl b ∧ Q (.bl (!decide (a = b))) H) := by
  intro pins s σ H x y v u Q I rx ry h
  obtain ⟨a, b, rfl, rfl, q⟩ := h
  cases rx
  cases ry
  show wpAny _ _ ((isSame (Value.bool a) (Value.bool b)) >>= fun z => pure (Value.bool (!z))) _ _ s
  exact wpAny_bind (wpAny_isSame_plain rfl (wpAny_pure (fin_bl I q (by cases a <;> cases b <;> rfl))))

/-! ### lengths -/
def lenL (l : LY) : Option Int := match l.2 with
  | none => some (tot l.1)
  | some _ => none
/-- r is the length of a sheet -/
def ShLen (ls : List LY) (last : Int) (r : Option Int) : Prop :=
  ((∃ l ∈ ls, lenL l = none) ∧ r = none) ∨ ((∀ l ∈ ls, lenL l = some (tot l.1)) ∧ ∃ m, r = some m ∧ m ∈ ls.map (fun l => tot l.1) ++ [last] ∧ ∀ y ∈ ls.map (fun l => tot l.1) ++ [last], y ≤ m)
theorem ShLen.uniq {ls : List LY} {last : Int} {r q : Option Int} (a : ShLen ls last r) (b : ShLen ls last q) : r = q := by
  rcases a with ⟨⟨l, hl, e⟩, rfl⟩ | ⟨h, m, rfl, hm, hx⟩
  · rcases b with ⟨_, rfl⟩ | ⟨h, _⟩
    · rfl
    · rw [h l hl] at e
      cases e
  · rcases b with ⟨⟨l, hl, e⟩, rfl⟩ | ⟨_, m', rfl, hm', hx'⟩
    · rw [h l hl] at e
      cases e
    · have := hx m' hm'
      have := hx' m hm
      congr 1
      omega
theorem bk_flat (o : Option Int) : flatV (bkV o) = true := by
  cases o <;> rfl
theorem in_ends (ls : List LY) : inV .non (ls.map fun l => bkV (lenL l)) = true ↔ ∃ l ∈ ls, lenL l = none := by
  unfold inV
  rw [List.any_eq_true]
  constructor
  · rintro ⟨y, hy, e⟩
    obtain ⟨l, hl, rfl⟩ := List.mem_map.mp hy
    refine ⟨l, hl, ?_⟩
    cases z : lenL l with
    | none => rfl
    | some i =>
      rw [z] at e
      cases e
  · rintro ⟨l, hl, e⟩
    exact ⟨_, List.mem_map.mpr ⟨l, hl, rfl⟩, by rw [e]; rfl⟩
theorem all_ints {ls : List LY} (h : ¬ ∃ l ∈ ls, lenL l = none) : (∀ l ∈ ls, lenL l = some (tot l.1)) ∧ (ls.map fun l => bkV (lenL l)) = (ls.map fun l => tot l.1).map V.int := by
  have h1 : ∀ l ∈ ls, lenL l = some (tot l.1) := fun l hl => by
    cases z : l.2 with
    | none =>
      unfold lenL
      rw [z]
    | some i =>
      exact absurd ⟨l, hl, by unfold lenL; rw [z]⟩ h
  refine ⟨h1, ?_⟩
  rw [List.map_map]
  exact List.map_congr_left fun l hl => by rw [h1 l hl]; rfl

/-! ### zip of a tuple and a list -/
def ItzM (K : PySem.W.Frag) (a b : Addr) : It :=
  ⟨fun i H => ∃ (xs ys : List V) (x y : V), SqT K H a xs ∧ SqL K H b ys ∧ xs[i]? = some x ∧ ys[i]? = some y,
    fun i H v H' => ∃ T x y, v = .ref T ∧ H T = none ∧ H' = upd H T (.tup [x, y]) ∧ (∀ xs, SqT K H a xs → xs[i]? = some x) ∧ ∀ ys, SqL K H b ys → ys[i]? = some y,
    fun i H => ∃ xs ys : List V, SqT K H a xs ∧ SqL K H b ys ∧ i = min xs.length ys.length⟩
theorem turn_zipM {P : Program} {w : World} {K : PySem.W.Frag} {elts : List Expr} {kk : Nat} {tpos : Pos} {a b z TI TO i1 i2 : Addr} (S : ZipSep2 z TI TO i1 i2 [i1, a] [i2, b]) (na : a ≠ i1) (nb : b ≠ i2) :
    Turn P w K (.Tuple elts kk tpos) (ItzM K a b) [z, TI, TO, i1, i2] z (fun i h => IsZip h z TI TO .none ∧ IsTupOf2 h TI (.ref i1) (.ref i2) ∧ (∃ x y, IsTupOf2 h TO x y) ∧ h.IsTupleIter i1 a i ∧ h.IsListIter i2 b i) where
  mem := List.mem_cons_self ..
  obj := fun i h ⟨hz, hTI, ⟨x, y, hTO⟩, ⟨o1, e1, _, d1⟩, ⟨o2, e2, _, d2⟩⟩ c hc => by
    simp only [List.mem_cons, List.not_mem_nil, or_false] at hc
    rcases hc with rfl | rfl | rfl | rfl | rfl
    · exact ⟨_, hz, fun v z => nomatch z⟩
    · exact ⟨_, hTI, fun v z => nomatch z⟩
    · exact ⟨_, hTO, fun v z => nomatch z⟩
    · exact ⟨o1, e1, fun v z => by rw [d1] at z; cases z⟩
    · exact ⟨o2, e2, fun v z => by rw [d2] at z; cases z⟩
  keep := fun i h h' ⟨hz, hTI, ⟨x, y, hTO⟩, h1, h2⟩ k =>
    ⟨k z (by simp) _ hz, k TI (by simp) _ hTI, ⟨x, y, k TO (by simp) _ hTO⟩,
      h1.at (fun o e => k i1 (by simp) o e), h2.at (fun o e => k i2 (by simp) o e)⟩
  item := by
    intro X eP ew eK hc i pins s σ H E I hf st hg
    subst eP ew eK
    obtain ⟨hz, hTI, hTO, h1, h2⟩ := st
    obtain ⟨xs, ys, x, y, sx, sy, hx, hy⟩ := hg
    obtain ⟨its, rv, p1, _⟩ := I.tuple sx
    obtain ⟨its2, rv2, p2, _⟩ := I.list sy
    obtain ⟨u, hu, ru⟩ := rv.get hx
    obtain ⟨u2, hu2, ru2⟩ := rv2.get hy
    have hd : X.A.in1.handled = none := by simp [I.ok.hd hc]
    have lu := (List.getElem?_eq_some_iff.mp hu).1
    have lu2 := (List.getElem?_eq_some_iff.mp hu2).1
    refine (GoesN.zip2 S (Draws.tuple hd i1 a na its.toArray) (Draws.list hd i2 b nb its2.toArray)).goes i s _ E
      (by simp only [List.size_toArray]; omega) ⟨hz, hTI, hTO, ⟨h1, p1⟩, ⟨h2, p2.isList⟩⟩
      fun v h' tk hY st' hk _ => ?_
    obtain ⟨T, v1, v2, rfl, hT, e1, e2, hpair⟩ := hY
    obtain ⟨hz', hTI', hTO', ⟨h1', _⟩, ⟨h2', _⟩⟩ := st'
    have ev1 : v1 = u := by
      have : its[i]? = some v1 := by simpa using e1
      exact Option.some.inj (this.symm.trans hu)
    have ev2 : v2 = u2 := by
      have : its2[i]? = some v2 := by simpa using e2
      exact Option.some.inj (this.symm.trans hu2)
    subst ev1 ev2
    have new : ObjOk X.prog X.w (upd H T (.tup [x, y])) h' T (.tup [x, y]) :=
      ⟨by show 2 ≤ sizeLine; decide, [v1, v2], .cons ru (.cons ru2 .nil), hpair⟩
    have J : Inv X pins σ (upd H T (.tup [x, y])) { s with heap := h', toks := tk } :=
      I.turnedNew (ch := [z, TI, TO, i1, i2]) (fun c o hb e => hk c o (fun m => hb (by
        simp only [List.mem_cons, List.not_mem_nil, or_false] at m ⊢
        rcases m with m | m | m | m <;> simp [m])) e) hf hT new
    refine ⟨.ref T, _, J, rfl, ⟨T, x, y, rfl, I.hok.fresh hT, rfl, fun l hl => ?_, fun l hl => ?_⟩, ⟨hz', hTI', hTO', h1', h2'⟩, fun c hcm => ?_⟩
    · rw [I.tuple_inj hl sx]
      exact hx
    · rw [I.list_inj hl sy]
      exact hy
    · have hlt : c < s.heap.objs.size := by
        obtain ⟨x0, y0, hTO⟩ := hTO
        obtain ⟨o1, g1, _⟩ := h1
        obtain ⟨o2, g2, _⟩ := h2
        simp only [List.mem_cons, List.not_mem_nil, or_false] at hcm
        rcases hcm with rfl | rfl | rfl | rfl | rfl
        · exact Heap.lt_size hz
        · exact Heap.lt_size hTI
        · exact Heap.lt_size hTO
        · exact Heap.lt_size g1
        · exact Heap.lt_size g2
      rw [upd_ne (Nat.ne_of_lt (Nat.lt_of_lt_of_le hlt hT))]
      exact (hf c hcm).1
  done := by
    intro X eP ew eK hc i pins s σ H E I hf st hg
    subst eP ew eK
    obtain ⟨hz, hTI, hTO, h1, h2⟩ := st
    obtain ⟨xs, ys, sx, sy, hi⟩ := hg
    obtain ⟨its, rv, p1, _⟩ := I.tuple sx
    obtain ⟨its2, rv2, p2, _⟩ := I.list sy
    have hd : X.A.in1.handled = none := by simp [I.ok.hd hc]
    have l1 := rv.length
    have l2 := rv2.length
    have hin : i = min its.toArray.size its2.toArray.size := by
      simp only [List.size_toArray]
      omega
    refine (GoesN.zip2 (elts := elts) (x1 := kk) (pos := tpos) S (Draws.tuple hd i1 a na its.toArray) (Draws.list hd i2 b nb its2.toArray)).stops s _ E
      (by rw [← hin]; exact ⟨hz, hTI, hTO, ⟨h1, p1⟩, ⟨h2, p2.isList⟩⟩) fun h' tk hk _ => ?_
    exact I.turnedL (ch := [z, TI, TO, i1, i2]) (fun c o hb e => hk c o (fun m => hb (by
        simp only [List.mem_cons, List.not_mem_nil, or_false] at m ⊢
        rcases m with m | m | m | m <;> simp [m])) e) hf
  self := fun A i s Q E st h => wpAny_pyIter_zip st.1 h
def iZipM (K : PySem.W.Frag) (ta : TA) : TI := fun σ H R => ta σ H fun vs H1 => ∃ a b xs ys, vs = [.ref a, .ref b] ∧ SqT K H1 a xs ∧ SqL K H1 b ys ∧ R (ItzM K a b) H1
theorem pi_zipM {X : Cx} {e e2 : Expr} {ta : TA} {p pos tpos : Pos} {elts : List Expr} {kk : Nat} (hg : Gl X "zip") (hm : X.mg "zip" = none) (ha : PA X [e, e2] ta)
    (hs : starEach [e, e2] X.env = (false, eval e X.env) :: starEach [e2] X.env := by rfl) (hpl : (backTo pos (starEach [e2] X.env)).any (·.1) = false := by rfl) : PI X (.Tuple elts kk tpos) (.Call (.Name "zip" p) [e, e2] [] pos) (iZipM X.K ta) := by
  refine ⟨fun pins s σ H R I h => Call_ (ld_blt I hg hm PyProof.Rows.boot_zip
    (PyProof.Rows.callWith_type1 (thn (ha.run pos pins s σ H _ I h) fun us s1 hh => ?_) hs hpl))⟩
  obtain ⟨vs, H1, I1, r1, a, b, xs, ys, rfl, sx, sy, q⟩ := hh
  obtain ⟨u1, u2, rfl, r2, r3⟩ := vals2 r1
  cases (show u1 = Value.ref a from r2)
  cases (show u2 = Value.ref b from r3)
  obtain ⟨its, rv, p1, _⟩ := I1.tuple sx
  obtain ⟨its2, rv2, p2, _⟩ := I1.list sy
  obtain ⟨o1, ho1, _⟩ := id p1
  have la : a < s1.heap.objs.size := Heap.lt_size ho1
  have lb : b < s1.heap.objs.size := p2.lt
  refine zip_begins2 (begins_tuple a its.toArray) (begins_list b its2.toArray) p1 p2.isList
    fun h' hz hTI hTO g1 g2 hsz hk => wpAny_pyIter_zip hz ?_
  have I2 : Inv X pins σ H1 { s1 with heap := h' } := I1.kept (t' := s1.toks) hk
  refine ⟨s1.heap.objs.size + 4, [s1.heap.objs.size + 4, s1.heap.objs.size + 2, s1.heap.objs.size + 3, s1.heap.objs.size, s1.heap.objs.size + 1], _, _, H1, rfl, I2,
    turn_zipM (zip_sep2 (fp1 := [a]) (fp2 := [b]) (fun c hc => by rw [List.mem_singleton.mp hc]; exact la) (fun c hc => by rw [List.mem_singleton.mp hc]; exact lb)) (Nat.ne_of_lt la) (Nat.ne_of_lt (Nat.lt_succ_of_lt lb)),
    ⟨hz, hTI, ⟨_, _, hTO⟩, ⟨_, g1, rfl, rfl⟩, ⟨_, g2, rfl, rfl⟩⟩, fun c hcm => ?_, q⟩
  have hle : s1.heap.objs.size ≤ c := by
    simp only [List.mem_cons, List.not_mem_nil, or_false] at hcm
    rcases hcm with rfl | rfl | rfl | rfl | rfl
    · exact Nat.le_add_right _ _
    · exact Nat.le_add_right _ _
    · exact Nat.le_add_right _ _
    · exact Nat.le_refl _
    · exact Nat.le_add_right _ _
  exact (I1.fpOk hle (I1.hok.fresh hle))
theorem zipM_go {K : PySem.W.Frag} {a b : Addr} {xs ys : List V} {i : Nat} {H : Hp} (hl : xs.length = ys.length) (hx : SqT K H a xs) (hy : SqL K H b ys) (hi : i < xs.length) : (ItzM K a b).go i H :=
  ⟨xs, ys, _, _, hx, hy, List.getElem?_eq_getElem hi, List.getElem?_eq_getElem (by omega)⟩
theorem zipM_stop {K : PySem.W.Frag} {a b : Addr} {xs ys : List V} {H : Hp} (hl : xs.length = ys.length) (hx : SqT K H a xs) (hy : SqL K H b ys) : (ItzM K a b).stop xs.length H :=
  ⟨xs, ys, hx, hy, by omega⟩
theorem zipM_yld {K : PySem.W.Frag} {a b : Addr} {xs ys : List V} {i : Nat} {H : Hp} {v : V} {H' : Hp} (hx : SqT K H a xs) (hy : SqL K H b ys) (h : (ItzM K a b).yld i H v H') : ∃ T x y, v = .ref T ∧ H T = none ∧ H' = upd H T (.tup [x, y]) ∧ xs[i]? = some x ∧ ys[i]? = some y := by
  obtain ⟨T, x, y, e1, e2, e3, e4, e5⟩ := h
  exact ⟨T, x, y, e1, e2, e3, e4 _ hx, e5 _ hy⟩
/-- a loop over pairs, whatever gives them -/
theorem for_pairs {J : It} {xs ys : List V} {g : TG} {tb : TS} {D : Ends} {σ : L2.St} {H : Hp} (Pv : Nat → L2.St → Hp → Prop) (h0 : Pv 0 σ H) (go : ∀ i σ H, Pv i σ H → i < xs.length → J.go i H) (st : ∀ σ H, Pv xs.length σ H → J.stop xs.length H)
    (yl : ∀ i σ H v H', Pv i σ H → J.yld i H v H' → ∃ T x y, v = .ref T ∧ H T = none ∧ H' = upd H T (.tup [x, y]) ∧ xs[i]? = some x ∧ ys[i]? = some y)
    (hs : ∀ (i : Nat) (x y : V) (T : Addr) (σ : L2.St) (H : Hp), xs[i]? = some x → ys[i]? = some y → Pv i σ H → H T = none → g (.ref T) σ (upd H T (.tup [x, y])) fun σ2 H2 => tb { D with nx := Pv (i + 1), ct := Pv (i + 1), bk := D.nx } σ2 H2) (hd : ∀ σ H, Pv xs.length σ H → D.nx σ H) :
    ∃ W : Nat → Nat → L2.St → Hp → Prop, (∃ m, W 0 m σ H) ∧ ∀ i m σ H, W i m σ H →
      (J.stop i H ∧ D.nx σ H) ∨ (J.go i H ∧ ∃ N : L2.St → Hp → Prop, (∀ σ' H', N σ' H' → ∃ m', m' < m ∧ W (i + 1) m' σ' H') ∧ ∀ v H', J.yld i H v H' → g v σ H' fun σ2 H2 => tb { D with nx := N, ct := N, bk := D.nx } σ2 H2) := by
  refine ⟨fun i m σ H => m = xs.length - i ∧ i ≤ xs.length ∧ Pv i σ H,
    ⟨xs.length, by omega, Nat.zero_le _, h0⟩, fun i m σ H hW => ?_⟩
  obtain ⟨rfl, hi, hp⟩ := hW
  rcases Nat.lt_or_ge i xs.length with lt | ge
  · refine .inr ⟨go i σ H hp lt, Pv (i + 1), fun σ' H' z => ⟨xs.length - (i + 1), by omega, rfl, by omega, z⟩, fun v H' hv => ?_⟩
    obtain ⟨T, x, y, rfl, nT, rfl, hx, hy⟩ := yl i σ H v H' hp hv
    exact hs i x y T σ H hx hy hp nT
  · have e : i = xs.length := by omega
    subst e
    exact .inl ⟨st σ H hp, hd σ H hp⟩
/-- a comprehension over pairs, whatever gives them -/
theorem lc_pairs {J : It} {xs ys : List V} {g : TG} {tt : TT} {te : TE} {vs : List Nat} {σ : L2.St} {H1 : Hp} {D : Addr} {Qd : Hp → Prop} (Pv : Nat → Hp → Prop) (h0 : Pv 0 (upd H1 D (.lst []))) (go : ∀ i H, Pv i H → i < xs.length → J.go i H) (st : ∀ H, Pv xs.length H → J.stop xs.length H)
    (yl : ∀ i H v H', Pv i H → J.yld i H v H' → ∃ T x y, v = .ref T ∧ H T = none ∧ H' = upd H T (.tup [x, y]) ∧ xs[i]? = some x ∧ ys[i]? = some y)
    (hs : ∀ (i : Nat) (x y : V) (T : Addr) (H : Hp), xs[i]? = some x → ys[i]? = some y → Pv i H → H T = none → g (.ref T) (wipe σ vs) (upd H T (.tup [x, y])) fun σ2 H2 => wipe σ2 vs = wipe σ vs ∧ tt σ2 H2 fun b H3 =>
      if b = true then te σ2 H3 fun z H4 => ∃ acc, H4 D = some (.lst acc) ∧ acc.length < sizeLine ∧ Pv (i + 1) (upd H4 D (.lst (acc ++ [z]))) else Pv (i + 1) H3) (hd : ∀ H, Pv xs.length H → Qd H) :
    ∃ W : Nat → Nat → Hp → Prop, (∃ m, W 0 m (upd H1 D (.lst []))) ∧ ∀ i m H, W i m H →
      (J.stop i H ∧ Qd H) ∨ (J.go i H ∧ ∃ Nx : Hp → Prop, (∀ H', Nx H' → ∃ m', m' < m ∧ W (i + 1) m' H') ∧ ∀ x H', J.yld i H x H' → g x (wipe σ vs) H' fun σ2 H2 => wipe σ2 vs = wipe σ vs ∧ tt σ2 H2 fun b H3 =>
        if b = true then te σ2 H3 fun y H4 => ∃ acc, H4 D = some (.lst acc) ∧ acc.length < sizeLine ∧ Nx (upd H4 D (.lst (acc ++ [y]))) else Nx H3) := by
  refine ⟨fun i m H => m = xs.length - i ∧ i ≤ xs.length ∧ Pv i H,
    ⟨xs.length, by omega, Nat.zero_le _, h0⟩, fun i m H hW => ?_⟩
  obtain ⟨rfl, hi, hp⟩ := hW
  rcases Nat.lt_or_ge i xs.length with lt | ge
  · refine .inr ⟨go i H hp lt, Pv (i + 1), fun H' z => ⟨xs.length - (i + 1), by omega, rfl, by omega, z⟩, fun v H' hv => ?_⟩
    obtain ⟨T, x, y, rfl, nT, rfl, hx, hy⟩ := yl i H v H' hp hv
    exact hs i x y T H hx hy hp nT
  · have e : i = xs.length := by omega
    subst e
    exact .inl ⟨st H hp, hd H hp⟩

/-! ### tuple(zip(xs, ys)), two lists of one length -/
theorem zip_nolen : typeLookup (.type "zip") "__len__" = pure none := by rw [typeLookup_type, builtinLookup_eq_fast]; kernel_rfl
theorem zip_nohint : typeLookup (.type "zip") "__length_hint__" = pure none := by rw [typeLookup_type, builtinLookup_eq_fast]; kernel_rfl
/-- a zip on its way, what it told so far may be held -/
structure Zst (S z TI TO i1 i2 l1 l2 : Addr) (xs ys : Array Value) (i : Nat) (h : Heap) : Prop where
  ti : IsPair h TI (.ref i1) (.ref i2)
  a1 : h.IsListIter i1 l1 i
  a2 : h.IsListIter i2 l2 i
  b1 : h.IsList l1 xs
  b2 : h.IsList l2 ys
  zz : (IsZip h z TI TO .none ∧ ∃ a b, IsPair h TO a b) ∨ ∃ T f oT, IsZipHeld h z TI TO T f ∧ h.get? T = some oT ∧ T ≠ z ∧ T ≠ i1 ∧ T ≠ i2 ∧ T ≠ S
section
variable {P : Program} {w : World} {A : Around} {E : Value → Shared → Prop} {s : Shared} {S z TI TO i1 i2 l1 l2 : Addr} {xs ys : Array Value}
theorem Zst.keep {i : Nat} {h h' : Heap} (x : Zst S z TI TO i1 i2 l1 l2 xs ys i h) (d : S ∉ [z, TI, TO, i1, i2, l1, l2]) (k : ∀ b o, b ≠ S → h.get? b = some o → h'.get? b = some o) : Zst S z TI TO i1 i2 l1 l2 xs ys i h' := by
  simp only [List.mem_cons, List.not_mem_nil, or_false, not_or] at d
  obtain ⟨d1, d2, d3, d4, d5, d6, d7⟩ := d
  refine ⟨k _ _ (Ne.symm d2) x.ti, x.a1.at fun o e => k _ o (Ne.symm d4) e, x.a2.at fun o e => k _ o (Ne.symm d5) e, x.b1.at fun o e => k _ o (Ne.symm d6) e, x.b2.at fun o e => k _ o (Ne.symm d7) e, ?_⟩
  rcases x.zz with ⟨q, a, b, r⟩ | ⟨T, f, oT, q, r, n1, n2, n3, n4⟩
  · exact .inl ⟨k _ _ (Ne.symm d1) q, a, b, k _ _ (Ne.symm d3) r⟩
  · exact .inr ⟨T, f, oT, k _ _ (Ne.symm d1) q, k _ _ n4 r, n1, n2, n3, n4⟩
/-- one more pair -/
theorem zst_next {i : Nat} {x y : Value} {Q : Option Value → Shared → Prop} (D : ZipApart z TI TO i1 i2 l1 l2) (st : Zst S z TI TO i1 i2 l1 l2 xs ys i s.heap) (hS : S < s.heap.objs.size) (hx : xs[i]? = some x) (hy : ys[i]? = some y)
    (q : ∀ h', Zst S z TI TO i1 i2 l1 l2 xs ys (i + 1) h' → IsPair h' s.heap.objs.size x y → h'.objs.size = s.heap.objs.size + 1 → (∀ b o, b ∉ [z, TO, i1, i2] → s.heap.get? b = some o → h'.get? b = some o) → Q (some (.ref s.heap.objs.size)) { s with heap := h' }) :
    wpAny (model P w) A (pyNext (.ref z)) Q E s := by
  have far : ∀ {c : Addr} {o : Obj}, s.heap.get? c = some o → s.heap.objs.size ≠ c := fun e => Nat.ne_of_gt (Heap.lt_size e)
  have f1 : s.heap.objs.size ≠ i1 := let ⟨_, e, _⟩ := st.a1; far e
  have f2 : s.heap.objs.size ≠ i2 := let ⟨_, e, _⟩ := st.a2; far e
  rcases st.zz with ⟨hz, a, b, hTO⟩ | ⟨T, f, oT, hz, hT, n1, n2, n3, n4⟩
  · refine wpAny_pyNext_zip_item D hz st.ti hTO st.a1 st.a2 st.b1 st.b2 hx hy fun h' c1 c2 c3 c4 c5 c6 k => q h' ⟨k _ _ D.TIz D.TITO D.TIi1 D.TIi2 st.ti, c3, c4, st.b1.at fun o e => k _ o D.l1z D.l1TO D.l1i1 D.l1i2 e, st.b2.at fun o e => k _ o D.l2z D.l2TO D.l2i1 D.l2i2 e,
      .inr ⟨_, false, _, c1, c5, far hz, f1, f2, Nat.ne_of_gt hS⟩⟩ c5 c6 fun b o nb e => ?_
    simp only [List.mem_cons, List.not_mem_nil, or_false, not_or] at nb
    exact k b o nb.1 nb.2.1 nb.2.2.1 nb.2.2.2 e
  · refine wpAny_pyNext_zip_item_held D hz hT st.ti st.a1 st.a2 st.b1 st.b2 hx hy fun h' c1 c3 c4 c5 c6 k => q h' ⟨k _ _ D.TIz D.TIi1 D.TIi2 st.ti, c3, c4, st.b1.at fun o e => k _ o D.l1z D.l1i1 D.l1i2 e, st.b2.at fun o e => k _ o D.l2z D.l2i1 D.l2i2 e,
      .inr ⟨T, true, oT, c1, k _ _ n1 n2 n3 hT, n1, n2, n3, n4⟩⟩ c5 c6 fun b o nb e => ?_
    simp only [List.mem_cons, List.not_mem_nil, or_false, not_or] at nb
    exact k b o nb.1 nb.2.2.1 nb.2.2.2 e
theorem zst_end {Q : Option Value → Shared → Prop} (hh : A.handled = none) (D : ZipApart z TI TO i1 i2 l1 l2) (st : Zst S z TI TO i1 i2 l1 l2 xs ys xs.size s.heap)
    (q : ∀ h', (∀ b o, b ∉ [z, TO, i1, i2] → s.heap.get? b = some o → h'.get? b = some o) → Q none { s with heap := h' }) : wpAny (model P w) A (pyNext (.ref z)) Q E s := by
  have e : xs[xs.size]? = none ∨ ys[xs.size]? = none := .inl (Array.getElem?_eq_none (Nat.le_refl _))
  rcases st.zz with ⟨hz, a, b, hTO⟩ | ⟨T, f, oT, hz, hT, _⟩
  · refine wpAny_pyNext_zip_end hh D hz st.ti hTO st.a1 st.a2 st.b1 st.b2 e fun h' k => q h' fun b o nb e => ?_
    simp only [List.mem_cons, List.not_mem_nil, or_false, not_or] at nb
    exact k b o nb.1 nb.2.1 nb.2.2.1 nb.2.2.2 e
  · refine wpAny_pyNext_zip_end_held hh D hz hT st.ti st.a1 st.a2 st.b1 st.b2 e fun h' k => q h' fun b o nb e => ?_
    simp only [List.mem_cons, List.not_mem_nil, or_false, not_or] at nb
    exact k b o nb.1 nb.2.2.1 nb.2.2.2 e
/-- what lies there, pair by pair -/
def Lain (xs ys : Array Value) (ts : List Addr) (h : Heap) : Prop := ∀ (j : Nat) (T : Addr) (x y : Value), ts[j]? = some T → xs[j]? = some x → ys[j]? = some y → IsPair h T x y
theorem ext_zip {R : Result → Shared → Prop} (res : Value) (hh : A.handled = none) (D : ZipApart z TI TO i1 i2 l1 l2) (dS : S ∉ [z, TI, TO, i1, i2, l1, l2]) (le : xs.size = ys.size) (hn : xs.size ≤ sizeLine) (b0 : Nat) (hb0 : ∀ b ∈ [z, TO, i1, i2, S], b < b0) :
    ∀ (k i : Nat) (s : Shared) (ts : List Addr) (c : Nat), i + k = xs.size → Zst S z TI TO i1 i2 l1 l2 xs ys i s.heap → s.heap.get? S = some { cls := .type "list", dict := none, data := .seq (ts.map Value.ref).toArray c, slots := #[] } →
    ts.length = i → ts.Pairwise (· < ·) → (∀ T ∈ ts, b0 ≤ T ∧ T < s.heap.objs.size) → b0 ≤ s.heap.objs.size → Lain xs ys ts s.heap →
    (∀ (h' : Heap) (ts' : List Addr) (c' : Nat), (∀ b o, b ∉ [z, TO, i1, i2, S] → s.heap.get? b = some o → h'.get? b = some o) → h'.get? S = some { cls := .type "list", dict := none, data := .seq (ts'.map Value.ref).toArray c', slots := #[] } →
      ts'.length = xs.size → ts'.Pairwise (· < ·) → (∀ T ∈ ts', b0 ≤ T) → Lain xs ys ts' h' → R (.ok (.ret res)) { s with heap := h' }) →
    codeAny (model P w) A (.builtin "list.extend.loop" ⟨[.ref S, .ref z, res], []⟩) R s := by
  have sub : ∀ {b : Addr}, b ∉ [z, TO, i1, i2, S] → b ∉ [z, TO, i1, i2] := fun h m => h (by
    simp only [List.mem_cons, List.not_mem_nil, or_false] at m ⊢
    rcases m with e | e | e | e <;> simp [e])
  have notS : S ∉ [z, TO, i1, i2] := fun m => dS (by
    simp only [List.mem_cons, List.not_mem_nil, or_false] at m ⊢
    rcases m with e | e | e | e <;> simp [e])
  have offT : ∀ {T : Addr}, b0 ≤ T → T ∉ [z, TO, i1, i2, S] := fun h m => absurd (hb0 _ m) (Nat.not_lt.mpr h)
  intro k
  induction k with
  | zero =>
    intro i s ts c hk st gS hl hp hT hb la R'
    have e : i = xs.size := by omega
    subst e
    refine codeAny_builtin F.entry_extend_loop ?_
    rw [Around.under_plainId F.plain_extend_loop _]
    show wpAny _ A.in1 (pyNext (.ref z) >>= _) _ _ s
    refine wpAny_bind (zst_end (by simp [hh]) D st fun h' kp => wpAny_pure (R' h' ts c (fun b o nb e => kp b o (sub nb) e) (kp _ _ notS gS) hl hp (fun T m => (hT T m).1) fun j T x y e1 e2 e3 => kp _ _ (sub (offT (hT T (List.mem_of_getElem? e1)).1)) (la j T x y e1 e2 e3)))
  | succ k ih =>
    intro i s ts c hk st gS hl hp hT hb la R'
    have i1' : i < xs.size := by omega
    have i2' : i < ys.size := by omega
    refine codeAny_builtin F.entry_extend_loop ?_
    rw [Around.under_plainId F.plain_extend_loop _]
    show wpAny _ A.in1 (pyNext (.ref z) >>= _) _ _ s
    refine wpAny_bind (zst_next D st (Heap.lt_size gS) (Array.getElem?_eq_getElem i1') (Array.getElem?_eq_getElem i2') fun h' st' pr sz kp => ?_)
    have gS' := kp _ _ notS gS
    have oth : ∀ b o, b ≠ S → h'.get? b = some o → (h'.update S (Obj.mapSeq (·.push (.ref s.heap.objs.size)))).get? b = some o := fun b o nb e => (Heap.get?_update_other _ _ (Ne.symm nb)).trans e
    have eq : ((ts ++ [s.heap.objs.size]).map Value.ref).toArray = (ts.map Value.ref).toArray.push (.ref s.heap.objs.size) := by simp
    have neS : ∀ {T : Addr}, b0 ≤ T → T ≠ S := fun h e => offT h (by simp [e])
    show wpAny _ A.in1 (updateSeq S (·.push (.ref s.heap.objs.size)) >>= _) _ _ _
    refine wpAny_bind (wpAny_updateSeq gS' rfl (wpAny_pure ⟨plainId_quiet F.plain_extend_loop _, ih (i + 1) _ (ts ++ [s.heap.objs.size]) _ (by omega) (st'.keep dS oth) (by rw [eq]; exact Heap.get?_update_self _ gS' rfl) (by rw [List.length_append, hl]; rfl)
      (List.pairwise_append.mpr ⟨hp, List.pairwise_singleton _ _, fun a ha b hb => by rw [List.mem_singleton.mp hb]; exact (hT a ha).2⟩) ?_ ?_ ?_ ?_⟩) (by simp [hl]; omega) (by simp [hl]; omega))
    · intro T m
      show b0 ≤ T ∧ T < (h'.update S _).objs.size
      rw [Heap.size_update, sz]
      rcases List.mem_append.mp m with m | m
      · exact ⟨(hT T m).1, Nat.lt_succ_of_lt (hT T m).2⟩
      · rw [List.mem_singleton.mp m]
        exact ⟨hb, Nat.lt_succ_self _⟩
    · show b0 ≤ (h'.update S _).objs.size
      rw [Heap.size_update, sz]
      exact Nat.le_succ_of_le hb
    · intro j T x y e1 e2 e3
      rcases Nat.lt_or_ge j ts.length with lt | ge
      · rw [List.getElem?_append_left lt] at e1
        have bT := (hT T (List.mem_of_getElem? e1)).1
        exact oth _ _ (neS bT) (kp _ _ (sub (offT bT)) (la j T x y e1 e2 e3))
      · rw [List.getElem?_append_right ge] at e1
        have ej : j = i := by
          rcases Nat.lt_or_ge (j - ts.length) 1 with z | z
          · omega
          · rw [List.getElem?_eq_none (by simpa using z)] at e1
            cases e1
        subst ej
        rw [hl, Nat.sub_self] at e1
        have eT : s.heap.objs.size = T := by simpa using e1
        rw [Array.getElem?_eq_getElem i1'] at e2
        rw [Array.getElem?_eq_getElem i2'] at e3
        cases e2
        cases e3
        subst eT
        exact oth _ _ (neS hb) pr
    · intro h2 ts' c' k2 g2 l2' p2 t2 la2
      exact R' h2 ts' c' (fun b o nb e => k2 b o nb (oth b o (fun e => nb (by simp [e])) (kp b o (sub nb) e))) g2 l2' p2 t2 la2
end

section
variable {P : Program} {w : World} {A : Around} {E : Value → Shared → Prop} {s : Shared} {z TI TO i1 i2 l1 l2 : Addr} {xs ys : Array Value}
theorem collect_zip {Q : List Value → Shared → Prop} (hh : A.handled = none) (D : ZipApart z TI TO i1 i2 l1 l2) (st : Zst s.heap.objs.size z TI TO i1 i2 l1 l2 xs ys 0 s.heap) (hz : IsZip s.heap z TI TO .none) (le : xs.size = ys.size) (hn : xs.size ≤ sizeLine) (hf : ∀ b ∈ [z, TI, TO, i1, i2, l1, l2], b < s.heap.objs.size)
    (q : ∀ (h' : Heap) (ts : List Addr), (∀ b o, b ∉ [z, TO, i1, i2] → s.heap.get? b = some o → h'.get? b = some o) → ts.length = xs.size → ts.Pairwise (· < ·) → (∀ T ∈ ts, s.heap.objs.size ≤ T) → Lain xs ys ts h' → s.heap.objs.size ≤ h'.objs.size → Q (ts.map Value.ref) { s with heap := h' }) :
    wpAny (model P w) A (collect (.ref z)) Q E s := by
  have dS : s.heap.objs.size ∉ [z, TI, TO, i1, i2, l1, l2] := fun m => Nat.lt_irrefl _ (hf _ m)
  have nz : s.heap.objs.size ≠ z := fun e => dS (by simp [e])
  unfold collect
  refine wpAny_bind (wpAny_runValue (codeAny_builtin F.entry_proto_collect ?_))
  rw [Around.under_plainId F.plain_proto_collect _]
  show wpAny _ A.in1 (newList [] >>= fun l' => again (.builtin "list.__iadd__" ⟨[l', .ref z], []⟩)) _ _ s
  refine wpAny_bind (wpAny_newObj_type (wpAny_pure ⟨plainId_quiet F.plain_list_iadd _, codeAny_builtin F.entry_list_iadd ?_⟩))
  rw [Around.under_plainId F.plain_list_iadd _]
  have gS : (s.heap.push { cls := .type "list", data := .seq ([] : List Value).toArray }).get? s.heap.objs.size = some { cls := .type "list", data := .seq ([] : List Value).toArray } := Heap.get?_push_size _ rfl
  have kp0 : ∀ b o, s.heap.get? b = some o → (s.heap.push { cls := .type "list", data := .seq ([] : List Value).toArray }).get? b = some o := fun b o e => Heap.get?_push_of_some _ e
  have sz0 : (s.heap.push { cls := .type "list", data := .seq ([] : List Value).toArray }).objs.size = s.heap.objs.size + 1 := Heap.size_push ..
  generalize s.heap.push { cls := .type "list", data := .seq ([] : List Value).toArray } = h0 at gS kp0 sz0 ⊢
  have ty : Shared.TypeIs { s with heap := h0 } (.ref z) "zip" := ⟨_, kp0 _ _ hz, rfl⟩
  have f1 : Builtin.List.listSameRef (.ref s.heap.objs.size) (.ref z) = false := by simp [Builtin.List.listSameRef, nz]
  have f2 : (Value.type "zip" == Value.type "list") = false := by decide
  have f3 : (Value.type "zip" == Value.type "tuple") = false := by decide
  show wpAny _ A.in1 (Builtin.List.listExtendWith (.ref s.heap.objs.size) (.ref z) (.ref s.heap.objs.size)) _ _ _
  unfold Builtin.List.listExtendWith
  refine wpAny_bind (wpAny_typeOf ty ?_)
  simp only [f1, f2, f3, Bool.or_false, Bool.false_eq_true, if_false]
  refine wpAny_bind (wpAny_pyIter_zip (s := { s with heap := h0 }) (kp0 _ _ hz) (wpAny_bind (wpAny_holding ?_)))
  unfold Builtin.List.listLengthHint
  refine wpAny_bind (wpAny_specialOf ty zip_nolen ?_)
  show wpAny _ A.in1 (specialOf (Value.ref z) (Str.ofString "__length_hint__") >>= _) _ _ _
  refine wpAny_bind (wpAny_specialOf ty zip_nohint (wpAny_pure ?_))
  show wpAny _ A.in1 (rule "list.extend.makes-room" >>= fun _ => Builtin.List.listTouch (.ref s.heap.objs.size) >>= fun _ =>
    again (.builtin "list.extend.loop" ⟨[.ref s.heap.objs.size, .ref z, .ref s.heap.objs.size], []⟩)) _ _ _
  refine wpAny_bind (wpAny_rule (wpAny_bind ?_))
  show wpAny _ A.in1 (updateSeq s.heap.objs.size (·.push .none) >>= fun _ => updateSeq s.heap.objs.size (·.pop)) _ _ _
  refine wpAny_bind (wpAny_updateSeq gS rfl ?_)
  have g1 := Heap.get?_update_self (Obj.mapSeq (·.push Value.none)) gS rfl
  refine wpAny_updateSeq g1 rfl ?_
  have g2 := Heap.get?_update_self (Obj.mapSeq (·.pop)) g1 rfl
  have k2 : ∀ b o, b ≠ s.heap.objs.size → h0.get? b = some o → ((h0.update s.heap.objs.size (Obj.mapSeq (·.push Value.none))).update s.heap.objs.size (Obj.mapSeq (·.pop))).get? b = some o :=
    fun b o nb e => (Heap.get?_update_other _ _ (Ne.symm nb)).trans ((Heap.get?_update_other _ _ (Ne.symm nb)).trans e)
  have sz2 : ((h0.update s.heap.objs.size (Obj.mapSeq (·.push Value.none))).update s.heap.objs.size (Obj.mapSeq (·.pop))).objs.size = s.heap.objs.size + 1 := by rw [Heap.size_update, Heap.size_update, sz0]
  refine wpAny_pure ⟨plainId_quiet F.plain_extend_loop _, ext_zip (S := s.heap.objs.size) (.ref s.heap.objs.size) (by simp [hh]) D dS le hn (s.heap.objs.size + 1) (fun b hb => ?_) xs.size 0 _ [] _ (Nat.zero_add _) (st.keep dS fun b o nb e => k2 b o nb (kp0 b o e)) g2 rfl .nil (fun T m => by cases m) (by rw [sz2]; exact Nat.le_refl _) (fun j T x y e => by cases e) fun h' ts c kp gS' lt pt bt la => ?_⟩
  · rcases List.mem_cons.mp hb with e | hb
    · exact Nat.lt_succ_of_lt (hf b (by simp [e]))
    simp only [List.mem_cons, List.not_mem_nil, or_false] at hb
    rcases hb with e | e | e | e
    · exact Nat.lt_succ_of_lt (hf b (by simp [e]))
    · exact Nat.lt_succ_of_lt (hf b (by simp [e]))
    · exact Nat.lt_succ_of_lt (hf b (by simp [e]))
    · rw [e]
      exact Nat.lt_succ_self _
  · show wpAny _ A (load s.heap.objs.size >>= _) _ _ _
    refine wpAny_bind (wpAny_load gS' (wpAny_pure ?_))
    have el : (ts.map Value.ref).toArray.toList = ts.map Value.ref := by simp
    show Q (ts.map Value.ref).toArray.toList _
    rw [el]
    refine q h' ts (fun b o nb e => kp b o (fun m => ?_) (k2 b o (Nat.ne_of_lt (Heap.lt_size e)) (kp0 b o e))) lt pt (fun T m => Nat.le_of_succ_le (bt T m)) la (Nat.le_of_lt (Heap.lt_size gS'))
    simp only [List.mem_cons, List.not_mem_nil, or_false] at m nb
    rcases m with e' | e' | e' | e' | e'
    · exact nb (.inl e')
    · exact nb (.inr (.inl e'))
    · exact nb (.inr (.inr (.inl e')))
    · exact nb (.inr (.inr (.inr e')))
    · rw [e'] at e
      exact absurd (Heap.lt_size e) (Nat.lt_irrefl _)
theorem tuple_zip {Q : Value → Shared → Prop} (hh : A.handled = none) (D : ZipApart z TI TO i1 i2 l1 l2) (st : Zst s.heap.objs.size z TI TO i1 i2 l1 l2 xs ys 0 s.heap) (hz : IsZip s.heap z TI TO .none) (le : xs.size = ys.size) (hn : xs.size ≤ sizeLine) (hf : ∀ b ∈ [z, TI, TO, i1, i2, l1, l2], b < s.heap.objs.size)
    (q : ∀ (h' : Heap) (ts : List Addr) (p : Addr), (∀ b o, b ∉ [z, TO, i1, i2] → s.heap.get? b = some o → h'.get? b = some o) → ts.length = xs.size → ts.Pairwise (· < ·) → (∀ T ∈ ts, s.heap.objs.size ≤ T ∧ T ≠ p) → Lain xs ys ts h' →
      s.heap.objs.size ≤ p → h'.get? p = some { cls := .type "tuple", data := .seq (ts.map Value.ref).toArray } → Q (.ref p) { s with heap := h' }) :
    wpAny (model P w) A (call (.type "tuple") [.ref z]) Q E s := by
  refine callType_codes (Q₁ := fun o t => t.TypeIs o "tuple" ∧ Q o t) F.called_tuple (F.typeCall_tuple_1 _) F.entry_object_init (codeAny_of_tree ?_) fun o t h => ⟨h.1, F.args_object_init_2 o _, object_init_meets F.called_tuple.init.lookup F.called_tuple.made (by decide) P w A.in1 _ t ⟨h.1, rfl, h.2⟩⟩
  show wpAny _ A.in1.in1 (do checkBuiltinCall "tuple.__new__" ⟨[.type "tuple", .ref z], []⟩; again (.builtin "tuple.__new__" ⟨[.type "tuple", .ref z], []⟩)) _ _ s
  refine wpAny_bind (wpAny_of_eq (F.newCall_tuple_1 _) (wpAny_pure ⟨plainId_quiet F.plain_tuple_new _, codeAny_builtin F.entry_tuple_new ?_⟩))
  rw [Around.under_plainId F.plain_tuple_new _]
  have u1 := sub_tuple_self
  have u2 := init_tuple_lookup
  have u3 := madeHere_tuple
  have ty : s.TypeIs (.ref z) "zip" := ⟨_, hz, rfl⟩
  have h3 : A.in1.in1.handled = none := by simp [hh]
  wp_walk using wpAny_typeOf ty, collect_zip (A := A.in1.in1) h3 D st hz le hn hf
  intro h' ts kp lt pt bt la ge
  show wpAny _ _ (Builtin.Tuple.tupleExact (ts.map Value.ref).toArray >>= fun v => ret v) _ _ _
  unfold Builtin.Tuple.tupleExact
  refine wpAny_bind (wpAny_newObj_type (wpAny_pure ?_) (by show (ts.map Value.ref).toArray.size ≤ sizeLine; rw [List.size_toArray, List.length_map, lt]; exact hn))
  have off : ∀ T ∈ ts, T ≠ h'.objs.size := fun T m => by
    obtain ⟨j, hj, e⟩ := List.getElem_of_mem m
    exact Nat.ne_of_lt (Heap.lt_size (la j T _ _ (by rw [List.getElem?_eq_getElem hj, e]) (Array.getElem?_eq_getElem (show j < xs.size by omega)) (Array.getElem?_eq_getElem (show j < ys.size by omega))))
  exact ⟨⟨_, Heap.get?_push_size _ rfl, rfl⟩, q _ ts _ (fun b o nb e => Heap.get?_push_of_some _ (kp b o nb e)) lt pt (fun T m => ⟨bt T m, off T m⟩) (fun j T x y e1 e2 e3 => Heap.get?_push_of_some _ (la j T x y e1 e2 e3)) ge (Heap.get?_push_size _ rfl)⟩
end
/-! ### many tuples laid at once -/
def lay2 (H : Hp) : List Addr → List V → List V → Hp
  | t :: ts, u :: us, v :: vs => upd (lay2 H ts us vs) t (.tup [u, v])
  | _, _, _ => H
theorem lay2_at {H : Hp} : ∀ {ts : List Addr} {us vs : List V}, ts.Pairwise (· < ·) → ∀ (j : Nat) (T : Addr) (u v : V), ts[j]? = some T → us[j]? = some u → vs[j]? = some v → lay2 H ts us vs T = some (.tup [u, v])
  | [], _, _, _, j, T, u, v, e, _, _ => by cases e
  | t :: ts, [], _, _, j, T, u, v, _, e, _ => by cases e
  | t :: ts, _ :: _, [], _, j, T, u, v, _, _, e => by cases e
  | t :: ts, u0 :: us, v0 :: vs, p, 0, T, u, v, e1, e2, e3 => by
    cases e1
    cases e2
    cases e3
    exact upd_same
  | t :: ts, u0 :: us, v0 :: vs, p, j + 1, T, u, v, e1, e2, e3 => by
    have ⟨p1, p2⟩ := List.pairwise_cons.mp p
    have lt := p1 T (List.mem_of_getElem? e1)
    show upd (lay2 H ts us vs) t (.tup [u0, v0]) T = _
    rw [upd_ne (Nat.ne_of_gt lt)]
    exact lay2_at p2 j T u v e1 e2 e3
theorem lay2_old {H : Hp} {b : Addr} : ∀ {ts : List Addr} {us vs : List V}, b ∉ ts → lay2 H ts us vs b = H b
  | [], _, _, _ => rfl
  | t :: ts, [], _, _ => rfl
  | t :: ts, _ :: _, [], _ => rfl
  | t :: ts, u0 :: us, v0 :: vs, n => by
    show upd (lay2 H ts us vs) t (.tup [u0, v0]) b = _
    rw [upd_ne fun e => n (by simp [e])]
    exact lay2_old fun m => n (List.mem_cons_of_mem _ m)
theorem inv_many {X : Cx} {pins : List (Addr × Obj)} {σ : L2.St} {H H' : Hp} {s : Shared} {h' : Heap} {t' : Nat} (I : Inv X pins σ H s) (k : ∀ b u, s.heap.get? b = some u → h'.get? b = some u) (ext : ∀ b o, H b = some o → H' b = some o)
    (new : ∀ b o, H' b = some o → H b = some o ∨ (s.heap.objs.size ≤ b ∧ ObjOk X.prog X.w H' h' b o)) : Inv X pins σ H' { s with heap := h', toks := t' } := by
  refine L2.Inv.un I ⟨fun b u q _ _ _ => k b u q, fun b u q _ _ _ => ⟨u.slots, k b u q⟩, fun b u q n _ => ?_, fun b u q _ => ⟨u, k b u q⟩, fun b xs q => ext _ _ q, fun b u xs q => ext _ _ q, fun b ps q => ⟨#[], by rw [ext _ _ q]; simp⟩⟩ fun b o e => ?_
  · cases e : H' b with
    | none => rfl
    | some o =>
      rcases new b o e with z | ⟨z, _⟩
      · rw [n] at z
        cases z
      · exact absurd (Heap.lt_size q) (Nat.not_lt.mpr z)
  · rcases new b o e with z | ⟨_, z⟩
    · exact (I.hok b o z).stay (fun c u _ q => k c u q) (fun c q => ext _ _ q) fun c xs q => ext _ _ q
    · exact z
theorem apart5 {n l1 l2 : Nat} (p1 : l1 < n) (p2 : l2 < n) : ZipApart (n + 4) (n + 2) (n + 3) n (n + 1) l1 l2 := by
  constructor <;> first | exact Nat.ne_of_lt (by omega) | exact Nat.ne_of_gt (by omega)
/-- tuple(zip(xs, ys)) -/
def tTupZip (K : PySem.W.Frag) (t : TA) : TE := fun σ H Q => t σ H fun vs H1 => ∃ (l1 l2 : Addr) (us ws : List V), vs = [.ref l1, .ref l2] ∧ SqL K H1 l1 us ∧ SqL K H1 l2 ws ∧ us.length = ws.length ∧
  ∀ (H' : Hp) (p : Addr) (ts : List Addr), Same H1 H' → H1 p = none → H' p = some (.tup (ts.map V.ref)) → ts.length = us.length → (∀ (j : Nat) (T : Addr) (u v : V), ts[j]? = some T → us[j]? = some u → ws[j]? = some v → H' T = some (.tup [u, v])) → Q (.ref p) H'
theorem vals_refs : ∀ ts : List Addr, Vals (ts.map V.ref) (ts.map Value.ref)
  | [] => .nil
  | t :: ts => .cons rfl (vals_refs ts)
theorem pe_tupZip {X : Cx} {a b : Expr} {t : TA} {p p2 q pos : Pos} (hc : X.calm = true) (hg : Gl X "tuple") (hm : X.mg "tuple" = none) (hg2 : Gl X "zip") (hm2 : X.mg "zip" = none) (hab : PA X [a, b] t)
    (he : starEach [a, b] X.env = (false, eval a X.env) :: starEach [b] X.env := by rfl) (hpl : (backTo q (starEach [b] X.env)).any (·.1) = false := by rfl) :
    PE X (.Call (.Name "tuple" p) [.Call (.Name "zip" p2) [a, b] [] q] [] pos) (tTupZip X.K t) := by
  refine ⟨fun pins s σ H Q I h => ?_⟩
  refine wpAny_Call_Name_kw (ld_blt I hg hm (by decide +kernel) (PyProof.Rows.callWith_type1 (T := "tuple") (PyProof.Rows.args_cons ?_ rfl) rfl rfl))
  refine wpAny_Call_Name_kw (ld_blt I hg2 hm2 (by decide +kernel) (PyProof.Rows.callWith_type1 (T := "zip") (thn (hab.run q pins s σ H _ I h) fun us' s1 ⟨vs, H1, I1, r1, q1⟩ => ?_) he hpl))
  obtain ⟨l1, l2, us, ws, rfl, h1, h2, le, fin⟩ := q1
  obtain ⟨xs, rx, gx, zx⟩ := I1.list h1
  obtain ⟨ys, ry, gy, zy⟩ := I1.list h2
  cases r1 with | cons ra rt =>
  cases rt with | cons rb rn =>
  cases rn
  cases ra
  cases rb
  have lx : xs.toArray.size = us.length := by rw [List.size_toArray, rx.length]
  have ly : ys.toArray.size = ws.length := by rw [List.size_toArray, ry.length]
  have p1 : l1 < s1.heap.objs.size := by
    obtain ⟨o, e, _⟩ := gx.isList
    exact Heap.lt_size e
  have p2 : l2 < s1.heap.objs.size := by
    obtain ⟨o, e, _⟩ := gy.isList
    exact Heap.lt_size e
  refine call_zip_2 gx.isList gy.isList fun h' c1 c2 c3 c4 c5 c6 k => PyProof.Rows.args_nil ?_
  refine tuple_zip (s := { s1 with heap := h' }) (xs := xs.toArray) (ys := ys.toArray) (I1.ok.hd hc) ?_ ⟨c2, c4, c5, gx.isList.at fun o e => k _ o e, gy.isList.at fun o e => k _ o e, .inl ⟨c1, _, _, c3⟩⟩ c1 (by rw [lx, ly, le]) (by rw [lx]; exact zx) (fun b hb => ?_) fun h2 ts p kp lt pt bt la pp gp => ?_
  · exact apart5 p1 p2
  · show b < h'.objs.size
    rw [c6]
    simp only [List.mem_cons, List.not_mem_nil, or_false] at hb
    have w1 : l1 < s1.heap.objs.size + 5 := Nat.lt_add_right 5 p1
    have w2 : l2 < s1.heap.objs.size + 5 := Nat.lt_add_right 5 p2
    rcases hb with e | e | e | e | e | e | e <;> rw [e] <;> first | exact w1 | exact w2 | exact Nat.lt_succ_of_le (by omega)
  · have sz : s1.heap.objs.size ≤ h'.objs.size := by omega
    have pp' : h'.objs.size ≤ p := pp
    have keep : ∀ b u, s1.heap.get? b = some u → h2.get? b = some u := fun b u e => by
      refine kp b u (fun m => ?_) (k b u e)
      simp only [List.mem_cons, List.not_mem_nil, or_false] at m
      rcases m with e' | e' | e' | e' <;> exact absurd (Heap.lt_size e) (by rw [e']; exact Nat.not_lt.mpr (by omega))
    have off : ∀ b o, H1 b = some o → b ∉ ts ∧ b ≠ p := fun b o e => by
      exact ⟨fun m => absurd (Nat.lt_of_lt_of_le (I1.hok.lt e) (Nat.le_trans sz (bt b m).1)) (Nat.lt_irrefl _), Nat.ne_of_lt (Nat.lt_of_lt_of_le (I1.hok.lt e) (Nat.le_trans sz pp'))⟩
    have np : p ∉ ts := fun m => (bt p m).2 rfl
    have ext : ∀ b o, H1 b = some o → upd (lay2 H1 ts us ws) p (.tup (ts.map V.ref)) b = some o := fun b o e => by
      rw [upd_ne (off b o e).2, lay2_old (off b o e).1]
      exact e
    have at' : ∀ (j : Nat) (T : Addr) (u v : V), ts[j]? = some T → us[j]? = some u → ws[j]? = some v → upd (lay2 H1 ts us ws) p (.tup (ts.map V.ref)) T = some (.tup [u, v]) := fun j T u v e1 e2 e3 => by
      rw [upd_ne fun e => np (by rw [← e]; exact List.mem_of_getElem? e1)]
      exact lay2_at pt j T u v e1 e2 e3
    refine have J : L2.Inv X pins σ (upd (lay2 H1 ts us ws) p (.tup (ts.map V.ref))) { s1 with heap := h2, toks := s1.toks } := inv_many (s := s1) I1 keep ext fun b o e => ?_; ⟨.ref p, upd (lay2 H1 ts us ws) p (.tup (ts.map V.ref)), J, rfl, fin _ p ts ext (I1.hok.fresh (Nat.le_trans sz pp')) upd_same (lt.trans lx) at'⟩
    by_cases eb : b = p
    · subst eb
      rw [upd_same] at e
      cases e
      refine .inr ⟨Nat.le_trans sz pp', by rw [List.length_map, lt, lx]; exact zx, _, vals_refs ts, _, gp, rfl, _, rfl⟩
    · by_cases mb : b ∈ ts
      · obtain ⟨j, hj, ej⟩ := List.getElem_of_mem mb
        have e1 : ts[j]? = some b := by rw [List.getElem?_eq_getElem hj, ej]
        have j1 : j < us.length := by omega
        have j2 : j < ws.length := by omega
        have e' := at' j b _ _ e1 (List.getElem?_eq_getElem j1) (List.getElem?_eq_getElem j2)
        rw [e] at e'
        cases e'
        obtain ⟨x, hx, rx'⟩ := rx.get (List.getElem?_eq_getElem j1)
        obtain ⟨y, hy, ry'⟩ := ry.get (List.getElem?_eq_getElem j2)
        refine .inr ⟨Nat.le_trans sz (bt b mb).1, (by show 2 ≤ sizeLine; decide), [x, y], .cons rx' (.cons ry' .nil), _, la j b x y e1 (by simpa using hx) (by simpa using hy), rfl, _, rfl⟩
      · rw [upd_ne eb, lay2_old mb] at e
        exact .inl e

/-! ### holds shared out anew -/
def hds (rs : List RW) : List Int := rs.map (·.2)
theorem hds_len (rs : List RW) : (hds rs).length = rs.length := List.length_map ..
def wh (rs : List RW) (hs : List Int) : List RW := List.zipWith (fun r h => (r.1, h)) rs hs
theorem wh_len {rs : List RW} {hs : List Int} (h : hs.length = rs.length) : (wh rs hs).length = rs.length := by
  unfold wh
  rw [List.length_zipWith, h, Nat.min_self]
theorem wh_at {rs : List RW} {hs : List Int} {i : Nat} {r : RW} {h : Int} (h1 : rs[i]? = some r) (h2 : hs[i]? = some h) : (wh rs hs)[i]? = some (r.1, h) := by
  unfold wh
  rw [List.getElem?_zipWith, h1, h2]
theorem hds_wh : ∀ {rs : List RW} {hs : List Int}, hs.length = rs.length → hds (wh rs hs) = hs
  | [], [], _ => rfl
  | [], _ :: _, h => by cases h
  | _ :: _, [], h => by cases h
  | r :: rs, h :: hs, e => by
    show h :: hds (wh rs hs) = _
    rw [hds_wh (by simpa using e)]
def evs (k : Nat) (m : Int) : List Int := (List.range k).map fun (a : Nat) => (m - (a : Int) + (k : Int) - 1) / (k : Int)
theorem evs_len (k : Nat) (m : Int) : (evs k m).length = k := by
  unfold evs
  rw [List.length_map, List.length_range]
theorem evs_at {k i : Nat} {m : Int} (h : i < k) : (evs k m)[i]? = some ((m - (i : Int) + (k : Int) - 1) / (k : Int)) := by
  unfold evs
  rw [List.getElem?_map, List.getElem?_range h]
  rfl
def ps (ns : List Int) (i : Nat) : Int := (ns.take i).sum
theorem ps_zero (ns : List Int) : ps ns 0 = 0 := rfl
theorem ps_succ {ns : List Int} {i : Nat} {n : Int} (h : ns[i]? = some n) : ps ns (i + 1) = ps ns i + n := by
  unfold ps
  rw [List.take_add_one, h, List.sum_append]
  show _ + (n + 0) = _
  omega
def scf (ns : List Int) (L m : Int) (i : Nat) : Int := ps ns (i + 1) * m / L - ps ns i * m / L
def scl (ns : List Int) (L m : Int) : List Int := (List.range ns.length).map (scf ns L m)
theorem scl_len (ns : List Int) (L m : Int) : (scl ns L m).length = ns.length := by
  unfold scl
  rw [List.length_map, List.length_range]
theorem scl_at {ns : List Int} {L m : Int} {i : Nat} (h : i < ns.length) : (scl ns L m)[i]? = some (scf ns L m i) := by
  unfold scl
  rw [List.getElem?_map, List.getElem?_range h]
  rfl
theorem map_succ (f : Nat → Int) (i : Nat) : (List.range (i + 1)).map f = (List.range i).map f ++ [f i] := by
  rw [List.range_succ, List.map_append]
  rfl
/-- what comes of holds -/
inductive TO | en | sq | mn (m : Int) | ok (hs : List Int)
def IsTo (bk : Option Int) (hs : List Int) (o : TO) : Prop := (bk ≠ none ∧ o = .en) ∨ (bk = none ∧ (hs = [] ∨ ∃ h ∈ hs, h < 1) ∧ o = .sq) ∨
  (bk = none ∧ hs ≠ [] ∧ (∀ h ∈ hs, 1 ≤ h) ∧ ∃ M ∈ hs, (∀ h ∈ hs, h ≤ M) ∧ ((24 < M ∧ o = .mn M) ∨ (M ≤ 24 ∧ o = .ok hs)))
theorem IsTo.uniq {bk : Option Int} {hs : List Int} {o o' : TO} (h : IsTo bk hs o) (h' : IsTo bk hs o') : o = o' := by
  have sq : (hs = [] ∨ ∃ h ∈ hs, h < 1) → hs ≠ [] → (∀ h ∈ hs, 1 ≤ h) → False := fun a b c => by
    rcases a with e | ⟨h, m, l⟩
    · exact b e
    · have := c h m
      omega
  rcases h with ⟨b1, e⟩ | ⟨b1, s1, e⟩ | ⟨b1, n1, c1, M, mM, gM, e⟩ <;> rcases h' with ⟨b2, e'⟩ | ⟨b2, s2, e'⟩ | ⟨b2, n2, c2, M', mM', gM', e'⟩
  · rw [e, e']
  · exact absurd b2 b1
  · exact absurd b2 b1
  · exact absurd b1 b2
  · rw [e, e']
  · exact (sq s1 n2 c2).elim
  · exact absurd b1 b2
  · exact (sq s2 n1 c1).elim
  · have eM : M = M' := Int.le_antisymm (gM' M mM) (gM M' mM')
    subst eM
    rcases e with ⟨l1, e⟩ | ⟨l1, e⟩ <;> rcases e' with ⟨l2, e'⟩ | ⟨l2, e'⟩
    · rw [e, e']
    · omega
    · omega
    · rw [e, e']
def toD (rs : List RW) : TO → PyData
  | .en => refD 8
  | .sq => refD 9
  | .mn m => manyD m 24
  | .ok hs => toldD (lyD (wh rs hs, none))
/-- the floor, looked for -/
theorem floor_at {x L q : Int} (hL : 0 < L) (h1 : q * L ≤ x) (h2 : x < (q + 1) * L) : x / L = q := by
  have a : q ≤ x / L := Int.le_ediv_of_mul_le hL h1
  have b : x / L < q + 1 := Int.ediv_lt_of_lt_mul hL h2
  omega
theorem ps_tot (rs : List RW) (i : Nat) : ps (hds rs) i = tot (rs.take i) := by
  unfold ps hds tot
  rw [List.map_take]
theorem ps_bd {rs : List RW} (v : ∀ r ∈ rs, VRow r) (h8 : rs.length ≤ 8) (i : Nat) : 0 ≤ ps (hds rs) i ∧ ps (hds rs) i ≤ 192 := by
  rw [ps_tot]
  have t := tot_nonneg (rs := rs.take i) fun r hr => v r (List.mem_of_mem_take hr)
  rw [List.length_take] at t
  omega
/-- one more turn of sharing out -/
theorem share_step {k t j : Nat} (hk : 1 ≤ k) (h8 : k ≤ 8) (hj : j < k) : (((t + 1 : Nat) : Int) - (j : Int) + (k : Int) - 1) / (k : Int) = ((t : Int) - (j : Int) + (k : Int) - 1) / (k : Int) + (if t % k = j then 1 else 0) := by
  rcases (by omega : k = 1 ∨ k = 2 ∨ k = 3 ∨ k = 4 ∨ k = 5 ∨ k = 6 ∨ k = 7 ∨ k = 8) with e | e | e | e | e | e | e | e <;> subst e <;> split <;> omega
theorem paired_of {α β : Type} {F : α → β → Prop} : ∀ {l₁ : List α} {l₂ : List β}, l₁.length = l₂.length → (∀ (i : Nat) (x : α) (y : β), l₁[i]? = some x → l₂[i]? = some y → F x y) → Paired F l₁ l₂
  | [], [], _, _ => .nil
  | [], _ :: _, h, _ => by cases h
  | _ :: _, [], h, _ => by cases h
  | a :: l, b :: k, h, f => .cons (f 0 a b rfl rfl) (paired_of (by simpa using h) fun i x y hx hy => f (i + 1) x y hx hy)

/-! ### the text -/
def topS (i : Nat) : Stmt := PySem.Challenge.pw_lanternrows_k44_layers_evened_and_retime.main.body.getD i (.Pass ⟨0, 0, 0, 0⟩)
abbrev s_is_whole_from : Stmt := topS 19
theorem sc_is_whole_from : FnScope ["thing", "least"] ["thing", "least"] (defScope s_is_whole_from) := ⟨rfl, rfl, rfl, by decide +kernel, rfl, by decide +kernel, by decide +kernel⟩
abbrev s_is_whole : Stmt := topS 20
theorem sc_is_whole : FnScope ["thing", "least", "most"] ["thing", "least", "most"] (defScope s_is_whole) := ⟨rfl, rfl, rfl, by decide +kernel, rfl, by decide +kernel, by decide +kernel⟩
abbrev s_need_number : Stmt := topS 21
theorem sc_need_number : FnScope ["thing", "least", "most"] ["thing", "least", "most"] (defScope s_need_number) := ⟨rfl, rfl, rfl, by decide +kernel, rfl, by decide +kernel, by decide +kernel⟩
abbrev s_need_at_most : Stmt := topS 22
theorem sc_need_at_most : FnScope ["many", "most"] ["many", "most"] (defScope s_need_at_most) := ⟨rfl, rfl, rfl, by decide +kernel, rfl, by decide +kernel, by decide +kernel⟩
abbrev s_is_tuple : Stmt := topS 27
theorem sc_is_tuple : FnScope ["thing", "least", "most"] ["thing", "least", "most"] (defScope s_is_tuple) := ⟨rfl, rfl, rfl, by decide +kernel, rfl, by decide +kernel, by decide +kernel⟩
abbrev s_is_drawing : Stmt := topS 28
theorem sc_is_drawing : FnScope ["thing"] ["thing"] (defScope s_is_drawing) := ⟨rfl, rfl, rfl, by decide +kernel, rfl, by decide +kernel, by decide +kernel⟩
abbrev s_is_hold : Stmt := topS 29
theorem sc_is_hold : FnScope ["thing"] ["thing"] (defScope s_is_hold) := ⟨rfl, rfl, rfl, by decide +kernel, rfl, by decide +kernel, by decide +kernel⟩
abbrev s_is_row : Stmt := topS 30
theorem sc_is_row : FnScope ["thing", "drawing", "hold"] ["thing"] (defScope s_is_row) := ⟨rfl, rfl, rfl, by decide +kernel, rfl, by decide +kernel, by decide +kernel⟩
abbrev s_is_layer : Stmt := topS 31
theorem sc_is_layer : FnScope ["thing", "rows", "back", "row"] ["thing"] (defScope s_is_layer) := ⟨rfl, rfl, rfl, by decide +kernel, rfl, by decide +kernel, by decide +kernel⟩
abbrev s_need_layer : Stmt := topS 32
theorem sc_need_layer : FnScope ["thing"] ["thing"] (defScope s_need_layer) := ⟨rfl, rfl, rfl, by decide +kernel, rfl, by decide +kernel, by decide +kernel⟩
abbrev s_need_length : Stmt := topS 33
theorem sc_need_length : FnScope ["length"] ["length"] (defScope s_need_length) := ⟨rfl, rfl, rfl, by decide +kernel, rfl, by decide +kernel, by decide +kernel⟩
abbrev s_held : Stmt := topS 34
theorem sc_held : FnScope ["rows", "drawing", "hold"] ["rows"] (defScope s_held) := ⟨rfl, rfl, rfl, by decide +kernel, rfl, by decide +kernel, by decide +kernel⟩
abbrev s_length_of : Stmt := topS 35
theorem sc_length_of : FnScope ["layer", "rows", "back"] ["layer"] (defScope s_length_of) := ⟨rfl, rfl, rfl, by decide +kernel, rfl, by decide +kernel, by decide +kernel⟩
abbrev s_need_time : Stmt := topS 38
theorem sc_need_time : FnScope ["length", "many"] ["length", "many"] (defScope s_need_time) := ⟨rfl, rfl, rfl, by decide +kernel, rfl, by decide +kernel, by decide +kernel⟩
abbrev s_need_fitting : Stmt := topS 39
theorem sc_need_fitting : FnScope ["layers", "moves", "holds", "rows", "back", "drawing", "hold", "x", "y", "pictures"] ["layers", "moves"] (defScope s_need_fitting) := ⟨rfl, rfl, rfl, by decide +kernel, rfl, by decide +kernel, by decide +kernel⟩
abbrev s_even_holds : Stmt := topS 40
theorem sc_even_holds : FnScope ["parts", "many", "at"] ["parts", "many"] (defScope s_even_holds) := ⟨rfl, rfl, rfl, by decide +kernel, rfl, by decide +kernel, by decide +kernel⟩
abbrev s_scaled : Stmt := topS 41
theorem sc_scaled : FnScope ["numbers", "length", "many", "told", "end", "last", "number", "new"] ["numbers", "length", "many"] (defScope s_scaled) := ⟨rfl, rfl, rfl, by decide +kernel, rfl, by decide +kernel, by decide +kernel⟩
abbrev s_layer_with : Stmt := topS 42
theorem sc_layer_with : FnScope ["layer", "holds", "rows", "back", "drawing", "hold"] ["layer", "holds"] (defScope s_layer_with) := ⟨rfl, rfl, rfl, by decide +kernel, rfl, by decide +kernel, by decide +kernel⟩
abbrev s_scaled_layer : Stmt := topS 43
theorem sc_scaled_layer : FnScope ["layer", "length", "many", "drawing", "hold"] ["layer", "length", "many"] (defScope s_scaled_layer) := ⟨rfl, rfl, rfl, by decide +kernel, rfl, by decide +kernel, by decide +kernel⟩
abbrev s_evened : Stmt := topS 44
theorem sc_evened : FnScope ["layer", "many", "told"] ["layer", "many"] (defScope s_evened) := ⟨rfl, rfl, rfl, by decide +kernel, rfl, by decide +kernel, by decide +kernel⟩
abbrev s_retimed : Stmt := topS 45
theorem sc_retimed : FnScope ["layer", "many", "length", "told"] ["layer", "many"] (defScope s_retimed) := ⟨rfl, rfl, rfl, by decide +kernel, rfl, by decide +kernel, by decide +kernel⟩
abbrev s__law_cell_at : Stmt := topS 47
theorem sc__law_cell_at : FnScope ["_law_script", "_law_k"] ["_law_script", "_law_k"] (defScope s__law_cell_at) := ⟨rfl, rfl, rfl, by decide +kernel, rfl, by decide +kernel, by decide +kernel⟩
abbrev s__law_state : Stmt := topS 48
theorem sc__law_state : FnScope ["_law_script", "_law_k", "_law_cell"] ["_law_script", "_law_k"] (defScope s__law_state) := ⟨rfl, rfl, rfl, by decide +kernel, rfl, by decide +kernel, by decide +kernel⟩
abbrev s__law_take : Stmt := topS 49
theorem sc__law_take : FnScope ["_law_state_here", "_law_many", "_law_found", "_law_mixed"] ["_law_state_here", "_law_many"] (defScope s__law_take) := ⟨rfl, rfl, rfl, by decide +kernel, rfl, by decide +kernel, by decide +kernel⟩
abbrev s__law_row : Stmt := topS 50
theorem sc__law_row : FnScope ["_law_state_here", "_law_drawing"] ["_law_state_here"] (defScope s__law_row) := ⟨rfl, rfl, rfl, by decide +kernel, rfl, by decide +kernel, by decide +kernel⟩
abbrev s__law_layer : Stmt := topS 51
theorem sc__law_layer : FnScope ["_law_state_here", "_law_most", "_law_ended", "_law_rows", "_law_way", "_law_back", "_law_turn"] ["_law_state_here", "_law_most", "_law_ended"] (defScope s__law_layer) := ⟨rfl, rfl, rfl, by decide +kernel, rfl, by decide +kernel, by decide +kernel⟩
abbrev s__law_length : Stmt := topS 52
theorem sc__law_length : FnScope ["_law_rows", "_law_drawing", "_law_hold"] ["_law_rows"] (defScope s__law_length) := ⟨rfl, rfl, rfl, by decide +kernel, rfl, by decide +kernel, by decide +kernel⟩
abbrev s__law_classes : Stmt := topS 53
theorem sc__law_classes : FnScope ["_law_e", "_law_found"] ["_law_e"] (defScope s__law_classes) := ⟨rfl, rfl, rfl, by decide +kernel, rfl, by decide +kernel, by decide +kernel⟩
abbrev s__law_met : Stmt := topS 54
theorem sc__law_met : FnScope ["_law_call", "_law_e", "_law_some"] ["_law_call"] (defScope s__law_met) := ⟨rfl, rfl, rfl, by decide +kernel, rfl, by decide +kernel, by decide +kernel⟩
abbrev s__law_told : Stmt := topS 55
theorem sc__law_told : FnScope ["_law_layer_here", "_law_holds", "_law_row_here", "_law_hold"] ["_law_layer_here", "_law_holds"] (defScope s__law_told) := ⟨rfl, rfl, rfl, by decide +kernel, rfl, by decide +kernel, by decide +kernel⟩
abbrev s__law_evened : Stmt := topS 56
theorem sc__law_evened : FnScope ["_law_layer_here", "_law_many", "_law_holds", "_law_turn", "_law_row_here"] ["_law_layer_here", "_law_many"] (defScope s__law_evened) := ⟨rfl, rfl, rfl, by decide +kernel, rfl, by decide +kernel, by decide +kernel⟩
abbrev s__law_retimed : Stmt := topS 57
theorem sc__law_retimed : FnScope ["_law_layer_here", "_law_many", "_law_end", "_law_ends", "_law_place", "_law_at"] ["_law_layer_here", "_law_many"] (defScope s__law_retimed) := ⟨rfl, rfl, rfl, by decide +kernel, rfl, by decide +kernel, by decide +kernel⟩
abbrev s_law : Stmt := topS 58
theorem sc_law : FnScope ["_law_script", "_law_k", "_law_state_here", "_law_turn", "_law_layer_here", "_law_count", "_law_end", "_law_some", "_law_many", "_law_lap"] ["_law_script"] (defScope s_law) := ⟨rfl, rfl, rfl, by decide +kernel, rfl, by decide +kernel, by decide +kernel⟩
abbrev s_TooMany_init : Stmt := clsB (topS 16) 0
theorem sc_TooMany_init : FnScope ["self", "many", "most"] ["self", "many", "most"] (defScope s_TooMany_init) := ⟨rfl, rfl, rfl, by decide +kernel, rfl, by decide +kernel, by decide +kernel⟩
abbrev s_Leaned_init : Stmt := clsB (topS 17) 0
theorem sc_Leaned_init : FnScope ["self", "numbers"] ["self", "numbers"] (defScope s_Leaned_init) := ⟨rfl, rfl, rfl, by decide +kernel, rfl, by decide +kernel, by decide +kernel⟩
structure Txt (K : PySem.W.Frag) (mg : Str → Option Value) : Prop where
  b_ValueError : mg "ValueError" = none
  b_len : mg "len" = none
  b_isinstance : mg "isinstance" = none
  b_max : mg "max" = none
  b_min : mg "min" = none
  b_sum : mg "sum" = none
  b_all : mg "all" = none
  b_any : mg "any" = none
  b_tuple : mg "tuple" = none
  b_range : mg "range" = none
  b_zip : mg "zip" = none
  b_bool : mg "bool" = none
  b_int : mg "int" = none
  c_MOST_DRAWING : ∃ t, mg "MOST_DRAWING" = some (Value.int 9 t)
  c_MOST_HOLD : ∃ t, mg "MOST_HOLD" = some (Value.int 24 t)
  c_MOST_ROWS : ∃ t, mg "MOST_ROWS" = some (Value.int 8 t)
  c_MOST_PICTURES : ∃ t, mg "MOST_PICTURES" = some (Value.int 200 t)

section
variable {P : Program} {w : World} {K : PySem.W.Frag} {mg : Str → Option Value} {base : Heap}
theorem ok__law_classes {f : Addr} {fd : FuncData} {c : Nat → Addr} {LE : Addr} (F : Fun K "_law_classes" "_law_classes" s__law_classes f fd) (T : Txt K mg) (TX : ExcN K mg c LE) : FnE P w K mg base 1 f fd ["_law_e"] (spCls c) := by
  refine fun_okE F sc__law_classes (fun a cls d vs H Q E h => ?_) (fun cdv A outer s H vs Q E a oe cls d hz hfs hr h => ?_)
  · obtain ⟨i, _, rfl, _⟩ := h
    rfl
  · obtain ⟨i, hi, rfl, rfl, hx, q⟩ := h
    refine ⟨_, (pss_cons (ps_set (i := 1) sc__law_classes.nd rfl (Or.inl rfl) (pe_lst (pa_cons (pe_callB (call_isQ TX.toExcT List.mem_cons_self hz hfs) (by rfl) T.b_isinstance (by decide +kernel) (pa_cons (pv 0) (pa_cons (pe_gref (by rfl) (TX.g 0 "NoLayer" rfl)) pa_nil))) (pa_cons (pe_callB (call_isQ TX.toExcT List.mem_cons_self hz hfs) (by rfl) T.b_isinstance (by decide +kernel) (pa_cons (pv 0) (pa_cons (pe_gref (by rfl) (TX.g 1 "NoWindow" rfl)) pa_nil))) (pa_cons (pe_callB (call_isQ TX.toExcT List.mem_cons_self hz hfs) (by rfl) T.b_isinstance (by decide +kernel) (pa_cons (pv 0) (pa_cons (pe_gref (by rfl) (TX.g 2 "NoSheet" rfl)) pa_nil))) (pa_cons (pe_callB (call_isQ TX.toExcT List.mem_cons_self hz hfs) (by rfl) T.b_isinstance (by decide +kernel) (pa_cons (pv 0) (pa_cons (pe_gref (by rfl) (TX.g 3 "NoMoment" rfl)) pa_nil))) pa_nil))))))
      (pss_cons (ps_set (i := 1) sc__law_classes.nd rfl (Or.inl rfl) (pe_op op_cat (pv 1) (pe_lst (pa_cons (pe_callB (call_isQ TX.toExcT List.mem_cons_self hz hfs) (by rfl) T.b_isinstance (by decide +kernel) (pa_cons (pv 0) (pa_cons (pe_gref (by rfl) (TX.g 4 "NoRow" rfl)) pa_nil))) (pa_cons (pe_callB (call_isQ TX.toExcT List.mem_cons_self hz hfs) (by rfl) T.b_isinstance (by decide +kernel) (pa_cons (pv 0) (pa_cons (pe_gref (by rfl) (TX.g 5 "NoNumber" rfl)) pa_nil))) (pa_cons (pe_callB (call_isQ TX.toExcT List.mem_cons_self hz hfs) (by rfl) T.b_isinstance (by decide +kernel) (pa_cons (pv 0) (pa_cons (pe_gref (by rfl) (TX.g 6 "NoDrawings" rfl)) pa_nil))) (pa_cons (pe_callB (call_isQ TX.toExcT List.mem_cons_self hz hfs) (by rfl) T.b_isinstance (by decide +kernel) (pa_cons (pv 0) (pa_cons (pe_gref (by rfl) (TX.g 7 "Unlike" rfl)) pa_nil))) pa_nil)))))))
      (pss_cons (ps_set (i := 1) sc__law_classes.nd rfl (Or.inl rfl) (pe_op op_cat (pv 1) (pe_lst (pa_cons (pe_callB (call_isQ TX.toExcT List.mem_cons_self hz hfs) (by rfl) T.b_isinstance (by decide +kernel) (pa_cons (pv 0) (pa_cons (pe_gref (by rfl) (TX.g 8 "Endless" rfl)) pa_nil))) (pa_cons (pe_callB (call_isQ TX.toExcT List.mem_cons_self hz hfs) (by rfl) T.b_isinstance (by decide +kernel) (pa_cons (pv 0) (pa_cons (pe_gref (by rfl) (TX.g 9 "Squeezed" rfl)) pa_nil))) (pa_cons (pe_callB (call_isQ TX.toExcT List.mem_cons_self hz hfs) (by rfl) T.b_isinstance (by decide +kernel) (pa_cons (pv 0) (pa_cons (pe_gref (by rfl) (TX.g 10 "NoPaper" rfl)) pa_nil))) (pa_cons (pe_callB (call_isQ TX.toExcT List.mem_cons_self hz hfs) (by rfl) T.b_isinstance (by decide +kernel) (pa_cons (pv 0) (pa_cons (pe_gref (by rfl) (TX.g 11 "NoDeed" rfl)) pa_nil))) pa_nil)))))))
      (pss_one (ps_ret (pe_op op_cat (pv 1) (pe_lst (pa_cons (pe_callB (call_isQ TX.toExcT List.mem_cons_self hz hfs) (by rfl) T.b_isinstance (by decide +kernel) (pa_cons (pv 0) (pa_cons (pe_gref (by rfl) (TX.g 12 "NoText" rfl)) pa_nil))) (pa_cons (pe_callB (call_isQ TX.toExcT List.mem_cons_self hz hfs) (by rfl) T.b_isinstance (by decide +kernel) (pa_cons (pv 0) (pa_cons (pe_gref (by rfl) (TX.g 13 "NoWords" rfl)) pa_nil))) (pa_cons (pe_callB (call_isQ TX.toExcT List.mem_cons_self hz hfs) (by rfl) T.b_isinstance (by decide +kernel) (pa_cons (pv 0) (pa_cons (pe_gref (by rfl) (TX.g 14 "TooMany" rfl)) pa_nil))) (pa_cons (pe_callB (call_isQ TX.toExcT List.mem_cons_self hz hfs) (by rfl) T.b_isinstance (by decide +kernel) (pa_cons (pv 0) (pa_cons (pe_gref (by rfl) (TX.g 15 "Leaned" rfl)) pa_nil))) pa_nil))))))))))), ?_⟩
    have k := TX.ko i hi
    refine ⟨_, rfl, i, hi, rfl, _, _, _, rfl, fun u z => z, k 0 (by decide), hx, _, rfl, i, hi, rfl, _, _, _, rfl, fun u z => z, k 1 (by decide), hx, _, rfl, i, hi, rfl, _, _, _, rfl, fun u z => z, k 2 (by decide), hx, _, rfl, i, hi, rfl, _, _, _, rfl, fun u z => z, k 3 (by decide), hx, (by show 4 ≤ sizeLine; decide), fun p1 n1 => ?_⟩
    obtain ⟨s1, e1⟩ := new_at (.lst [.bl (decide (i = 0)), .bl (decide (i = 1)), .bl (decide (i = 2)), .bl (decide (i = 3))]) n1
    generalize upd H p1 (.lst [.bl (decide (i = 0)), .bl (decide (i = 1)), .bl (decide (i = 2)), .bl (decide (i = 3))]) = H1 at s1 e1 ⊢
    have hx1 := hx.sm s1
    refine ⟨_, rfl, _, rfl, i, hi, rfl, _, _, _, rfl, fun u z => z, k 4 (by decide), hx1, _, rfl, i, hi, rfl, _, _, _, rfl, fun u z => z, k 5 (by decide), hx1, _, rfl, i, hi, rfl, _, _, _, rfl, fun u z => z, k 6 (by decide), hx1, _, rfl, i, hi, rfl, _, _, _, rfl, fun u z => z, k 7 (by decide), hx1, (by show 4 ≤ sizeLine; decide), fun p2 n2 => ?_⟩
    obtain ⟨s2, e2⟩ := new_at (.lst [.bl (decide (i = 4)), .bl (decide (i = 5)), .bl (decide (i = 6)), .bl (decide (i = 7))]) n2
    generalize upd H1 p2 (.lst [.bl (decide (i = 4)), .bl (decide (i = 5)), .bl (decide (i = 6)), .bl (decide (i = 7))]) = H2 at s2 e2 ⊢
    refine ⟨p1, p2, _, _, rfl, rfl, s2 _ _ e1, e2, (by show 8 ≤ sizeLine; decide), fun p3 n3 => ?_⟩
    obtain ⟨s3, e3⟩ := new_at (.lst ([.bl (decide (i = 0)), .bl (decide (i = 1)), .bl (decide (i = 2)), .bl (decide (i = 3))] ++ [.bl (decide (i = 4)), .bl (decide (i = 5)), .bl (decide (i = 6)), .bl (decide (i = 7))])) n3
    generalize upd H2 p3 (.lst ([.bl (decide (i = 0)), .bl (decide (i = 1)), .bl (decide (i = 2)), .bl (decide (i = 3))] ++ [.bl (decide (i = 4)), .bl (decide (i = 5)), .bl (decide (i = 6)), .bl (decide (i = 7))])) = H3 at s3 e3 ⊢
    have s13 := (s1.trans s2).trans s3
    have hx3 := hx.sm s13
    refine ⟨_, rfl, _, rfl, i, hi, rfl, _, _, _, rfl, fun u z => z, k 8 (by decide), hx3, _, rfl, i, hi, rfl, _, _, _, rfl, fun u z => z, k 9 (by decide), hx3, _, rfl, i, hi, rfl, _, _, _, rfl, fun u z => z, k 10 (by decide), hx3, _, rfl, i, hi, rfl, _, _, _, rfl, fun u z => z, k 11 (by decide), hx3, (by show 4 ≤ sizeLine; decide), fun p4 n4 => ?_⟩
    obtain ⟨s4, e4⟩ := new_at (.lst [.bl (decide (i = 8)), .bl (decide (i = 9)), .bl (decide (i = 10)), .bl (decide (i = 11))]) n4
    generalize upd H3 p4 (.lst [.bl (decide (i = 8)), .bl (decide (i = 9)), .bl (decide (i = 10)), .bl (decide (i = 11))]) = H4 at s4 e4 ⊢
    refine ⟨p3, p4, _, _, rfl, rfl, s4 _ _ e3, e4, (by show 12 ≤ sizeLine; decide), fun p5 n5 => ?_⟩
    obtain ⟨s5, e5⟩ := new_at (.lst (([.bl (decide (i = 0)), .bl (decide (i = 1)), .bl (decide (i = 2)), .bl (decide (i = 3))] ++ [.bl (decide (i = 4)), .bl (decide (i = 5)), .bl (decide (i = 6)), .bl (decide (i = 7))]) ++ [.bl (decide (i = 8)), .bl (decide (i = 9)), .bl (decide (i = 10)), .bl (decide (i = 11))])) n5
    generalize upd H4 p5 (.lst (([.bl (decide (i = 0)), .bl (decide (i = 1)), .bl (decide (i = 2)), .bl (decide (i = 3))] ++ [.bl (decide (i = 4)), .bl (decide (i = 5)), .bl (decide (i = 6)), .bl (decide (i = 7))]) ++ [.bl (decide (i = 8)), .bl (decide (i = 9)), .bl (decide (i = 10)), .bl (decide (i = 11))])) = H5 at s5 e5 ⊢
    have s15 := (s13.trans s4).trans s5
    have hx5 := hx.sm s15
    refine ⟨_, rfl, _, rfl, i, hi, rfl, _, _, _, rfl, fun u z => z, k 12 (by decide), hx5, _, rfl, i, hi, rfl, _, _, _, rfl, fun u z => z, k 13 (by decide), hx5, _, rfl, i, hi, rfl, _, _, _, rfl, fun u z => z, k 14 (by decide), hx5, _, rfl, i, hi, rfl, _, _, _, rfl, fun u z => z, k 15 (by decide), hx5, (by show 4 ≤ sizeLine; decide), fun p6 n6 => ?_⟩
    obtain ⟨s6, e6⟩ := new_at (.lst [.bl (decide (i = 12)), .bl (decide (i = 13)), .bl (decide (i = 14)), .bl (decide (i = 15))]) n6
    generalize upd H5 p6 (.lst [.bl (decide (i = 12)), .bl (decide (i = 13)), .bl (decide (i = 14)), .bl (decide (i = 15))]) = H6 at s6 e6 ⊢
    refine ⟨p5, p6, _, _, rfl, rfl, s6 _ _ e5, e6, (by show 16 ≤ sizeLine; decide), fun p7 n7 => ?_⟩
    exact q _ p7 ((s15.trans s6).trans (same_upd n7)) ((s15.trans s6).free n7) upd_same
end
section
variable {X : Cx}
theorem met_mk {c : Nat → Addr} {LE g : Addr} {fd : FuncData} (Fm : Fun X.K "_law_met" "_law_met" s__law_met g fd) (mm : X.mg "_law_met" = some (.ref g)) (bm : Binds X.K fd ["_law_call"] []) (T : Txt X.K X.mg) (TX : ExcN X.K X.mg c LE)
    (DE : ClE X.prog X.w X.K X.mg X.base 1 "_law_classes" ["_law_e"] (spCls c)) (hr : Room 3 X.A) : MetF X "_law_met" "_law_call" (TMet c) := by
  obtain ⟨oc, od, kV, doc, pm, an, cdv, ct, osl, rfl, lk, hcd⟩ := Fm.ex
  refine ⟨g, _, _, _, kV, doc, pm, cdv, ct, oc, an, od, osl, _, mm, Fm.kp, lk, hcd, bm, sc__law_met, rfl, .inl rfl, ?_⟩
  intro f c' s H Q tl act hc h
  have hrE : L2H.RoomH 1 ((X.A.deeper (envOfC "_law_met" (defScope s__law_met) s.heap.objs.size g cdv))) := L2H.roomH_of ((hr.mono (show 2 ≤ 3 by omega)).deeper _)
  refine ⟨_, pss_one (ps_try_as (X := (cxOf C8.CX0 X.prog X.w X.K X.mg X.base _ "_law_met" (defScope s__law_met) g cdv X.A X.stack s H C8.E0).nox) (c := .ref LE) (i := 1) (Wout := fun _ _ _ _ => False)
      (tb := fun W D σ H => ∃ Ech : XK, (∀ cls d (σ' : L2.St) H', σ'.length = 3 → Ech cls d H' → W cls d σ' H') ∧ σ[0]? = some (some (.ref f)) ∧ H c' = some (LamX.CodeO c' (X.env.qual ++ "<lambda>")) ∧ tl Ech H fun v H1 => 2 ≤ sizeLine ∧ ∀ p, H1 p = none → D.rt (.ref p) (upd H1 p (.tup [.str "told", v])))
      rfl rfl sc__law_met.nd rfl rfl ⟨rfl, by decide, .inl TX.gL⟩ takes0 (fun W pn xe tk _ => ?_) (fun a oe cls d pn hz hfs =>
        (pss_cons (ps_set (i := 2) sc__law_met.nd rfl (Or.inl rfl) (pe_ownE DE ⟨hrE.dp, hrE.un⟩ List.mem_cons_self hz hfs (by rfl) (pa_cons (pv 1) pa_nil)))
      (pss_cons (ps_if (PW.pt (pw_or (pt_not (pt_val (pe_callB (call_isQ TX.toExcT List.mem_cons_self hz hfs) (by rfl) T.b_isinstance (by decide +kernel) (pa_cons (pv 1) (pa_cons (pe_bltn (v := .ty "ValueError") (by rfl) T.b_ValueError (by decide +kernel) rfl) pa_nil))))) (pw_or1 (pt_cmpR op_ne (pe_bmK (K := X.K) (r := rCntB X.K) PySem.F.plainAttrs_list PySem.F.slot_list_count PySem.F.type_list_count mt_bcount (pv 2) (pa_cons pe_bl pa_nil)) pe_int (nomark _))))) (pss_one (ps_ret (pe_tup (pa_cons pe_str (pa_cons pe_non pa_nil))))) pss_nil)
      (pss_cons (ps_if (pt_val (pe_ix (r := rIxL X.K) ix_list (pv 2) pe_int (fun _ _ => rfl))) (pss_one (ps_ret (pe_tup (pa_cons pe_str (pa_cons (pe_tup (pa_cons (pe_xf (TX.xf (i := 14) (by decide)) TX.n1 hz hfs (pv 1)) (pa_cons (pe_xf (TX.xf (i := 14) (by decide)) TX.n2 hz hfs (pv 1)) pa_nil))) pa_nil))))) pss_nil)
      (pss_cons (ps_if (pt_val (pe_ix (r := rIxL X.K) ix_list (pv 2) pe_int (fun _ _ => rfl))) (pss_one (ps_ret (pe_tup (pa_cons pe_str (pa_cons (pe_xf (TX.xf (i := 15) (by decide)) TX.n3 hz hfs (pv 1)) pa_nil))))) pss_nil)
      (pss_one (ps_ret (pe_tup (pa_cons pe_str (pa_cons (pe_bmK (K := X.K) (r := rIndex X.K) PySem.F.plainAttrs_list PySem.F.slot_list_index PySem.F.type_list_index mt_index (pv 2) (pa_cons pe_bl pa_nil)) pa_nil))))))))))), ?_⟩
  · refine ⟨fun pins s' σ H' D I h' => ?_⟩
    obtain ⟨Ech, hW, h1, h2, h3⟩ := h'
    refine run_ex (X := (cxOf C8.CX0 X.prog X.w X.K X.mg X.base ["_law_call", "_law_e", "_law_some"] "_law_met" (defScope s__law_met) g cdv X.A X.stack s H C8.E0).tr pn xe) ⟨_, pss_one (ps_ret (pe_tup (pa_cons pe_str (pa_cons (act _ pn xe Ech _ _ (takes_len tk) (fun cls d σ' H' he hl => hW cls d σ' H' hl he)) pa_nil)))), ?_⟩ I
    exact ⟨h1, h2, h3⟩
  · refine ⟨EMet c Q, fun cls d σ' H' hl hE => ?_, rfl, hc, h⟩
    obtain ⟨i, hi, rfl, hx, h13, hM, hL⟩ := hE
    obtain ⟨x0, x1, x2, rfl⟩ : ∃ x0 x1 x2, σ' = [x0, x1, x2] := by
      match σ', hl with
      | [a, b, c], _ => exact ⟨a, b, c, rfl⟩
    refine ⟨true, TX.ex i hi, fun _ a na => ?_, fun z => Bool.noConfusion z⟩
    refine ⟨_, rfl, i, hi, rfl, rfl, hx, fun H1 p1 s1 n1 e1 => ?_⟩
    have hx1 := hx.sm s1
    refine ⟨_, rfl, i, hi, rfl, _, _, _, rfl, fun u z => z, TX.kv i hi, hx1, true, rfl, iteF ?_⟩
    refine ⟨_, rfl, .inl ⟨rfl, _, .inl (.inl e1)⟩, p1, bits i, rfl, rfl, .inl (.inl e1), ?_⟩
    rw [bits_count i hi]
    refine ⟨rfl, _, rfl, iteF ?_⟩
    refine ⟨_, rfl, p1, _, 14, _, rfl, rfl, .inl (.inl e1), bits_at i 14 (by decide), _, rfl, ite2 (fun e => ?_) (fun e14 => ?_)⟩
    · obtain ⟨dd, fs, m, n, rfl, hd, lm, ln, hq⟩ := hM (of_decide_eq_true e)
      have ec : c i = c 14 := by rw [of_decide_eq_true e]
      have hd1 := s1 _ _ hd
      refine ⟨_, rfl, rfl, by rw [ec], dd, fs, m, rfl, hd1, lm, _, rfl, rfl, by rw [ec], dd, fs, n, rfl, hd1, ln, (by show 2 ≤ sizeLine; decide), fun q2 n2 => ?_⟩
      refine ⟨(by show 2 ≤ sizeLine; decide), fun p3 n3 => ?_⟩
      obtain ⟨s2, e2⟩ := new_at (.tup [m, n]) n2
      exact hq _ p3 q2 ((s1.trans s2).trans (same_upd n3)) ((s1.trans s2).free n3) ((same_upd n3) _ _ e2) upd_same
    refine ⟨_, rfl, p1, _, 15, _, rfl, rfl, .inl (.inl e1), bits_at i 15 (by decide), _, rfl, ite2 (fun e => ?_) (fun e15 => ?_)⟩
    · obtain ⟨dd, fs, m, rfl, hd, lm, hq⟩ := hL (of_decide_eq_true e)
      have ec : c i = c 15 := by rw [of_decide_eq_true e]
      refine ⟨_, rfl, rfl, by rw [ec], dd, fs, m, rfl, s1 _ _ hd, lm, (by show 2 ≤ sizeLine; decide), fun p3 n3 => ?_⟩
      exact hq _ p3 (s1.trans (same_upd n3)) (s1.free n3) upd_same
    have i14 : i < 14 := by
      have a1 : ¬ i = 14 := fun z => e14 (decide_eq_true z)
      have a2 : ¬ i = 15 := fun z => e15 (decide_eq_true z)
      omega
    refine ⟨_, rfl, .inl ⟨rfl, _, .inl (.inl e1)⟩, p1, _, .bl true, i, .bl true, rfl, rfl, .inl (.inl e1), rfl, bl_flat _, ?_, rfl, fun m z hm hz => ?_, ?_⟩
    · rw [bits_at i i hi, decide_eq_true rfl]
    · rw [bits_at i m (by omega), decide_eq_false (by omega)] at hz
      cases hz
      rfl
    · refine ⟨(by show 2 ≤ sizeLine; decide), fun p3 n3 => ?_⟩
      exact h13 i14 _ p3 (s1.trans (same_upd n3)) (s1.free n3) upd_same
end

section
variable {P : Program} {w : World} {K : PySem.W.Frag} {mg : Str → Option Value} {base : Heap}
def sp_is_whole_from (K : PySem.W.Frag) : Sp := fun vs H Q _ => ∃ n l : Int, vs = [.int n, .int l] ∧ Q (.bl (decide (l ≤ n))) H
theorem ok_is_whole_from {f : Addr} {fd : FuncData} (F : Fun K "is_whole_from" "is_whole_from" s_is_whole_from f fd) (T : Txt K mg) : FnOk P w K mg base CX0 1 f fd ["thing", "least"] (sp_is_whole_from K) := by
  refine F.ok sc_is_whole_from (fun vs H Q E h => ?_) (fun cdv A outer s H vs Q E hr h => ?_)
  · obtain ⟨n, l, rfl, q⟩ := h
    rfl
  · obtain ⟨n, l, rfl, q⟩ := h
    refine ⟨_, (pss_cons (ps_if (PW.pt (pw_or (pt_val (pe_callB call_isi (by rfl) T.b_isinstance (by decide +kernel) (pa_cons (pv 0) (pa_cons (pe_bltn (v := .ty "bool") (by rfl) T.b_bool (by decide +kernel) rfl) pa_nil)))) (pw_or1 (pt_not (pt_val (pe_callB call_isi (by rfl) T.b_isinstance (by decide +kernel) (pa_cons (pv 0) (pa_cons (pe_bltn (v := .ty "int") (by rfl) T.b_int (by decide +kernel) rfl) pa_nil)))))))) (pss_one (ps_ret pe_bl)) pss_nil)
      (pss_one (ps_ret (pe_cmpR op_le (pv 1) (pv 0) (nomark _))))), ?_⟩
    refine ⟨_, rfl, _, _, _, _, false, rfl, .ty _, .base (.int n), kit_ty (by decide +kernel), _, rfl, iteF ?_⟩
    refine ⟨_, rfl, _, _, _, _, true, rfl, .ty _, .base (.int n), kit_ty (by decide +kernel), _, rfl, iteF ?_⟩
    exact ⟨_, rfl, _, rfl, l, n, rfl, rfl, q⟩
def sp_is_whole (K : PySem.W.Frag) : Sp := fun vs H Q _ => ∃ n l m : Int, vs = [.int n, .int l, .int m] ∧ Q (.bl (decide (l ≤ n ∧ n ≤ m))) H
theorem ok_is_whole {f : Addr} {fd : FuncData} (F : Fun K "is_whole" "is_whole" s_is_whole f fd) (T : Txt K mg) (D_is_whole_from : Cl P w K mg base 1 "is_whole_from" ["thing", "least"] (sp_is_whole_from K)) : FnOk P w K mg base CX0 2 f fd ["thing", "least", "most"] (sp_is_whole K) := by
  refine F.ok sc_is_whole (fun vs H Q E h => ?_) (fun cdv A outer s H vs Q E hr h => ?_)
  · obtain ⟨n, l, m, rfl, q⟩ := h
    rfl
  · obtain ⟨n, l, m, rfl, q⟩ := h
    refine ⟨_, (pss_one (ps_ret (pe_and (pe_own D_is_whole_from (hr.mono (by omega)) (by rfl) (pa_cons (pv 0) (pa_cons (pv 1) pa_nil))) (pe_one (pe_cmpR op_le (pv 0) (pv 2) (nomark _)))))), ?_⟩
    refine ⟨_, rfl, _, rfl, n, l, rfl, _, rfl, ite2 (fun e => ?_) (fun e => ?_)⟩
    · refine ⟨_, rfl, _, rfl, n, m, rfl, rfl, ?_⟩
      have e1 : l ≤ n := of_decide_eq_true e
      rw [show decide (l ≤ n ∧ n ≤ m) = decide (n ≤ m) by simp [e1]] at q
      exact q
    · have e1 : ¬ l ≤ n := fun z => e (decide_eq_true z)
      rw [show decide (l ≤ n ∧ n ≤ m) = false by simp [e1]] at q
      exact q
def sp_is_tuple (K : PySem.W.Frag) : Sp := fun vs H Q _ => ∃ (a : Addr) (xs : List V) (l m : Int), vs = [.ref a, .int l, .int m] ∧ SqT K H a xs ∧ Q (.bl (decide (l ≤ (xs.length : Int) ∧ (xs.length : Int) ≤ m))) H
theorem ok_is_tuple {f : Addr} {fd : FuncData} (F : Fun K "is_tuple" "is_tuple" s_is_tuple f fd) (T : Txt K mg) : FnOk P w K mg base CX0 1 f fd ["thing", "least", "most"] (sp_is_tuple K) := by
  refine F.ok sc_is_tuple (fun vs H Q E h => ?_) (fun cdv A outer s H vs Q E hr h => ?_)
  · obtain ⟨a, xs, l, m, rfl, _⟩ := h
    rfl
  · obtain ⟨a, xs, l, m, rfl, ha, q⟩ := h
    refine ⟨_, (pss_one (ps_ret (pe_and (pe_callB call_isi (by rfl) T.b_isinstance (by decide +kernel) (pa_cons (pv 0) (pa_cons (pe_bltn (v := .ty "tuple") (by rfl) T.b_tuple (by decide +kernel) rfl) pa_nil))) (pe_one (pe_chain op_le op_le (pv 1) (pe_callB call_len_seq (by rfl) T.b_len (by decide +kernel) (pa_cons (pv 0) pa_nil)) (pv 2)))))), ?_⟩
    refine ⟨_, rfl, _, _, _, _, true, rfl, .ty _, tyT ha, kit_ty (by decide +kernel), _, rfl, iteT ?_⟩
    refine ⟨_, rfl, _, rfl, a, xs, rfl, .inr ha, l, _, rfl, rfl, _, rfl, ite2 (fun e => ?_) (fun e => ?_)⟩
    · refine ⟨_, rfl, _, m, rfl, rfl, ?_⟩
      have e1 : l ≤ (xs.length : Int) := of_decide_eq_true e
      rw [show decide (l ≤ (xs.length : Int) ∧ (xs.length : Int) ≤ m) = decide ((xs.length : Int) ≤ m) by simp [e1]] at q
      exact q
    · have e1 : ¬ l ≤ (xs.length : Int) := fun z => e (decide_eq_true z)
      rw [show decide (l ≤ (xs.length : Int) ∧ (xs.length : Int) ≤ m) = false by simp [e1]] at q
      exact q
def sp_is_drawing (K : PySem.W.Frag) : Sp := fun vs H Q _ => ∃ n : Int, vs = [.int n] ∧ Q (.bl (decide (0 ≤ n ∧ n ≤ 9))) H
theorem ok_is_drawing {f : Addr} {fd : FuncData} (F : Fun K "is_drawing" "is_drawing" s_is_drawing f fd) (T : Txt K mg) (D_is_whole : Cl P w K mg base 2 "is_whole" ["thing", "least", "most"] (sp_is_whole K)) : FnOk P w K mg base CX0 3 f fd ["thing"] (sp_is_drawing K) := by
  refine F.ok sc_is_drawing (fun vs H Q E h => ?_) (fun cdv A outer s H vs Q E hr h => ?_)
  · obtain ⟨n, rfl, q⟩ := h
    rfl
  · obtain ⟨n, rfl, q⟩ := h
    refine ⟨_, (pss_one (ps_ret (pe_own D_is_whole (hr.mono (by omega)) (by rfl) (pa_cons (pv 0) (pa_cons pe_int (pa_cons (pe_gint (by rfl) T.c_MOST_DRAWING) pa_nil)))))), ?_⟩
    exact ⟨_, rfl, n, 0, 9, rfl, q⟩
def sp_is_hold (K : PySem.W.Frag) : Sp := fun vs H Q _ => ∃ n : Int, vs = [.int n] ∧ Q (.bl (decide (1 ≤ n ∧ n ≤ 24))) H
theorem ok_is_hold {f : Addr} {fd : FuncData} (F : Fun K "is_hold" "is_hold" s_is_hold f fd) (T : Txt K mg) (D_is_whole : Cl P w K mg base 2 "is_whole" ["thing", "least", "most"] (sp_is_whole K)) : FnOk P w K mg base CX0 3 f fd ["thing"] (sp_is_hold K) := by
  refine F.ok sc_is_hold (fun vs H Q E h => ?_) (fun cdv A outer s H vs Q E hr h => ?_)
  · obtain ⟨n, rfl, q⟩ := h
    rfl
  · obtain ⟨n, rfl, q⟩ := h
    refine ⟨_, (pss_one (ps_ret (pe_own D_is_whole (hr.mono (by omega)) (by rfl) (pa_cons (pv 0) (pa_cons pe_int (pa_cons (pe_gint (by rfl) T.c_MOST_HOLD) pa_nil)))))), ?_⟩
    exact ⟨_, rfl, n, 1, 24, rfl, q⟩
def sp_is_row (K : PySem.W.Frag) : Sp := fun vs H Q _ => ∃ (v : V) (r : RW), vs = [v] ∧ RowAt K H v r ∧ VRow r ∧ Q (.bl true) H
theorem ok_is_row {f : Addr} {fd : FuncData} (F : Fun K "is_row" "is_row" s_is_row f fd) (T : Txt K mg) (D_is_tuple : Cl P w K mg base 1 "is_tuple" ["thing", "least", "most"] (sp_is_tuple K)) (D_is_drawing : Cl P w K mg base 3 "is_drawing" ["thing"] (sp_is_drawing K)) (D_is_hold : Cl P w K mg base 3 "is_hold" ["thing"] (sp_is_hold K)) : FnOk P w K mg base CX0 4 f fd ["thing"] (sp_is_row K) := by
  refine F.ok sc_is_row (fun vs H Q E h => ?_) (fun cdv A outer s H vs Q E hr h => ?_)
  · obtain ⟨v, r, rfl, _⟩ := h
    rfl
  · obtain ⟨v, ⟨d, n⟩, rfl, ⟨p, rfl, hp⟩, ⟨v1, v2, v3, v4⟩, q⟩ := h
    refine ⟨_, (pss_cons (ps_if (pt_not (pt_val (pe_own D_is_tuple (hr.mono (by omega)) (by rfl) (pa_cons (pv 0) (pa_cons pe_int (pa_cons pe_int pa_nil)))))) (pss_one (ps_ret pe_bl)) pss_nil)
      (pss_cons (ps_asg (pv 0) (pg_tup (by rfl) (pgs_cons (pg_name (i := 1) sc_is_row.nd rfl (Or.inl rfl)) (pgs_cons (pg_name (i := 2) sc_is_row.nd rfl (Or.inl rfl)) pgs_nil))))
      (pss_one (ps_ret (pe_and (pe_own D_is_drawing (hr.mono (by omega)) (by rfl) (pa_cons (pv 1) pa_nil)) (pe_one (pe_own D_is_hold (hr.mono (by omega)) (by rfl) (pa_cons (pv 2) pa_nil)))))))), ?_⟩
    refine ⟨_, rfl, p, _, 2, 2, rfl, hp, _, rfl, iteF ?_⟩
    refine ⟨_, rfl, p, _, rfl, hp, rfl, _, _, rfl, _, _, rfl, rfl, ?_⟩
    refine ⟨_, rfl, d, rfl, true, ?_, iteT ?_⟩
    · rw [show decide ((0 : Int) ≤ d ∧ d ≤ 9) = true from decide_eq_true ⟨v1, v2⟩]
    · refine ⟨_, rfl, n, rfl, ?_⟩
      rw [show decide ((1 : Int) ≤ n ∧ n ≤ 24) = true from decide_eq_true ⟨v3, v4⟩]
      exact q
end

section
variable {P : Program} {w : World} {K : PySem.W.Frag} {mg : Str → Option Value} {base : Heap}
def sp_is_layer (K : PySem.W.Frag) : Sp := fun vs H Q _ => ∃ (v : V) (rs : List RW) (bk : Option Int), vs = [v] ∧ LayAt K H v rs bk ∧ VRows rs ∧ VBack rs bk ∧ ∀ H', Same H H' → Q (.bl true) H'
theorem ok_is_layer {f : Addr} {fd : FuncData} (F : Fun K "is_layer" "is_layer" s_is_layer f fd) (T : Txt K mg) (D_is_tuple : Cl P w K mg base 1 "is_tuple" ["thing", "least", "most"] (sp_is_tuple K)) (D_is_row : Cl P w K mg base 4 "is_row" ["thing"] (sp_is_row K)) (D_is_whole : Cl P w K mg base 2 "is_whole" ["thing", "least", "most"] (sp_is_whole K)) : FnOk P w K mg base CX0 5 f fd ["thing"] (sp_is_layer K) := by
  refine F.ok sc_is_layer (fun vs H Q E h => ?_) (fun cdv A outer s H vs Q E hr h => ?_)
  · obtain ⟨v, rs, bk, rfl, _⟩ := h
    rfl
  · obtain ⟨v, rs, bk, rfl, ⟨p, rv, rfl, hp, pr, vs, rfl, hq, pd⟩, ⟨v8, vr⟩, vb, q⟩ := h
    have hl : vs.length = rs.length := Paired.length pd
    refine ⟨_, (pss_cons (ps_if (pt_not (pt_val (pe_own D_is_tuple (hr.mono (by omega)) (by rfl) (pa_cons (pv 0) (pa_cons pe_int (pa_cons pe_int pa_nil)))))) (pss_one (ps_ret pe_bl)) pss_nil)
      (pss_cons (ps_asg (pv 0) (pg_tup (by rfl) (pgs_cons (pg_name (i := 1) sc_is_layer.nd rfl (Or.inl rfl)) (pgs_cons (pg_name (i := 2) sc_is_layer.nd rfl (Or.inl rfl)) pgs_nil))))
      (pss_cons (ps_if (PW.pt (pw_or (pt_not (pt_val (pe_own D_is_tuple (hr.mono (by omega)) (by rfl) (pa_cons (pv 1) (pa_cons pe_int (pa_cons (pe_gint (by rfl) T.c_MOST_ROWS) pa_nil)))))) (pw_or1 (pt_not (pt_val (pe_callB (cr_all rfl) (by rfl) T.b_all (by decide +kernel) (pa_cons (pe_lc (own := [("row", 3)]) (g := (gName 3)) (tt := tYes) (by rfl) sc_is_layer.nd (pi_tup (pv 1)) (blkOk_by (own := [("row", 3)]) (N := ["thing", "rows", "back", "row"]) (sc := defScope s_is_layer) (by decide +kernel)) (fun _ _ _ _ _ => (pg_name (i := 3) sc_is_layer.nd rfl (Or.inl rfl))) (fun _ _ _ _ _ => pts_nil) (fun _ _ _ _ _ => (pe_own D_is_row (hr.mono (by omega)) (by rfl) (pa_cons (pv 3) pa_nil)))) pa_nil))))))) (pss_one (ps_ret pe_bl)) pss_nil)
      (pss_one (ps_ret (pe_or (pe_cmpR op_isN (pv 2) pe_non (nomark _)) (pe_one (pe_own D_is_whole (hr.mono (by omega)) (by rfl) (pa_cons (pv 2) (pa_cons pe_int (pa_cons (pe_op op_sub (pe_callB call_len_seq (by rfl) T.b_len (by decide +kernel) (pa_cons (pv 1) pa_nil)) pe_int) pa_nil))))))))))), ?_⟩
    refine ⟨_, rfl, p, _, 2, 2, rfl, hp, _, rfl, iteF ?_⟩
    refine ⟨_, rfl, p, _, rfl, hp, rfl, _, _, rfl, _, _, rfl, rfl, ?_⟩
    refine ⟨_, rfl, pr, vs, 0, 8, rfl, hq, _, rfl, ?_⟩
    rw [show decide ((0 : Int) ≤ (vs.length : Int) ∧ (vs.length : Int) ≤ 8) = true from decide_eq_true ⟨by omega, by omega⟩]
    refine iteF ?_
    refine ⟨_, rfl, pr, rfl, ⟨_, hq⟩, fun D hD => ?_⟩
    refine lcmap_tup ((vs.map fun _ => true).map V.bl) (by simp) (by omega) hq hD (fun i x y H2 R Z hx hy s2 hR => ?_) (fun H2 s2 hL => ?_)
    · obtain ⟨r, hr1, hrow⟩ := Paired.at pd hx
      have ey : y = .bl true := by
        rw [List.map_map, List.getElem?_map, hx] at hy
        exact (Option.some.inj hy).symm
      subst ey
      exact ⟨rfl, yes_ok ⟨_, rfl, x, r, rfl, hrow.keep (Same.tk s2), vr r (List.mem_of_getElem? hr1), hR _ (Same.refl _)⟩⟩
    · refine ⟨D, _, rfl, .inl (.inl hL), _, rfl, ?_⟩
      rw [show ((vs.map fun _ => true).all id) = true by simp]
      refine iteF ?_
      refine ⟨_, rfl, rfl, _, rfl, ?_⟩
      cases bk with
      | none => exact ite2 (fun _ => q _ s2) (fun e => absurd (decide_eq_true rfl) e)
      | some b =>
        refine ite2 (fun e => nomatch (of_decide_eq_true e)) (fun _ => ?_)
        have hb := vb b rfl
        refine ⟨_, rfl, _, rfl, pr, vs, rfl, .inr (Same.sqT s2 hq), _, _, rfl, rfl, b, 0, _, rfl, ?_⟩
        rw [show decide ((0 : Int) ≤ b ∧ b ≤ (vs.length : Int) - 1) = true from decide_eq_true ⟨by omega, by omega⟩]
        exact q _ s2
def sp_need_layer (K : PySem.W.Frag) : Sp := fun vs H Q _ => ∃ (v : V) (rs : List RW) (bk : Option Int), vs = [v] ∧ LayAt K H v rs bk ∧ VRows rs ∧ VBack rs bk ∧ ∀ H', Same H H' → Q .non H'
theorem ok_need_layer {f : Addr} {fd : FuncData} (F : Fun K "need_layer" "need_layer" s_need_layer f fd) (T : Txt K mg) (D_is_layer : Cl P w K mg base 5 "is_layer" ["thing"] (sp_is_layer K)) : FnOk P w K mg base CX0 6 f fd ["thing"] (sp_need_layer K) := by
  refine F.ok sc_need_layer (fun vs H Q E h => ?_) (fun cdv A outer s H vs Q E hr h => ?_)
  · obtain ⟨v, rs, bk, rfl, _⟩ := h
    rfl
  · obtain ⟨v, rs, bk, rfl, hl, v8, vb, q⟩ := h
    refine ⟨_, (pss_one (ps_if (pt_not (pt_val (pe_own D_is_layer (hr.mono (by omega)) (by rfl) (pa_cons (pv 0) pa_nil)))) (pss_one ps_never) pss_nil)), ?_⟩
    exact ⟨_, rfl, v, rs, bk, rfl, hl, v8, vb, fun H' s' => ⟨_, rfl, iteF (q _ s')⟩⟩
end

section
variable {P : Program} {w : World} {K : PySem.W.Frag} {mg : Str → Option Value} {base : Heap}
def sp_need_number (K : PySem.W.Frag) : Sp := fun vs H Q _ => ∃ n l m : Int, vs = [.int n, .int l, .int m] ∧ l ≤ n ∧ n ≤ m ∧ Q .non H
theorem ok_need_number {f : Addr} {fd : FuncData} (F : Fun K "need_number" "need_number" s_need_number f fd) (T : Txt K mg) (D_is_whole : Cl P w K mg base 2 "is_whole" ["thing", "least", "most"] (sp_is_whole K)) : FnOk P w K mg base CX0 3 f fd ["thing", "least", "most"] (sp_need_number K) := by
  refine F.ok sc_need_number (fun vs H Q E h => ?_) (fun cdv A outer s H vs Q E hr h => ?_)
  · obtain ⟨n, l, m, rfl, _⟩ := h
    rfl
  · obtain ⟨n, l, m, rfl, h0, h1, q⟩ := h
    refine ⟨_, (pss_one (ps_if (pt_not (pt_val (pe_own D_is_whole (hr.mono (by omega)) (by rfl) (pa_cons (pv 0) (pa_cons (pv 1) (pa_cons (pv 2) pa_nil)))))) (pss_one ps_never) pss_nil)), ?_⟩
    refine ⟨_, rfl, _, rfl, _, rfl, n, l, m, rfl, _, rfl, ?_⟩
    rw [show decide (l ≤ n ∧ n ≤ m) = true from decide_eq_true ⟨h0, h1⟩]
    exact iteF q
end

section
variable {P : Program} {w : World} {K : PySem.W.Frag} {mg : Str → Option Value} {base : Heap}
def sp_held (K : PySem.W.Frag) : Sp := fun vs H Q _ => ∃ (v : V) (rs : List RW), vs = [v] ∧ RowsAt K H v rs ∧ rs.length ≤ 1000 ∧ ∀ H', Same H H' → Q (.int (tot rs)) H'
theorem ok_held {f : Addr} {fd : FuncData} (F : Fun K "held" "held" s_held f fd) (T : Txt K mg) : FnOk P w K mg base CX0 1 f fd ["rows"] (sp_held K) := by
  refine F.ok sc_held (fun vs H Q E h => ?_) (fun cdv A outer s H vs Q E hr h => ?_)
  · obtain ⟨v, rs, rfl, _⟩ := h
    rfl
  · obtain ⟨v, rs, rfl, ⟨pr, vs, rfl, hq, pd⟩, hz, q⟩ := h
    have hl : vs.length = rs.length := Paired.length pd
    refine ⟨_, (pss_one (ps_ret (pe_callB (cr_sum rfl) (by rfl) T.b_sum (by decide +kernel) (pa_cons (pe_lc (own := [("drawing", 1), ("hold", 2)]) (g := (gTup _ 2 (gCons (gName 1) (gCons (gName 2) gNil)))) (tt := tYes) (by rfl) sc_held.nd (pi_tup (pv 0)) (blkOk_by (own := [("drawing", 1), ("hold", 2)]) (N := ["rows", "drawing", "hold"]) (sc := defScope s_held) (by decide +kernel)) (fun _ _ _ _ _ => (pg_tup (by rfl) (pgs_cons (pg_name (i := 1) sc_held.nd rfl (Or.inl rfl)) (pgs_cons (pg_name (i := 2) sc_held.nd rfl (Or.inl rfl)) pgs_nil)))) (fun _ _ _ _ _ => pts_nil) (fun _ _ _ _ _ => (pv 2))) pa_nil)))), ?_⟩
    refine ⟨_, rfl, pr, rfl, ⟨_, hq⟩, fun D hD => ?_⟩
    refine lcmap_tup ((rs.map (·.2)).map V.int) (by simp [hl]) (by omega) hq hD (fun i x y H2 R Z hx hy s2 hR => ?_) (fun H2 s2 hL => ?_)
    · obtain ⟨r, hr1, p, rfl, hrow⟩ := Paired.at pd hx
      have ey : y = .int r.2 := by
        rw [List.map_map, List.getElem?_map, hr1] at hy
        exact (Option.some.inj hy).symm
      subst ey
      exact ⟨p, _, rfl, Same.sqT s2 hrow, rfl, _, _, rfl, _, _, rfl, rfl, rfl, yes_ok ⟨_, rfl, hR _ (Same.refl _)⟩⟩
    · exact ⟨D, _, rfl, .inl (.inl hL), q _ s2⟩
end

section
variable {P : Program} {w : World} {K : PySem.W.Frag} {mg : Str → Option Value} {base : Heap}
def sp_length_of (K : PySem.W.Frag) : Sp := fun vs H Q _ => ∃ (v : V) (l : LY), vs = [v] ∧ LyAt K H v l ∧ VLy l ∧ ∀ H', Same H H' → Q (bkV (lenL l)) H'
theorem ok_length_of {f : Addr} {fd : FuncData} (F : Fun K "length_of" "length_of" s_length_of f fd) (T : Txt K mg) (D_held : Cl P w K mg base 1 "held" ["rows"] (sp_held K)) : FnOk P w K mg base CX0 2 f fd ["layer"] (sp_length_of K) := by
  refine F.ok sc_length_of (fun vs H Q E h => ?_) (fun cdv A outer s H vs Q E hr h => ?_)
  · obtain ⟨v, l, rfl, _⟩ := h
    rfl
  · obtain ⟨v, ⟨rs, bk⟩, rfl, ⟨p, rv, rfl, hp, hq⟩, ⟨v8, vb⟩, q⟩ := h
    refine ⟨_, (pss_cons (ps_asg (pv 0) (pg_tup (by rfl) (pgs_cons (pg_name (i := 1) sc_length_of.nd rfl (Or.inl rfl)) (pgs_cons (pg_name (i := 2) sc_length_of.nd rfl (Or.inl rfl)) pgs_nil))))
      (pss_one (ps_ret (pe_ifExp (pt_cmpR op_isN (pv 2) pe_non (nomark _)) (pe_own D_held (hr.mono (by omega)) (by rfl) (pa_cons (pv 1) pa_nil)) pe_non)))), ?_⟩
    refine ⟨_, rfl, p, _, rfl, hp, rfl, _, _, rfl, _, _, rfl, rfl, ?_⟩
    refine ⟨_, rfl, rfl, _, rfl, ?_⟩
    cases bk with
    | none =>
      refine ite2 (fun _ => ?_) (fun e => absurd (decide_eq_true rfl) e)
      have := v8.1
      exact ⟨_, rfl, rv, rs, rfl, hq, by dsimp only at this; omega, q⟩
    | some b => exact ite2 (fun e => nomatch (of_decide_eq_true e)) (fun _ => q _ (Same.refl _))
end

section
variable {P : Program} {w : World} {K : PySem.W.Frag} {mg : Str → Option Value} {base : Heap}
def sp_TooMany_init (c : Nat → Addr) (K : PySem.W.Frag) : Sp := fun vs H Q _ => ∃ (a : Addr) (m n : V), vs = [.ref a, m, n] ∧ OexC K (c 14) ∧ PySem.W.findIn K (.ref (c 14)) "many" = some none ∧ PySem.W.findIn K (.ref (c 14)) "most" = some none ∧ H a = some (exo a (c 14) none) ∧
  ∀ H' d, H' a = some (exo a (c 14) (some d)) → H' d = some (exd d [("most", n), ("many", m)]) → H d = none → (∀ b o, b ≠ a → H b = some o → H' b = some o) → Q .non H'
theorem ok_TooMany_init {f : Addr} {fd : FuncData} {c : Nat → Addr} (F : Fun K "__init__" "TooMany.__init__" s_TooMany_init f fd) : FnOk P w K mg base CX0 1 f fd ["self", "many", "most"] (sp_TooMany_init c K) := by
  refine F.ok sc_TooMany_init (fun vs H Q E h => ?_) (fun cdv A outer s H vs Q E hr h => ?_)
  · obtain ⟨a, m, n, rfl, _⟩ := h
    rfl
  · obtain ⟨a, m, n, rfl, o, f1, f2, ha, q⟩ := h
    refine ⟨_, (pss_cons (ps_ost (pv 0) (pv 1))
      (pss_one (ps_ost (pv 0) (pv 2)))), ?_⟩
    refine ⟨_, rfl, _, rfl, a, c 14, rfl, o, f1, .inl ⟨ha, fun d nd da => ?_⟩⟩
    refine ⟨_, rfl, _, rfl, a, c 14, rfl, o, f2, .inr ⟨d, [("many", m)], upd_same, ?_, (by show 1 ≤ 900; decide), ?_⟩⟩
    · rw [upd_ne da, upd_same]
    · refine q _ d ?_ upd_same nd fun b o' hb e => ?_
      · rw [upd_ne (Ne.symm da), upd_same]
      · rw [upd_ne (ne_of_none e nd), upd_ne hb, upd_ne (ne_of_none e nd)]
        exact e
def sp_need_at_most (K : PySem.W.Frag) (c : Nat → Addr) : Sp := fun vs H Q E => ∃ m n : Int, vs = [.int m, .int n] ∧ (m ≤ n → Q .non H) ∧ (n < m → ∀ H' d, Same H H' → H d = none → H' d = some (.xd [("most", .int n), ("many", .int m)]) → E (.ref (c 14)) (some d) H')
theorem ok_need_at_most {f : Addr} {fd : FuncData} {c : Nat → Addr} {LE : Addr} (F : Fun K "need_at_most" "need_at_most" s_need_at_most f fd) (T : Txt K mg) (TX : ExcN K mg c LE) (TI : IniT P w K mg base (c 14) 3 (sp_TooMany_init c K)) : FnOk P w K mg base (L2.CX P w) 3 f fd ["many", "most"] (sp_need_at_most K c) := by
  refine F.okX sc_need_at_most (fun vs H Q E h => ?_) (fun cdv A outer s H vs Q E hr h => ?_)
  · obtain ⟨m, n, rfl, _⟩ := h
    rfl
  · obtain ⟨m, n, rfl, q1, q2⟩ := h
    refine ⟨_, (pss_one (ps_if (pt_cmpR op_gt (pv 0) (pv 1) (nomark _)) (pss_one (ps_raise rfl (takes_of rfl rfl rfl rfl) (pmk_init TI (hr.mono (by omega)) (by rfl) (TX.g 14 "TooMany" rfl) (pa_cons (pv 0) (pa_cons (pv 1) pa_nil))))) pss_nil)), ?_⟩
    refine ⟨_, rfl, _, rfl, m, n, rfl, rfl, _, rfl, ite2 (fun e => ?_) (fun e => ?_)⟩
    · have e1 : n < m := of_decide_eq_true e
      obtain ⟨_, _, _, ox, _⟩ := TI.ex
      refine ⟨_, rfl, _, rfl, (by show 2 ≤ 1000; decide), fun a na => ⟨a, _, _, rfl, ox, TX.n1, TX.n2, upd_same, fun H' d e1' e2' nd hk => ⟨rfl, d, _, e1', e2', ?_, ?_⟩⟩⟩
      · have : d ≠ a := fun z => by rw [z, upd_same] at nd; cases nd
        rw [upd_ne this] at nd
        exact nd
      · have da : d ≠ a := fun z => by rw [z, upd_same] at nd; cases nd
        have nd' : H d = none := by rw [upd_ne da] at nd; exact nd
        refine q2 e1 _ d (fun b o hb => ?_) nd' upd_same
        have ba : b ≠ a := ne_of_none hb na
        rw [upd_ne (ne_of_none hb nd'), del_ne ba]
        exact hk b o ba (by rw [upd_ne ba]; exact hb)
    · exact q1 (by have := of_decide_eq_false (Bool.eq_false_iff.mpr e); omega)
end

section
variable {P : Program} {w : World} {K : PySem.W.Frag} {mg : Str → Option Value} {base : Heap}
def sp_need_length (K : PySem.W.Frag) (c : Nat → Addr) : Sp := fun vs H Q E => ∃ o : Option Int, vs = [bkV o] ∧ (∀ i, o = some i → Q .non H) ∧ (o = none → E (.ref (c 8)) none H)
theorem ok_need_length {f : Addr} {fd : FuncData} {c : Nat → Addr} {LE : Addr} (F : Fun K "need_length" "need_length" s_need_length f fd) (T : Txt K mg) (TX : ExcN K mg c LE) : FnOk P w K mg base (L2.CX P w) 1 f fd ["length"] (sp_need_length K c) := by
  refine F.okX sc_need_length (fun vs H Q E h => ?_) (fun cdv A outer s H vs Q E hr h => ?_)
  · obtain ⟨o, rfl, _⟩ := h
    rfl
  · obtain ⟨o, rfl, q1, q2⟩ := h
    refine ⟨_, (pss_one (ps_if (pt_cmpR op_isN (pv 0) pe_non (nomark _)) (pss_one (ps_raise rfl (takes_of rfl rfl rfl rfl) (pmk_own PySem.F.excBase_ValueError (TX.nw 8 (by decide)) (TX.g 8 "Endless" rfl) (TX.kp 8 (by decide)) (TX.rs (i := 8) (by decide)) rfl))) pss_nil)), ?_⟩
    refine ⟨_, rfl, rfl, _, rfl, ?_⟩
    cases o with
    | none => exact ite2 (fun _ => q2 rfl) (fun e => absurd (decide_eq_true rfl) e)
    | some i => exact ite2 (fun e => nomatch (of_decide_eq_true e)) (fun _ => q1 i rfl)
def sp_need_time (K : PySem.W.Frag) (c : Nat → Addr) : Sp := fun vs H Q E => ∃ (o : Option Int) (m : Int), vs = [bkV o, .int m] ∧ 1 ≤ m ∧ m ≤ 200 ∧ (∀ i, o = some i → i ≠ 0 → Q .non H) ∧ (o = none → E (.ref (c 8)) none H) ∧ (o = some 0 → E (.ref (c 9)) none H)
theorem ok_need_time {f : Addr} {fd : FuncData} {c : Nat → Addr} {LE : Addr} (F : Fun K "need_time" "need_time" s_need_time f fd) (T : Txt K mg) (TX : ExcN K mg c LE) (D_need_number : Cl P w K mg base 3 "need_number" ["thing", "least", "most"] (sp_need_number K)) (D_need_length : ClX P w K mg base 1 "need_length" ["length"] (sp_need_length K c)) : FnOk P w K mg base (L2.CX P w) 4 f fd ["length", "many"] (sp_need_time K c) := by
  refine F.okX sc_need_time (fun vs H Q E h => ?_) (fun cdv A outer s H vs Q E hr h => ?_)
  · obtain ⟨o, m, rfl, _⟩ := h
    rfl
  · obtain ⟨o, m, rfl, m1, m2, q1, q2, q3⟩ := h
    refine ⟨_, (pss_cons (ps_expr (pe_own D_need_number (hr.mono (by omega)) (by rfl) (pa_cons (pv 1) (pa_cons pe_int (pa_cons (pe_gint (by rfl) T.c_MOST_PICTURES) pa_nil)))))
      (pss_cons (ps_expr (pe_ownX D_need_length (hr.mono (by omega)) (takes_of rfl rfl rfl rfl) (by rfl) (pa_cons (pv 0) pa_nil)))
      (pss_one (ps_if (pt_cmpR op_eq (pv 0) pe_int (nomark _)) (pss_one (ps_raise rfl (takes_of rfl rfl rfl rfl) (pmk_own PySem.F.excBase_ValueError (TX.nw 9 (by decide)) (TX.g 9 "Squeezed" rfl) (TX.kp 9 (by decide)) (TX.rs (i := 9) (by decide)) rfl))) pss_nil)))), ?_⟩
    refine ⟨_, rfl, m, 1, 200, rfl, m1, m2, ?_⟩
    refine ⟨_, rfl, o, rfl, fun i ei => ?_, q2⟩
    subst ei
    refine ⟨_, rfl, rfl, _, rfl, ite2 (fun e => ?_) (fun e => ?_)⟩
    · have e0 : V.int i = V.int 0 := of_decide_eq_true e
      cases e0
      exact q3 rfl
    · exact q1 i rfl fun z => e (decide_eq_true (by subst z; rfl))
def sp_even_holds (K : PySem.W.Frag) : Sp := fun vs H Q _ => ∃ (k : Nat) (m : Int), vs = [.int (k : Int), .int m] ∧ k ≤ 8 ∧ ∀ H' p, Same H H' → H p = none → H' p = some (.lst ((evs k m).map V.int)) → Q (.ref p) H'
theorem ok_even_holds {f : Addr} {fd : FuncData} (F : Fun K "even_holds" "even_holds" s_even_holds f fd) (T : Txt K mg) : FnOk P w K mg base CX0 1 f fd ["parts", "many"] (sp_even_holds K) := by
  refine F.ok sc_even_holds (fun vs H Q E h => ?_) (fun cdv A outer s H vs Q E hr h => ?_)
  · obtain ⟨k, m, rfl, _⟩ := h
    rfl
  · obtain ⟨k, m, rfl, k8, q⟩ := h
    refine ⟨_, (pss_one (ps_ret (pe_lc (own := [("at", 2)]) (g := (gName 2)) (tt := tYes) (by rfl) sc_even_holds.nd (pi_range1 (by rfl) T.b_range (pa_cons (pv 0) pa_nil)) (blkOk_by (own := [("at", 2)]) (N := ["parts", "many", "at"]) (sc := defScope s_even_holds) (by decide +kernel)) (fun _ _ _ _ _ => (pg_name (i := 2) sc_even_holds.nd rfl (Or.inl rfl))) (fun _ _ _ _ _ => pts_nil) (fun _ _ _ _ _ => (pe_op op_fdivN (pe_op op_sub (pe_op op_add (pe_op op_sub (pv 1) (pv 2)) (pv 0)) pe_int) (pv 0)))))), ?_⟩
    refine ⟨_, rfl, (k : Int), rfl, by omega, by omega, fun D hD => ?_⟩
    refine lc_range (lo := 0) (n := (k : Int).toNat) (fun i H' => Same H H' ∧ H' D = some (.lst (((List.range i).map fun (a : Nat) => (m - (a : Int) + (k : Int) - 1) / (k : Int)).map V.int))) ⟨same_upd hD, upd_same⟩ (fun i H1 hi p1 => ?_) (fun H1 p1 => ?_)
    · obtain ⟨s1, e1⟩ := p1
      refine ⟨rfl, yes_ok ⟨_, rfl, _, rfl, _, _, rfl, rfl, _, rfl, _, _, rfl, rfl, _, _, rfl, rfl, _, rfl, _, _, rfl, rfl, ⟨by omega, by omega⟩, _, e1, ?_, fun b o e => ?_, ?_⟩⟩
      · rw [List.length_map, List.length_map, List.length_range]
        exact small1000 (by omega)
      · rw [upd_ne (ne_of_none e hD)]
        exact s1 _ _ e
      · rw [upd_same, map_succ, List.map_append]
        show some (HO.lst (_ ++ [V.int ((m - (0 + (i : Int)) + (k : Int) - 1).fdiv (k : Int))])) = _
        rw [Int.fdiv_eq_ediv_of_nonneg _ (by omega), show m - (0 + (i : Int)) = m - (i : Int) by omega]
        rfl
    · exact q _ D p1.1 hD p1.2
def sp_scaled (K : PySem.W.Frag) : Sp := fun vs H Q _ => ∃ (l : Addr) (ns : List Int) (L m : Int), vs = [.ref l, .int L, .int m] ∧ SqL K H l (ns.map V.int) ∧ ns.length ≤ 8 ∧ 0 < L ∧ L ≤ 1000 ∧ 1 ≤ m ∧ m ≤ 200 ∧
  ∀ H' p, Same H H' → H p = none → H' p = some (.lst ((scl ns L m).map V.int)) → Q (.ref p) H'
theorem ok_scaled {f : Addr} {fd : FuncData} (F : Fun K "scaled" "scaled" s_scaled f fd) (T : Txt K mg) : FnOk P w K mg base CX0 1 f fd ["numbers", "length", "many"] (sp_scaled K) := by
  refine F.ok sc_scaled (fun vs H Q E h => ?_) (fun cdv A outer s H vs Q E hr h => ?_)
  · obtain ⟨l, ns, L, m, rfl, _⟩ := h
    rfl
  · obtain ⟨l, ns, L, m, rfl, hl, n8, L0, L1, m1, m2, q⟩ := h
    refine ⟨_, (pss_cons (ps_set (i := 3) sc_scaled.nd rfl (Or.inl rfl) (pe_lst pa_nil))
      (pss_cons (ps_set (i := 4) sc_scaled.nd rfl (Or.inl rfl) pe_int)
      (pss_cons (ps_set (i := 5) sc_scaled.nd rfl (Or.inl rfl) pe_int)
      (pss_cons (ps_for PassesOwn.never rfl (pi_list (pv 0)) (pg_name (i := 6) sc_scaled.nd rfl (Or.inl rfl))
        (pss_cons (ps_aug (i := 4) sc_scaled.nd rfl (Or.inl rfl) (pv 6) ip_add)
      (pss_cons (ps_set (i := 7) sc_scaled.nd rfl (Or.inl rfl) (pe_op op_fdivN (pe_op op_mul (pv 4) (pv 2)) (pv 1)))
      (pss_cons (ps_expr (pe_bm PySem.F.plainAttrs_list PySem.F.slot_list_append PySem.F.type_list_append mt_append (pv 3) (pa_cons (pe_op op_sub (pv 7) (pv 5)) pa_nil)))
      (pss_one (ps_set (i := 5) sc_scaled.nd rfl (Or.inl rfl) (pv 7)))))))
      (pss_one (ps_ret (pv 3))))))), ?_⟩
    refine ⟨Nat.zero_le _, fun D nD => ?_⟩
    refine ⟨_, rfl, l, rfl, ⟨_, (same_upd nD).seq hl⟩, for_list (K := K) (a := l) (xs := ns.map V.int) (fun i σ H' => Same H H' ∧ H' D = some (.lst (((List.range i).map (scf ns L m)).map V.int)) ∧ ∃ y6 y7, σ = [some (.ref l), some (.int L), some (.int m), some (.ref D), some (.int (ps ns i)), some (.int (ps ns i * m / L)), y6, y7])
      ⟨same_upd nD, upd_same, none, none, ?_⟩ (fun j σ H' _ z => z.1.seq hl) ?_ ?_⟩
    · rw [ps_zero, Int.zero_mul, Int.zero_ediv]
      rfl
    · rintro i u σ H1 hu ⟨s1, e1, y6, y7, rfl⟩
      rw [List.getElem?_map] at hu
      obtain ⟨n, hn, rfl⟩ := Option.map_eq_some_iff.mp hu
      have hi : i < ns.length := (List.getElem?_eq_some_iff.mp hn).1
      refine ⟨_, rfl, _, rfl, _, _, rfl, rfl, ?_⟩
      refine ⟨_, rfl, _, rfl, _, _, rfl, rfl, .inr ⟨by omega, by omega⟩, _, rfl, _, _, rfl, rfl, ⟨by omega, by omega⟩, ?_⟩
      refine ⟨_, rfl, .inl ⟨rfl, _, .inl (.inl e1)⟩, _, rfl, _, rfl, _, _, rfl, rfl, D, _, _, rfl, rfl, e1, ?_, ?_⟩
      · rw [List.length_map, List.length_map, List.length_range]
        exact small1000 (by omega)
      refine ⟨_, rfl, fun b o e => ?_, ?_, some (.int n), some (.int (ps ns (i + 1) * m / L)), ?_⟩
      · rw [upd_ne (ne_of_none e nD)]
        exact s1 _ _ e
      · rw [upd_same, map_succ, List.map_append]
        show some (HO.lst (_ ++ [V.int (((ps ns i + n) * m).fdiv L - ps ns i * m / L)])) = some (HO.lst (_ ++ [V.int (scf ns L m i)]))
        rw [Int.fdiv_eq_ediv_of_nonneg _ (by omega), ← ps_succ hn]
        rfl
      · show [some (V.ref l), some (.int L), some (.int m), some (.ref D), some (.int (ps ns i + n)), some (.int (((ps ns i + n) * m).fdiv L)), some (.int n), some (.int (((ps ns i + n) * m).fdiv L))] = _
        rw [Int.fdiv_eq_ediv_of_nonneg _ (by omega), ← ps_succ hn]
    · rintro σ H1 ⟨s1, e1, y6, y7, rfl⟩
      refine ⟨_, rfl, q _ D s1 nD ?_⟩
      rw [List.length_map] at e1
      exact e1
def sp_layer_with (K : PySem.W.Frag) : Sp := fun vs H Q _ => ∃ (v : V) (l : LY) (a : Addr) (hs : List Int), vs = [v, .ref a] ∧ LyAt K H v l ∧ l.1.length ≤ 8 ∧ SqL K H a (hs.map V.int) ∧ hs.length = l.1.length ∧ ∀ H' v', Same H H' → LyAt K H' v' (wh l.1 hs, l.2) → Q v' H'
theorem ok_layer_with {f : Addr} {fd : FuncData} (F : Fun K "layer_with" "layer_with" s_layer_with f fd) (T : Txt K mg) : FnOk P w K mg base CX0 1 f fd ["layer", "holds"] (sp_layer_with K) := by
  refine F.ok sc_layer_with (fun vs H Q E h => ?_) (fun cdv A outer s H vs Q E hr h => ?_)
  · obtain ⟨v, l, a, hs, rfl, _⟩ := h
    rfl
  · obtain ⟨v, ⟨rs, bk⟩, a, hs, rfl, ⟨p, rv, rfl, hp, pr, us, rfl, hq, pd⟩, r8, ha, hlen, q⟩ := h
    have hl := Paired.length pd
    dsimp only at r8 hlen q hl pd hp
    refine ⟨_, (pss_cons (ps_asg (pv 0) (pg_tup (by rfl) (pgs_cons (pg_name (i := 2) sc_layer_with.nd rfl (Or.inl rfl)) (pgs_cons (pg_name (i := 3) sc_layer_with.nd rfl (Or.inl rfl)) pgs_nil))))
      (pss_one (ps_ret (pe_tup (pa_cons (pe_tupZip rfl (by rfl) T.b_tuple (by rfl) T.b_zip (pa_cons (pe_lc (own := [("drawing", 4), ("hold", 5)]) (g := (gTup _ 2 (gCons (gName 4) (gCons (gName 5) gNil)))) (tt := tYes) (by rfl) sc_layer_with.nd (pi_tup (pv 2)) (blkOk_by (own := [("drawing", 4), ("hold", 5)]) (N := ["layer", "holds", "rows", "back", "drawing", "hold"]) (sc := defScope s_layer_with) (by decide +kernel)) (fun _ _ _ _ _ => (pg_tup (by rfl) (pgs_cons (pg_name (i := 4) sc_layer_with.nd rfl (Or.inl rfl)) (pgs_cons (pg_name (i := 5) sc_layer_with.nd rfl (Or.inl rfl)) pgs_nil)))) (fun _ _ _ _ _ => pts_nil) (fun _ _ _ _ _ => (pv 4))) (pa_cons (pv 1) pa_nil))) (pa_cons (pv 3) pa_nil)))))), ?_⟩
    refine ⟨_, rfl, p, _, rfl, hp, rfl, _, _, rfl, _, _, rfl, rfl, ?_⟩
    refine ⟨_, rfl, pr, rfl, ⟨_, hq⟩, fun D hD => ?_⟩
    refine lcmap_tup ((rs.map (·.1)).map V.int) (by simp [hl]) (by omega) hq hD (fun i x y H2 R Z hx hy s2 hR => ?_) (fun H2 s2 hL => ?_)
    · obtain ⟨r, hr1, pp, rfl, hrow⟩ := Paired.at pd hx
      have ey : y = .int r.1 := by
        rw [List.map_map, List.getElem?_map, hr1] at hy
        exact (Option.some.inj hy).symm
      subst ey
      exact ⟨pp, _, rfl, Same.sqT s2 hrow, rfl, _, _, rfl, _, _, rfl, rfl, rfl, yes_ok ⟨_, rfl, hR _ (Same.refl _)⟩⟩
    · refine ⟨_, rfl, D, a, _, _, rfl, .inl (.inl hL), s2.seq ha, by simp [hlen], fun H3 T ts s3 nT eT lt at3 => ?_⟩
      refine ⟨_, rfl, (by show 2 ≤ sizeLine; decide), fun p4 np4 => ?_⟩
      have s4 := same_upd (o := .tup [.ref T, bkV bk]) np4
      refine q _ _ ((s2.trans s3).trans s4) ⟨p4, _, rfl, .inl (.inl upd_same), T, ts.map V.ref, rfl, .inl (.inl (s4 _ _ eT)), ?_⟩
      rw [List.length_map, List.length_map] at lt
      refine paired_of (by rw [List.length_map, wh_len hlen, lt]) fun i x r hx hr => ?_
      rw [List.getElem?_map] at hx
      obtain ⟨t, ht, rfl⟩ := Option.map_eq_some_iff.mp hx
      have hi : i < rs.length := by
        have := (List.getElem?_eq_some_iff.mp ht).1
        omega
      have h1 := List.getElem?_eq_getElem hi
      have h2 : hs[i]? = some (hs[i]'(by omega)) := List.getElem?_eq_getElem (by omega)
      rw [wh_at h1 h2] at hr
      cases hr
      exact ⟨t, rfl, .inl (.inl (s4 _ _ (at3 i t _ _ ht (by rw [List.map_map, List.getElem?_map, h1]; rfl) (by rw [List.getElem?_map, h2]; rfl))))⟩
def sp_scaled_layer (K : PySem.W.Frag) : Sp := fun vs H Q _ => ∃ (v : V) (l : LY) (L m : Int), vs = [v, .int L, .int m] ∧ LyAt K H v l ∧ l.1.length ≤ 8 ∧ 0 < L ∧ L ≤ 1000 ∧ 1 ≤ m ∧ m ≤ 200 ∧ ∀ H' v', Same H H' → LyAt K H' v' (wh l.1 (scl (hds l.1) L m), l.2) → Q v' H'
theorem ok_scaled_layer {f : Addr} {fd : FuncData} (F : Fun K "scaled_layer" "scaled_layer" s_scaled_layer f fd) (T : Txt K mg) (D_layer_with : Cl P w K mg base 1 "layer_with" ["layer", "holds"] (sp_layer_with K)) (D_scaled : Cl P w K mg base 1 "scaled" ["numbers", "length", "many"] (sp_scaled K)) : FnOk P w K mg base CX0 2 f fd ["layer", "length", "many"] (sp_scaled_layer K) := by
  refine F.ok sc_scaled_layer (fun vs H Q E h => ?_) (fun cdv A outer s H vs Q E hr h => ?_)
  · obtain ⟨v, l, L, m, rfl, _⟩ := h
    rfl
  · obtain ⟨v, l, L, m, rfl, hly, r8, L0, L1, m1, m2, q⟩ := h
    obtain ⟨p, rv, rfl, hp, pr, us, rfl, hq, pd⟩ := id hly
    have hl := Paired.length pd
    refine ⟨_, (pss_one (ps_ret (pe_own D_layer_with (hr.mono (by omega)) (by rfl) (pa_cons (pv 0) (pa_cons (pe_own D_scaled (hr.mono (by omega)) (by rfl) (pa_cons (pe_lc (own := [("drawing", 3), ("hold", 4)]) (g := (gTup _ 2 (gCons (gName 3) (gCons (gName 4) gNil)))) (tt := tYes) (by rfl) sc_scaled_layer.nd (pi_tup (pe_ix ix_tup (pv 0) pe_int (fun _ _ => rfl))) (blkOk_by (own := [("drawing", 3), ("hold", 4)]) (N := ["layer", "length", "many", "drawing", "hold"]) (sc := defScope s_scaled_layer) (by decide +kernel)) (fun _ _ _ _ _ => (pg_tup (by rfl) (pgs_cons (pg_name (i := 3) sc_scaled_layer.nd rfl (Or.inl rfl)) (pgs_cons (pg_name (i := 4) sc_scaled_layer.nd rfl (Or.inl rfl)) pgs_nil)))) (fun _ _ _ _ _ => pts_nil) (fun _ _ _ _ _ => (pv 4))) (pa_cons (pv 1) (pa_cons (pv 2) pa_nil)))) pa_nil))))), ?_⟩
    refine ⟨_, rfl, _, rfl, p, _, 0, _, rfl, rfl, hp, rfl, pr, rfl, ⟨_, hq⟩, fun D hD => ?_⟩
    refine lcmap_tup ((hds l.1).map V.int) (by simp [hds_len, hl]) (by omega) hq hD (fun i x y H2 R Z hx hy s2 hR => ?_) (fun H2 s2 hL => ?_)
    · obtain ⟨r, hr1, pp, rfl, hrow⟩ := Paired.at pd hx
      have ey : y = .int r.2 := by
        unfold hds at hy
        rw [List.map_map, List.getElem?_map, hr1] at hy
        exact (Option.some.inj hy).symm
      subst ey
      exact ⟨pp, _, rfl, Same.sqT s2 hrow, rfl, _, _, rfl, _, _, rfl, rfl, rfl, yes_ok ⟨_, rfl, hR _ (Same.refl _)⟩⟩
    · refine ⟨_, rfl, _, rfl, D, _, L, m, rfl, .inl (.inl hL), by rw [hds_len]; exact r8, L0, L1, m1, m2, fun H3 S s3 nS eS => ?_⟩
      exact ⟨_, l, S, _, rfl, hly.keep (Same.tk (s2.trans s3)), r8, .inl (.inl eS), by rw [scl_len, hds_len], fun H4 v' s4 => q H4 v' ((s2.trans s3).trans s4)⟩
end

def flt (ls : List LY) : List Int := (ls.map fun l => hds l.1).flatten
theorem flt_snoc {ls : List LY} {i : Nat} {l : LY} (h : ls[i]? = some l) : flt (ls.take (i + 1)) = flt (ls.take i) ++ hds l.1 := by
  unfold flt
  rw [List.take_add_one, h, List.map_append, List.flatten_append]
  show _ ++ (hds l.1 ++ []) = _
  rw [List.append_nil]
theorem flt_len : ∀ {ls : List LY}, (∀ l ∈ ls, l.1.length ≤ 8) → (flt ls).length ≤ 8 * ls.length
  | [], _ => Nat.le_refl _
  | l :: ls, h => by
    have a := flt_len (ls := ls) fun z m => h z (List.mem_cons_of_mem _ m)
    have b := h l (by simp)
    show (hds l.1 ++ flt ls).length ≤ 8 * (ls.length + 1)
    rw [List.length_append, hds_len]
    omega
def TmEnd (K : PySem.W.Frag) (c : Nat → Addr) (l : LY) (H : Hp) (Q : VK) (E : XK) (H' : Hp) : TO → Prop
  | .en => E (.ref (c 8)) none H'
  | .sq => E (.ref (c 9)) none H'
  | .mn m => ∀ d, H d = none → H' d = some (.xd [("most", .int 24), ("many", .int m)]) → E (.ref (c 14)) (some d) H'
  | .ok hs => ∀ v, LyAt K H' v (wh l.1 hs, none) → Q v H'
section
variable {P : Program} {w : World} {K : PySem.W.Frag} {mg : Str → Option Value} {base : Heap}
def sp_need_fitting (K : PySem.W.Frag) (c : Nat → Addr) : Sp := fun vs H Q E => ∃ (pl pm : Addr) (us ws : List V) (ls : List LY) (ms : List MV), vs = [.ref pl, .ref pm] ∧ SqT K H pl us ∧ Paired (LyAt K H) us ls ∧ SqT K H pm ws ∧ Paired (MoveAt K H) ws ms ∧ ls.length ≤ 4 ∧ (∀ l ∈ ls, l.1.length ≤ 8) ∧ ms.length ≤ 8 ∧
  flt ls ++ ms.map (·.2.2) ≠ [] ∧ ((∃ h ∈ flt ls, h < 1) → ∀ H', Same H H' → E (.ref (c 9)) none H') ∧
  ((∀ h ∈ flt ls, 1 ≤ h) → ∀ M ∈ flt ls ++ ms.map (·.2.2), (∀ h ∈ flt ls ++ ms.map (·.2.2), h ≤ M) → (M ≤ 24 → ∀ H', Same H H' → Q .non H') ∧
    (24 < M → ∀ H' d, Same H H' → H d = none → H' d = some (.xd [("most", .int 24), ("many", .int M)]) → E (.ref (c 14)) (some d) H'))
theorem ok_need_fitting {f : Addr} {fd : FuncData} {c : Nat → Addr} {LE : Addr} (F : Fun K "need_fitting" "need_fitting" s_need_fitting f fd) (T : Txt K mg) (TX : ExcN K mg c LE) (D_need_at_most : ClX P w K mg base 3 "need_at_most" ["many", "most"] (sp_need_at_most K c)) : FnOk P w K mg base (L2.CX P w) 4 f fd ["layers", "moves"] (sp_need_fitting K c) := by
  refine F.okX sc_need_fitting (fun vs H Q E h => ?_) (fun cdv A outer s H vs Q E hr h => ?_)
  · obtain ⟨pl, pm, us, ws, ls, ms, rfl, _⟩ := h
    rfl
  · obtain ⟨pl, pm, us, ws, ls, ms, rfl, hq, pd, hm, pm', l4, l8, m8, ne, q1, q2⟩ := h
    have hl := Paired.length pd
    have hlm := Paired.length pm'
    have fl : ∀ i, (flt (ls.take i)).length ≤ 32 := fun i => by
      have := flt_len (ls := ls.take i) fun l m => l8 l (List.mem_of_mem_take m)
      rw [List.length_take] at this
      omega
    refine ⟨_, (pss_cons (ps_setLc2 (i := 2) (own := [("rows", 3), ("back", 4), ("drawing", 5), ("hold", 6)]) (vs1 := [5, 6]) (g := (gTup _ 2 (gCons (gName 3) (gCons (gName 4) gNil)))) (g1 := (gTup _ 2 (gCons (gName 5) (gCons (gName 6) gNil)))) (tt := tYes) (tt1 := tYes) (by rfl) sc_need_fitting.nd rfl rfl (sw_true rfl rfl rfl (by decide +kernel)) (pi_tup (pv 0)) (blkOk_by (own := [("rows", 3), ("back", 4), ("drawing", 5), ("hold", 6)]) (N := ["layers", "moves", "holds", "rows", "back", "drawing", "hold", "x", "y", "pictures"]) (sc := defScope s_need_fitting) (by decide +kernel)) (by decide) (fun _ _ _ _ _ => (pg_tup (by rfl) (pgs_cons (pg_name (i := 3) sc_need_fitting.nd rfl (Or.inl rfl)) (pgs_cons (pg_name (i := 4) sc_need_fitting.nd rfl (Or.inl rfl)) pgs_nil)))) (fun _ _ _ _ _ => pts_nil) (fun _ _ _ _ _ => (pi_tupK (K := K) (pv 3))) (fun _ _ _ _ _ => (pg_tup (by rfl) (pgs_cons (pg_name (i := 5) sc_need_fitting.nd rfl (Or.inl rfl)) (pgs_cons (pg_name (i := 6) sc_need_fitting.nd rfl (Or.inl rfl)) pgs_nil)))) (fun _ _ _ _ _ => pts_nil) (fun _ _ _ _ _ => (pv 6)))
      (pss_cons (ps_if (pt_val (pe_callB (cr_any rfl) (by rfl) T.b_any (by decide +kernel) (pa_cons (pe_lc (own := [("hold", 6)]) (g := (gName 6)) (tt := tYes) (by rfl) sc_need_fitting.nd (pi_list (pv 2)) (blkOk_by (own := [("hold", 6)]) (N := ["layers", "moves", "holds", "rows", "back", "drawing", "hold", "x", "y", "pictures"]) (sc := defScope s_need_fitting) (by decide +kernel)) (fun _ _ _ _ _ => (pg_name (i := 6) sc_need_fitting.nd rfl (Or.inl rfl))) (fun _ _ _ _ _ => pts_nil) (fun _ _ _ _ _ => (pe_cmpR op_lt (pv 6) pe_int (nomark _)))) pa_nil))) (pss_one (ps_raise rfl (takes_of rfl rfl rfl rfl) (pmk_own PySem.F.excBase_ValueError (TX.nw 9 (by decide)) (TX.g 9 "Squeezed" rfl) (TX.kp 9 (by decide)) (TX.rs (i := 9) (by decide)) rfl))) pss_nil)
      (pss_one (ps_expr (pe_ownX D_need_at_most (hr.mono (by omega)) (takes_of rfl rfl rfl rfl) (by rfl) (pa_cons (pe_callB (cr_max rfl) (by rfl) T.b_max (by decide +kernel) (pa_cons (pe_op op_cat (pv 2) (pe_lc (own := [("x", 7), ("y", 8), ("pictures", 9)]) (g := (gTup _ 3 (gCons (gName 7) (gCons (gName 8) (gCons (gName 9) gNil))))) (tt := tYes) (by rfl) sc_need_fitting.nd (pi_tup (pv 1)) (blkOk_by (own := [("x", 7), ("y", 8), ("pictures", 9)]) (N := ["layers", "moves", "holds", "rows", "back", "drawing", "hold", "x", "y", "pictures"]) (sc := defScope s_need_fitting) (by decide +kernel)) (fun _ _ _ _ _ => (pg_tup (by rfl) (pgs_cons (pg_name (i := 7) sc_need_fitting.nd rfl (Or.inl rfl)) (pgs_cons (pg_name (i := 8) sc_need_fitting.nd rfl (Or.inl rfl)) (pgs_cons (pg_name (i := 9) sc_need_fitting.nd rfl (Or.inl rfl)) pgs_nil))))) (fun _ _ _ _ _ => pts_nil) (fun _ _ _ _ _ => (pv 9)))) pa_nil)) (pa_cons (pe_gint (by rfl) T.c_MOST_HOLD) pa_nil))))))), ?_⟩
    refine ⟨_, rfl, pl, rfl, ⟨_, hq⟩, fun D hD => ?_⟩
    refine wk_tup (K := K) (a := pl) (xs := us) (fun i H' => Same H H' ∧ H' D = some (.lst ((flt (ls.take i)).map V.int))) ⟨same_upd hD, upd_same⟩ (fun i H' _ z => Same.sqT z.1 hq) (fun i x H1 hx p1 => ?_) (fun H1 p1 => ?_)
    · obtain ⟨s1, e1⟩ := p1
      obtain ⟨l, hl1, p, rv, rfl, hp, pr, vs, rfl, hqr, pdr⟩ := Paired.at pd hx
      have hlr := Paired.length pdr
      have r8 := l8 l (List.mem_of_getElem? hl1)
      refine ⟨p, _, rfl, Same.sqT s1 hp, rfl, _, _, rfl, _, _, rfl, rfl, rfl, yes_ok2 ?_⟩
      refine ⟨_, rfl, pr, rfl, ⟨_, Same.sqT s1 hqr⟩, ?_⟩
      refine wk_tup (K := K) (a := pr) (xs := vs) (fun j H' => Same H H' ∧ H' D = some (.lst ((flt (ls.take i) ++ (hds l.1).take j).map V.int))) ⟨s1, by rw [List.take_zero, List.append_nil]; exact e1⟩ (fun j H' _ z => Same.sqT z.1 hqr) (fun j x H2 hx2 p2 => ?_) (fun H2 p2 => ?_)
      · obtain ⟨s2, e2⟩ := p2
        obtain ⟨r, hr1, pp, rfl, hrow⟩ := Paired.at pdr hx2
        have hj : j < l.1.length := (List.getElem?_eq_some_iff.mp hr1).1
        refine ⟨pp, _, rfl, Same.sqT s2 hrow, rfl, _, _, rfl, _, _, rfl, rfl, rfl, yes_ok ⟨_, rfl, _, e2, ?_, fun b o e => ?_, ?_⟩⟩
        · rw [List.length_map, List.length_append, List.length_take]
          have := fl i
          exact small1000 (by omega)
        · rw [upd_ne (ne_of_none e hD)]
          exact s2 _ _ e
        · have hh : (hds l.1)[j]? = some r.2 := by
            unfold hds
            rw [List.getElem?_map, hr1]
            rfl
          rw [upd_same, List.take_add_one, hh, ← List.append_assoc, List.map_append (l₂ := (some r.2).toList)]
          rfl
      · obtain ⟨s2, e2⟩ := p2
        refine ⟨s2, ?_⟩
        rw [e2, flt_snoc hl1, List.take_of_length_le (show (hds l.1).length ≤ vs.length by rw [hds_len]; omega)]
    obtain ⟨s1, e1⟩ := p1
    have fl1 := fl us.length
    rw [List.take_of_length_le (by omega)] at e1 fl1
    refine ⟨_, rfl, D, rfl, ⟨_, .inl (.inl e1)⟩, fun B hB => ?_⟩
    refine lc_list (K := K) (a := D) (xs := (flt ls).map V.int) (fun i H' => Same H1 H' ∧ H' B = some (.lst ((((flt ls).take i).map fun h => decide (h < 1)).map V.bl))) ⟨same_upd hB, upd_same⟩ (fun i H' _ z => .inl (.inl (z.1 _ _ e1))) (fun i u H2 hu p2 => ?_) (fun H2 p2 => ?_)
    · obtain ⟨s2, e2⟩ := p2
      rw [List.getElem?_map] at hu
      obtain ⟨z, hz, rfl⟩ := Option.map_eq_some_iff.mp hu
      have hi : i < (flt ls).length := (List.getElem?_eq_some_iff.mp hz).1
      refine ⟨rfl, yes_ok ⟨_, rfl, _, _, rfl, rfl, _, e2, ?_, fun b o e => ?_, ?_⟩⟩
      · rw [List.length_map, List.length_map, List.length_take]
        exact small1000 (by omega)
      · rw [upd_ne (ne_of_none e hB)]
        exact s2 _ _ e
      · rw [upd_same, List.take_add_one, hz, List.map_append, List.map_append]
        rfl
    obtain ⟨s2, e2⟩ := p2
    rw [List.length_map, List.take_length] at e2
    have s02 := s1.trans s2
    refine ⟨B, _, rfl, .inl (.inl e2), _, rfl, ite2 (fun e => ?_) (fun e => ?_)⟩
    · refine q1 ?_ _ s02
      obtain ⟨b, hb, eb⟩ := List.any_eq_true.mp e
      obtain ⟨h, hh, rfl⟩ := List.mem_map.mp hb
      exact ⟨h, hh, of_decide_eq_true eb⟩
    · have all : ∀ h ∈ flt ls, 1 ≤ h := fun h hh => by
        have : ¬ h < 1 := fun z => e (List.any_eq_true.mpr ⟨_, List.mem_map.mpr ⟨h, hh, rfl⟩, decide_eq_true z⟩)
        omega
      have e12 := s2 _ _ e1
      refine ⟨_, rfl, _, rfl, pm, rfl, ⟨_, Same.sqT s02 hm⟩, fun G hG => ?_⟩
      refine lcmap_tup ((ms.map (·.2.2)).map V.int) (by simp [hlm]) (by omega) (Same.sqT s02 hm) hG (fun i x y H3 R Z hx hy s3 hR => ?_) (fun H3 s3 hL => ?_)
      · obtain ⟨m, hm1, pw, rfl, hrow⟩ := Paired.at pm' hx
        have ey : y = .int m.2.2 := by
          rw [List.map_map, List.getElem?_map, hm1] at hy
          exact (Option.some.inj hy).symm
        subst ey
        exact ⟨pw, _, rfl, Same.sqT (s02.trans s3) hrow, rfl, _, _, rfl, _, _, rfl, _, _, rfl, rfl, rfl, yes_ok ⟨_, rfl, hR _ (Same.refl _)⟩⟩
      · refine ⟨D, G, _, _, rfl, rfl, s3 _ _ e12, hL, ?_, fun p5 np5 => ?_⟩
        · rw [List.length_map, List.length_map, List.length_map]
          exact Nat.le_of_lt (small1000 (by omega))
        have s5 := same_upd (o := .lst ((flt ls).map V.int ++ (ms.map (·.2.2)).map V.int)) np5
        refine ⟨p5, flt ls ++ ms.map (·.2.2), rfl, .inl (.inl ?_), List.length_pos_iff.mpr ne, fun M hM gM => ?_⟩
        · rw [upd_same, List.map_append]
        · have s05 := (s02.trans s3).trans s5
          obtain ⟨qa, qb⟩ := q2 all M hM gM
          exact ⟨M, 24, rfl, fun le => qa le _ s05, fun lt H' d s' nd ed => qb lt H' d (s05.trans s') (s05.free nd) ed⟩
/-- the fitting of one layer -/
theorem fit_one {c : Nat → Addr} {H Hx : Hp} {Q : VK} {E : XK} {l : LY} {hs : List Int} {v : V} {Q' : VK} {E' : XK} (hE : ∀ cls d H', E cls d H' → E' cls d H') (sx : Same H Hx) (hv : LyAt K Hx v (wh l.1 hs, none)) (r8 : l.1.length ≤ 8) (hlen : hs.length = l.1.length) (ne : hs ≠ [])
    (q : ∀ o H', IsTo none hs o → Same H H' → TmEnd K c l H Q E H' o) (fin : ∀ H', Same Hx H' → ∀ u, Q v H' → Q' u H') : ∀ pl pm : Addr, ∀ H2, Same Hx H2 → H2 pl = some (.tup [v]) → H2 pm = some (.tup []) → sp_need_fitting K c [.ref pl, .ref pm] H2 Q' E' := fun pl pm H2 s2 e1 e2 => by
  have ef : flt [(wh l.1 hs, (none : Option Int))] = hs := by
    show hds (wh l.1 hs) ++ [] = hs
    rw [List.append_nil, hds_wh hlen]
  have s02 := sx.trans s2
  refine ⟨pl, pm, [v], [], [(wh l.1 hs, none)], [], rfl, .inl (.inl e1), .cons (hv.keep (Same.tk s2)) .nil, .inl (.inl e2), .nil, (by show 1 ≤ 4; decide), fun z hz => ?_, Nat.zero_le _, ?_, fun hx H' s' => ?_, fun all M hM gM => ?_⟩
  · rw [List.mem_singleton.mp hz]
    show (wh l.1 hs).length ≤ 8
    rw [wh_len hlen]
    exact r8
  · rw [ef, List.map_nil, List.append_nil]
    exact ne
  · rw [ef] at hx
    exact hE _ _ _ (q .sq H' (.inr (.inl ⟨rfl, .inr hx, rfl⟩)) (s02.trans s'))
  · rw [ef] at all
    rw [ef, List.map_nil, List.append_nil] at hM gM
    refine ⟨fun le H' s' => ?_, fun lt H' d s' nd ed => ?_⟩
    · exact fin H' (s2.trans s') _ (q (.ok hs) H' (.inr (.inr ⟨rfl, ne, all, M, hM, gM, .inr ⟨le, rfl⟩⟩)) (s02.trans s') v (hv.keep (Same.tk (s2.trans s'))))
    · exact hE _ _ _ (q (.mn M) H' (.inr (.inr ⟨rfl, ne, all, M, hM, gM, .inl ⟨lt, rfl⟩⟩)) (s02.trans s') d (s02.free nd) ed)
def sp_evened (K : PySem.W.Frag) (c : Nat → Addr) : Sp := fun vs H Q E => ∃ (v : V) (l : LY) (m : Int), vs = [v, .int m] ∧ LyAt K H v l ∧ VLy l ∧ 1 ≤ m ∧ m ≤ 200 ∧ ∀ o H', IsTo l.2 (evs l.1.length m) o → Same H H' → TmEnd K c l H Q E H' o
theorem ok_evened {f : Addr} {fd : FuncData} {c : Nat → Addr} {LE : Addr} (F : Fun K "evened" "evened" s_evened f fd) (T : Txt K mg) (TX : ExcN K mg c LE) (D_need_layer : Cl P w K mg base 6 "need_layer" ["thing"] (sp_need_layer K)) (D_need_time : ClX P w K mg base 4 "need_time" ["length", "many"] (sp_need_time K c)) (D_length_of : Cl P w K mg base 2 "length_of" ["layer"] (sp_length_of K)) (D_layer_with : Cl P w K mg base 1 "layer_with" ["layer", "holds"] (sp_layer_with K)) (D_even_holds : Cl P w K mg base 1 "even_holds" ["parts", "many"] (sp_even_holds K)) (D_need_fitting : ClX P w K mg base 4 "need_fitting" ["layers", "moves"] (sp_need_fitting K c)) : FnOk P w K mg base (L2.CX P w) 7 f fd ["layer", "many"] (sp_evened K c) := by
  refine F.okX sc_evened (fun vs H Q E h => ?_) (fun cdv A outer s H vs Q E hr h => ?_)
  · obtain ⟨v, l, m, rfl, _⟩ := h
    rfl
  · obtain ⟨v, ⟨rs, bk⟩, m, rfl, hly, vl, m1, m2, q⟩ := h
    have r8 := vl.1.1
    have tb := tot_nonneg vl.1.2
    dsimp only at q r8 tb
    refine ⟨_, (pss_cons (ps_expr (pe_own D_need_layer (hr.mono (by omega)) (by rfl) (pa_cons (pv 0) pa_nil)))
      (pss_cons (ps_expr (pe_ownX D_need_time (hr.mono (by omega)) (takes_of rfl rfl rfl rfl) (by rfl) (pa_cons (pe_own D_length_of (hr.mono (by omega)) (by rfl) (pa_cons (pv 0) pa_nil)) (pa_cons (pv 1) pa_nil))))
      (pss_cons (ps_set (i := 2) sc_evened.nd rfl (Or.inl rfl) (pe_own D_layer_with (hr.mono (by omega)) (by rfl) (pa_cons (pv 0) (pa_cons (pe_own D_even_holds (hr.mono (by omega)) (by rfl) (pa_cons (pe_callB call_len_seq (by rfl) T.b_len (by decide +kernel) (pa_cons (pe_ix ix_tup (pv 0) pe_int (fun _ _ => rfl)) pa_nil)) (pa_cons (pv 1) pa_nil))) pa_nil))))
      (pss_cons (ps_expr (pe_ownX D_need_fitting (hr.mono (by omega)) (takes_of rfl rfl rfl rfl) (by rfl) (pa_cons (pe_tup (pa_cons (pv 2) pa_nil)) (pa_cons (pe_tup pa_nil) pa_nil))))
      (pss_one (ps_ret (pv 2))))))), ?_⟩
    refine ⟨_, rfl, v, rs, bk, rfl, hly, vl.1, vl.2, fun H1 s1 => ?_⟩
    refine ⟨_, rfl, v, (rs, bk), rfl, hly.keep (Same.tk s1), vl, fun H2 s2 => ?_⟩
    have s12 := s1.trans s2
    refine ⟨_, rfl, lenL (rs, bk), m, rfl, m1, m2, fun i ei ni => ?_, fun en => ?_, fun e0 => ?_⟩
    · cases bk with
      | some b => cases ei
      | none =>
      have et : tot rs = i := Option.some.inj ei
      have hne : rs ≠ [] := fun z => by
        rw [z] at et
        exact ni et.symm
      have hly2 := hly.keep (Same.tk s12)
      obtain ⟨p, rv, rfl, hp, pr, us, rfl, hq, pd⟩ := id hly2
      have hl := Paired.length pd
      refine ⟨_, rfl, _, rfl, p, _, 0, _, rfl, rfl, hp, rfl, pr, us, rfl, .inr hq, _, rfl, rs.length, m, ?_, r8, fun H3 D s3 nD eD => ?_⟩
      · rw [hl]
        rfl
      refine ⟨.ref p, (rs, none), D, evs rs.length m, rfl, hly2.keep (Same.tk s3), r8, .inl (.inl eD), evs_len _ _, fun H4 v' s4 hv' => ?_⟩
      refine ⟨_, rfl, (by show 1 ≤ sizeLine; decide), fun p5 np5 => ⟨Nat.zero_le _, fun p6 np6 => ?_⟩⟩
      have s5 := same_upd (o := .tup [v']) np5
      have s6 := same_upd (o := .tup []) np6
      dsimp only [tNil]
      refine fit_one (l := (rs, none)) (hs := evs rs.length m) (v := v') (fun _ _ _ h => h) ((s12.trans s3).trans s4) hv' r8 (evs_len _ _) ?ne q (fun H' s' u hQ => ?fin) p5 p6 _ (s5.trans s6) (s6 _ _ upd_same) upd_same
      case fin => exact ⟨_, rfl, hQ⟩
      intro z
      have := evs_len rs.length m
      rw [z] at this
      exact hne (List.length_eq_zero_iff.mp this.symm)
    · cases bk with
      | some b => exact q .en _ (.inl ⟨by simp, rfl⟩) s12
      | none => cases en
    · cases bk with
      | some b => cases e0
      | none =>
      have et : tot rs = 0 := Option.some.inj e0
      have hn : rs.length = 0 := by omega
      refine q .sq _ (.inr (.inl ⟨rfl, .inl ?_, rfl⟩)) s12
      rw [hn]
      rfl
def sp_retimed (K : PySem.W.Frag) (c : Nat → Addr) : Sp := fun vs H Q E => ∃ (v : V) (l : LY) (m : Int), vs = [v, .int m] ∧ LyAt K H v l ∧ VLy l ∧ 1 ≤ m ∧ m ≤ 200 ∧ ∀ o H', IsTo l.2 (scl (hds l.1) (tot l.1) m) o → Same H H' → TmEnd K c l H Q E H' o
theorem ok_retimed {f : Addr} {fd : FuncData} {c : Nat → Addr} {LE : Addr} (F : Fun K "retimed" "retimed" s_retimed f fd) (T : Txt K mg) (TX : ExcN K mg c LE) (D_need_layer : Cl P w K mg base 6 "need_layer" ["thing"] (sp_need_layer K)) (D_length_of : Cl P w K mg base 2 "length_of" ["layer"] (sp_length_of K)) (D_need_time : ClX P w K mg base 4 "need_time" ["length", "many"] (sp_need_time K c)) (D_scaled_layer : Cl P w K mg base 2 "scaled_layer" ["layer", "length", "many"] (sp_scaled_layer K)) (D_need_fitting : ClX P w K mg base 4 "need_fitting" ["layers", "moves"] (sp_need_fitting K c)) : FnOk P w K mg base (L2.CX P w) 7 f fd ["layer", "many"] (sp_retimed K c) := by
  refine F.okX sc_retimed (fun vs H Q E h => ?_) (fun cdv A outer s H vs Q E hr h => ?_)
  · obtain ⟨v, l, m, rfl, _⟩ := h
    rfl
  · obtain ⟨v, ⟨rs, bk⟩, m, rfl, hly, vl, m1, m2, q⟩ := h
    have r8 := vl.1.1
    have tb := tot_nonneg vl.1.2
    dsimp only at q r8 tb
    refine ⟨_, (pss_cons (ps_expr (pe_own D_need_layer (hr.mono (by omega)) (by rfl) (pa_cons (pv 0) pa_nil)))
      (pss_cons (ps_set (i := 2) sc_retimed.nd rfl (Or.inl rfl) (pe_own D_length_of (hr.mono (by omega)) (by rfl) (pa_cons (pv 0) pa_nil)))
      (pss_cons (ps_expr (pe_ownX D_need_time (hr.mono (by omega)) (takes_of rfl rfl rfl rfl) (by rfl) (pa_cons (pv 2) (pa_cons (pv 1) pa_nil))))
      (pss_cons (ps_set (i := 3) sc_retimed.nd rfl (Or.inl rfl) (pe_own D_scaled_layer (hr.mono (by omega)) (by rfl) (pa_cons (pv 0) (pa_cons (pv 2) (pa_cons (pv 1) pa_nil)))))
      (pss_cons (ps_expr (pe_ownX D_need_fitting (hr.mono (by omega)) (takes_of rfl rfl rfl rfl) (by rfl) (pa_cons (pe_tup (pa_cons (pv 3) pa_nil)) (pa_cons (pe_tup pa_nil) pa_nil))))
      (pss_one (ps_ret (pv 3)))))))), ?_⟩
    refine ⟨_, rfl, v, rs, bk, rfl, hly, vl.1, vl.2, fun H1 s1 => ?_⟩
    refine ⟨_, rfl, v, (rs, bk), rfl, hly.keep (Same.tk s1), vl, fun H2 s2 => ?_⟩
    have s12 := s1.trans s2
    refine ⟨_, rfl, _, rfl, lenL (rs, bk), m, rfl, m1, m2, fun i ei ni => ?_, fun en => ?_, fun e0 => ?_⟩
    · cases bk with
      | some b => cases ei
      | none =>
      have et : tot rs = i := Option.some.inj ei
      have hne : rs ≠ [] := fun z => by
        rw [z] at et
        exact ni et.symm
      have hlen : (scl (hds rs) (tot rs) m).length = rs.length := by rw [scl_len, hds_len]
      refine ⟨_, rfl, _, rfl, _, rfl, v, (rs, none), tot rs, m, rfl, hly.keep (Same.tk s12), r8, by omega, by omega, m1, m2, fun H4 v' s4 hv' => ?_⟩
      refine ⟨_, rfl, (by show 1 ≤ sizeLine; decide), fun p5 np5 => ⟨Nat.zero_le _, fun p6 np6 => ?_⟩⟩
      have s5 := same_upd (o := .tup [v']) np5
      have s6 := same_upd (o := .tup []) np6
      dsimp only [tNil]
      refine fit_one (l := (rs, none)) (hs := scl (hds rs) (tot rs) m) (v := v') (fun _ _ _ h => h) (s12.trans s4) hv' r8 hlen ?ne q (fun H' s' u hQ => ?fin) p5 p6 _ (s5.trans s6) (s6 _ _ upd_same) upd_same
      case fin => exact ⟨_, rfl, hQ⟩
      intro z
      rw [z] at hlen
      exact hne (List.length_eq_zero_iff.mp hlen.symm)
    · cases bk with
      | some b => exact q .en _ (.inl ⟨by simp, rfl⟩) s12
      | none => cases en
    · cases bk with
      | some b => cases e0
      | none =>
      have et : tot rs = 0 := Option.some.inj e0
      have hn : rs = [] := List.length_eq_zero_iff.mp (by omega)
      refine q .sq _ (.inr (.inl ⟨rfl, .inl ?_, rfl⟩)) s12
      rw [hn]
      rfl
end

section
variable {P : Program} {w : World} {K : PySem.W.Frag} {mg : Str → Option Value} {base : Heap}
def sp__law_cell_at (K : PySem.W.Frag) : Sp := fun vs H Q _ => ∃ (a : Addr) (ns : List Int) (k : Int), vs = [.ref a, .int k] ∧ SqL K H a (ns.map V.int) ∧ 0 ≤ k ∧ ∀ c, Q (.int c) H
theorem ok__law_cell_at {f : Addr} {fd : FuncData} (F : Fun K "_law_cell_at" "_law_cell_at" s__law_cell_at f fd) (T : Txt K mg) : FnOk P w K mg base CX0 1 f fd ["_law_script", "_law_k"] (sp__law_cell_at K) := by
  refine F.ok sc__law_cell_at (fun vs H Q E h => ?_) (fun cdv A outer s H vs Q E hr h => ?_)
  · obtain ⟨a, ns, k, rfl, _⟩ := h
    rfl
  · obtain ⟨a, ns, k, rfl, hS, hk, q⟩ := h
    refine ⟨_, (pss_cons (ps_if (pt_cmpR op_lt (pv 1) (pe_callB call_len_seq (by rfl) T.b_len (by decide +kernel) (pa_cons (pv 0) pa_nil)) (nomark _)) (pss_one (ps_ret (pe_ix ix_list (pv 0) (pv 1) (fun _ _ => rfl)))) pss_nil)
      (pss_one (ps_ret pe_int))), ?_⟩
    refine ⟨_, rfl, _, rfl, a, _, rfl, .inl hS, k, _, rfl, rfl, _, rfl, ite2 (fun e => ?_) (fun _ => q 0)⟩
    have e1 : k < ((ns.map V.int).length : Int) := of_decide_eq_true e
    rw [List.length_map] at e1
    have hj : k.toNat < ns.length := by omega
    have g : (ns.map V.int)[k.toNat]? = some (.int ns[k.toNat]) := by
      rw [List.getElem?_map, List.getElem?_eq_getElem hj]
      rfl
    exact ⟨_, rfl, _, rfl, a, _, k, _, rfl, rfl, hS, at_of (j := k.toNat) (by omega) g, q _⟩
def sp__law_state (K : PySem.W.Frag) : Sp := fun vs H Q _ => ∃ (a : Addr) (ns : List Int) (k : Int), vs = [.ref a, .int k] ∧ SqL K H a (ns.map V.int) ∧ 0 ≤ k ∧ ∀ H' p, Same H H' → H p = none → IsSx H' p → Q (.ref p) H'
theorem ok__law_state {f : Addr} {fd : FuncData} (F : Fun K "_law_state" "_law_state" s__law_state f fd) (T : Txt K mg) (D__law_cell_at : Cl P w K mg base 1 "_law_cell_at" ["_law_script", "_law_k"] (sp__law_cell_at K)) : FnOk P w K mg base CX0 2 f fd ["_law_script", "_law_k"] (sp__law_state K) := by
  refine F.ok sc__law_state (fun vs H Q E h => ?_) (fun cdv A outer s H vs Q E hr h => ?_)
  · obtain ⟨a, ns, k, rfl, _⟩ := h
    rfl
  · obtain ⟨a, ns, k, rfl, hS, hk, q⟩ := h
    refine ⟨_, (pss_cons (ps_set (i := 2) sc__law_state.nd rfl (Or.inl rfl) (pe_own D__law_cell_at (hr.mono (by omega)) (by rfl) (pa_cons (pv 0) (pa_cons (pv 1) pa_nil))))
      (pss_cons (ps_if (pt_cmpR op_ge (pv 2) (pe_op op_pow pe_int pe_int) (nomark _)) (pss_one (ps_ret (pe_lst (pa_cons (pe_op op_sub (pv 2) (pe_op op_pow pe_int pe_int)) (pa_cons pe_bl pa_nil))))) pss_nil)
      (pss_one (ps_ret (pe_lst (pa_cons (pe_op op_modN (pv 2) pe_int) (pa_cons pe_bl pa_nil))))))), ?_⟩
    refine ⟨_, rfl, _, rfl, a, ns, k, rfl, hS, hk, fun c => ?_⟩
    refine ⟨_, rfl, 10, 18, rfl, rfl, ⟨by decide, by decide, by decide⟩, _, _, rfl, rfl, _, rfl, ite2 (fun e => ?_) (fun e => ?_)⟩
    · have e1 := of_decide_eq_true e
      refine ⟨_, rfl, 10, 18, rfl, rfl, ⟨by decide, by decide, by decide⟩, _, _, rfl, rfl, (by show 2 ≤ sizeLine; decide), fun p np => ?_⟩
      exact q _ p (same_upd np) np ⟨_, _, upd_same, by omega, fun z => Bool.noConfusion z⟩
    · refine ⟨_, rfl, _, _, rfl, rfl, (by show (2147483647 : Int) ≠ 0; decide), (by show 2 ≤ sizeLine; decide), fun p np => ?_⟩
      exact q _ p (same_upd np) np ⟨_, _, upd_same, (fm (by decide)).1, fun _ => (fm (by decide)).2⟩
def sp__law_take (K : PySem.W.Frag) : Sp := fun vs H Q _ => ∃ (st : Addr) (n : Int), vs = [.ref st, .int n] ∧ IsSx H st ∧ 0 < n ∧ n < 1073741824 ∧ ∀ r H', 0 ≤ r → r < n → Gx st H H' → Q (.int r) H'
theorem ok__law_take {f : Addr} {fd : FuncData} (F : Fun K "_law_take" "_law_take" s__law_take f fd) (T : Txt K mg) : FnOk P w K mg base CX0 1 f fd ["_law_state_here", "_law_many"] (sp__law_take K) := by
  refine F.ok sc__law_take (fun vs H Q E h => ?_) (fun cdv A outer s H vs Q E hr h => ?_)
  · obtain ⟨st, n, rfl, _⟩ := h
    rfl
  · obtain ⟨st, n, rfl, ⟨a, b, hs, ha, hb⟩, n0, n1, q⟩ := h
    refine ⟨_, (pss_cons (ps_if (pt_val (pe_ix ix_list (pv 0) pe_int (fun _ _ => rfl))) (pss_cons (ps_set (i := 2) sc__law_take.nd rfl (Or.inl rfl) (pe_op op_modN (pe_ix ix_list (pv 0) pe_int (fun _ _ => rfl)) (pv 1)))
      (pss_cons (ps_asg (pe_op op_fdivN (pe_ix ix_list (pv 0) pe_int (fun _ _ => rfl)) (pv 1)) (pg_sub (pv 0) pe_int set_list))
      (pss_one (ps_ret (pv 2))))) pss_nil)
      (pss_cons (ps_asg (pe_op op_modN (pe_op op_add (pe_op op_mul (pe_ix ix_list (pv 0) pe_int (fun _ _ => rfl)) pe_int) pe_int) pe_int) (pg_sub (pv 0) pe_int set_list))
      (pss_cons (ps_set (i := 3) sc__law_take.nd rfl (Or.inl rfl) (pe_op op_modN (pe_op op_add (pe_op op_add (pe_op op_mul (pe_ix ix_list (pv 0) pe_int (fun _ _ => rfl)) (pe_ix ix_list (pv 0) pe_int (fun _ _ => rfl))) (pe_op op_mul pe_int (pe_ix ix_list (pv 0) pe_int (fun _ _ => rfl)))) pe_int) pe_int))
      (pss_cons (ps_set (i := 3) sc__law_take.nd rfl (Or.inl rfl) (pe_op op_modN (pe_op op_add (pe_op op_mul (pv 3) (pv 3)) (pe_op op_mul pe_int (pv 3))) pe_int))
      (pss_one (ps_ret (pe_op op_modN (pe_op op_fdivN (pv 3) pe_int) (pv 1)))))))), ?_⟩
    refine ⟨_, rfl, st, _, 1, _, rfl, rfl, .inl (.inl hs), rfl, b, rfl, ?_⟩
    cases b with
    | true =>
      refine iteT ?_
      refine ⟨_, rfl, st, _, 0, _, rfl, rfl, .inl (.inl hs), rfl, _, rfl, a, n, rfl, rfl, by omega, ?_⟩
      refine ⟨_, rfl, st, _, 0, _, rfl, rfl, .inl (.inl hs), rfl, _, rfl, a, n, rfl, rfl, ⟨by omega, by omega⟩, _, rfl, st, _, 0, 0, rfl, rfl, hs, rfl, ?_⟩
      refine ⟨_, rfl, q _ _ (fm n0).1 (fm n0).2 (gx_set hs ?_ (fun z => Bool.noConfusion z))⟩
      rw [Int.fdiv_eq_ediv_of_nonneg _ (by omega)]
      exact Int.ediv_nonneg ha (by omega)
    | false =>
      have hb1 := hb rfl
      refine iteF ?_
      refine ⟨_, rfl, st, _, 0, _, rfl, rfl, .inl (.inl hs), rfl, a, 48271, rfl, rfl, .inl ⟨by omega, by omega⟩, _, _, rfl, rfl, _, _, rfl, rfl, (by show (2147483647 : Int) ≠ 0; decide), _, rfl, st, _, 0, 0, rfl, rfl, hs, rfl, ?_⟩
      dsimp only
      have f1 := fm (x := a * 48271 + 29) (m := 2147483647) (by decide)
      generalize (a * 48271 + 29).fmod 2147483647 = b1 at f1 ⊢
      obtain ⟨f1a, f1b⟩ := f1
      have hs1 : (upd H st (.lst [.int b1, .bl false])) st = some (.lst [.int b1, .bl false]) := upd_same
      refine ⟨_, rfl, st, _, 0, _, rfl, rfl, .inl (.inl hs1), rfl, _, rfl, st, _, 0, _, rfl, rfl, .inl (.inl hs1), rfl, b1, b1, rfl, rfl, .inl ⟨by omega, by omega⟩, _, rfl, st, _, 0, _, rfl, rfl, .inl (.inl hs1), rfl, 39373, b1, rfl, rfl, .inl ⟨by decide, by decide⟩, _, _, rfl, rfl, _, _, rfl, rfl, _, _, rfl, rfl, (by show (2147483629 : Int) ≠ 0; decide), ?_⟩
      dsimp only
      have f2 := fm (x := b1 * b1 + 39373 * b1 + 7) (m := 2147483629) (by decide)
      generalize (b1 * b1 + 39373 * b1 + 7).fmod 2147483629 = b2 at f2 ⊢
      obtain ⟨f2a, f2b⟩ := f2
      refine ⟨_, rfl, _, rfl, b2, b2, rfl, rfl, .inl ⟨by omega, by omega⟩, _, rfl, 16807, b2, rfl, rfl, .inl ⟨by decide, by decide⟩, _, _, rfl, rfl, _, _, rfl, rfl, (by show (2147483587 : Int) ≠ 0; decide), ?_⟩
      dsimp only
      generalize (b2 * b2 + 16807 * b2).fmod 2147483587 = b3
      refine ⟨_, rfl, b3, 8, rfl, rfl, ⟨by decide, by decide⟩, _, rfl, _, n, rfl, rfl, by omega, ?_⟩
      exact q _ _ (fm n0).1 (fm n0).2 (gx_set hs f1a (fun _ => f1b))
end

section
variable {P : Program} {w : World} {K : PySem.W.Frag} {mg : Str → Option Value} {base : Heap}
def sp__law_row (K : PySem.W.Frag) : Sp := fun vs H Q _ => ∃ (st : Addr), vs = [.ref st] ∧ IsSx H st ∧ ∀ (r : RW) (p : Addr) (H' : Hp), VRow r → Gx st H H' → H' p = some (.tup [.int r.1, .int r.2]) → Q (.ref p) H'
theorem ok__law_row {f : Addr} {fd : FuncData} (F : Fun K "_law_row" "_law_row" s__law_row f fd) (T : Txt K mg) (D__law_take : Cl P w K mg base 1 "_law_take" ["_law_state_here", "_law_many"] (sp__law_take K)) : FnOk P w K mg base CX0 2 f fd ["_law_state_here"] (sp__law_row K) := by
  refine F.ok sc__law_row (fun vs H Q E h => ?_) (fun cdv A outer s H vs Q E hr h => ?_)
  · obtain ⟨st, rfl, _⟩ := h
    rfl
  · obtain ⟨st, rfl, hs, q⟩ := h
    refine ⟨_, (pss_cons (ps_set (i := 1) sc__law_row.nd rfl (Or.inl rfl) (pe_ix ix_list (pe_lst (pa_cons (pe_own D__law_take (hr.mono (by omega)) (by rfl) (pa_cons (pv 0) (pa_cons pe_int pa_nil))) (pa_cons (pe_own D__law_take (hr.mono (by omega)) (by rfl) (pa_cons (pv 0) (pa_cons pe_int pa_nil))) pa_nil))) (pe_own D__law_take (hr.mono (by omega)) (by rfl) (pa_cons (pv 0) (pa_cons pe_int pa_nil))) (fun _ _ => rfl)))
      (pss_one (ps_ret (pe_tup (pa_cons (pv 1) (pa_cons (pe_op op_add pe_int (pe_own D__law_take (hr.mono (by omega)) (by rfl) (pa_cons (pv 0) (pa_cons (pe_ix ix_list (pe_lst (pa_cons pe_int (pa_cons pe_int (pa_cons pe_int pa_nil)))) (pe_own D__law_take (hr.mono (by omega)) (by rfl) (pa_cons (pv 0) (pa_cons pe_int pa_nil))) (fun _ _ => rfl)) pa_nil)))) pa_nil)))))), ?_⟩
    refine ⟨_, rfl, st, 10, rfl, hs, by decide, by decide, fun r1 H1 a1 b1 g1 => ?_⟩
    refine ⟨_, rfl, st, 3, rfl, g1.2.1 hs, by decide, by decide, fun r2 H2 a2 b2 g2 => ?_⟩
    have g12 := g1.trans g2
    refine ⟨(by show 2 ≤ sizeLine; decide), fun p np => ?_⟩
    obtain ⟨s3, e3⟩ := new_at (.lst [.int r1, .int r2]) np
    have np' := sx_ne (g12.2.1 hs) np
    generalize upd H2 p (.lst [.int r1, .int r2]) = H3 at s3 e3 ⊢
    have g13 := g12.trans (gx_same (st := st) s3)
    refine ⟨_, rfl, st, 2, rfl, g13.2.1 hs, by decide, by decide, fun r4 H4 a4 b4 g4 => ?_⟩
    have g14 := g13.trans g4
    obtain ⟨d, d0, d1, ed⟩ : ∃ d : Int, 0 ≤ d ∧ d ≤ 9 ∧ atI [V.int r1, .int r2] r4 = some (.int d) := by
      rcases (by omega : r4 = 0 ∨ r4 = 1) with e | e <;> subst e
      · exact ⟨r1, by omega, by omega, rfl⟩
      · exact ⟨r2, by omega, by omega, rfl⟩
    refine ⟨p, _, _, _, rfl, rfl, .inl (.inl (g4.1 _ _ np' lst_tbl e3)), ed, ?_⟩
    refine ⟨_, rfl, _, rfl, (by show 3 ≤ sizeLine; decide), fun p2 np2 => ?_⟩
    obtain ⟨s5, e5⟩ := new_at (.lst [.int 24, .int 3, .int 6]) np2
    have np2' := sx_ne (g14.2.1 hs) np2
    generalize upd H4 p2 (.lst [.int 24, .int 3, .int 6]) = H5 at s5 e5 ⊢
    have g15 := g14.trans (gx_same (st := st) s5)
    refine ⟨_, rfl, st, 3, rfl, g15.2.1 hs, by decide, by decide, fun r6 H6 a6 b6 g6 => ?_⟩
    have g16 := g15.trans g6
    obtain ⟨m, m0, m1, em⟩ : ∃ m : Int, 0 < m ∧ m ≤ 24 ∧ atI [V.int 24, .int 3, .int 6] r6 = some (.int m) := by
      rcases (by omega : r6 = 0 ∨ r6 = 1 ∨ r6 = 2) with e | e | e <;> subst e
      · exact ⟨24, by omega, by omega, rfl⟩
      · exact ⟨3, by omega, by omega, rfl⟩
      · exact ⟨6, by omega, by omega, rfl⟩
    refine ⟨p2, _, r6, _, rfl, rfl, .inl (.inl (g6.1 _ _ np2' lst_tbl e5)), em, st, m, rfl, g16.2.1 hs, m0, by omega, fun r7 H7 a7 b7 g7 => ?_⟩
    refine ⟨_, _, rfl, rfl, (by show 2 ≤ sizeLine; decide), fun p8 np8 => ?_⟩
    exact q (d, 1 + r7) p8 _ ⟨d0, d1, by show 1 ≤ 1 + r7; omega, by show 1 + r7 ≤ 24; omega⟩ ((g16.trans g7).trans (gx_same (same_upd np8))) upd_same
def sp__law_layer (K : PySem.W.Frag) : Sp := fun vs H Q _ => ∃ (st : Addr) (mo : Int) (en : Bool), vs = [.ref st, .int mo, .bl en] ∧ IsSx H st ∧ 0 ≤ mo ∧ mo ≤ 8 ∧
  ∀ (v : V) (l : LY) (H' : Hp), Gx st H H' → LyAt K H' v l → VLy l → (l.1.length : Int) ≤ mo → (en = true → l.2 = none) → Q v H'
theorem ok__law_layer {f : Addr} {fd : FuncData} (F : Fun K "_law_layer" "_law_layer" s__law_layer f fd) (T : Txt K mg) (D__law_row : Cl P w K mg base 2 "_law_row" ["_law_state_here"] (sp__law_row K)) (D__law_take : Cl P w K mg base 1 "_law_take" ["_law_state_here", "_law_many"] (sp__law_take K)) : FnOk P w K mg base CX0 3 f fd ["_law_state_here", "_law_most", "_law_ended"] (sp__law_layer K) := by
  refine F.ok sc__law_layer (fun vs H Q E h => ?_) (fun cdv A outer s H vs Q E hr h => ?_)
  · obtain ⟨st, mo, en, rfl, _⟩ := h
    rfl
  · obtain ⟨st, mo, en, rfl, hs, mo0, mo1, q⟩ := h
    refine ⟨_, (pss_cons (ps_set (i := 3) sc__law_layer.nd rfl (Or.inl rfl) (pe_callTy call_tuple_of (by rfl) T.b_tuple (by decide +kernel) (pa_cons (pe_lc (own := [("_law_turn", 6)]) (g := (gName 6)) (tt := tYes) (by rfl) sc__law_layer.nd (pi_range1 (by rfl) T.b_range (pa_cons (pe_own D__law_take (hr.mono (by omega)) (by rfl) (pa_cons (pv 0) (pa_cons (pe_op op_add (pv 1) pe_int) pa_nil))) pa_nil)) (blkOk_by (own := [("_law_turn", 6)]) (N := ["_law_state_here", "_law_most", "_law_ended", "_law_rows", "_law_way", "_law_back", "_law_turn"]) (sc := defScope s__law_layer) (by decide +kernel)) (fun _ _ _ _ _ => (pg_name (i := 6) sc__law_layer.nd rfl (Or.inl rfl))) (fun _ _ _ _ _ => pts_nil) (fun _ _ _ _ _ => (pe_own D__law_row (hr.mono (by omega)) (by rfl) (pa_cons (pv 0) pa_nil)))) pa_nil)))
      (pss_cons (ps_par (i := 4) (j := 5) (by rfl) sc__law_layer.nd rfl rfl (by decide) rfl rfl (pa_cons (pe_own D__law_take (hr.mono (by omega)) (by rfl) (pa_cons (pv 0) (pa_cons pe_int pa_nil))) (pa_cons (pe_own D__law_take (hr.mono (by omega)) (by rfl) (pa_cons (pv 0) (pa_cons (pe_callB (call_max2 rfl) (by rfl) T.b_max (by decide +kernel) (pa_cons pe_int (pa_cons (pe_callB call_len_seq (by rfl) T.b_len (by decide +kernel) (pa_cons (pv 3) pa_nil)) pa_nil))) pa_nil))) pa_nil)) (by rfl))
      (pss_one (ps_ret (pe_tup (pa_cons (pv 3) (pa_cons (pe_ifExp (PW.pt (pw_or (pt_truth (pv 2) (by intro _; rfl)) (pw_or (pt_cmpR (op_eqD hr.units) (pv 3) (pe_tup pa_nil) (nomark _)) (pw_or1 (pt_cmpR op_eq (pv 4) pe_int (nomark _)))))) pe_non (pv 5)) pa_nil))))))), ?_⟩
    refine ⟨_, rfl, _, rfl, mo, 1, rfl, rfl, st, mo + 1, rfl, hs, by omega, by omega, fun mn H1 m0 m1 g1 => ?_⟩
    have hs1 := g1.2.1 hs
    refine ⟨mn, rfl, by omega, by omega, fun D hD => ?_⟩
    have nD := sx_ne hs1 hD
    have gD : Gx st H1 (upd H1 D (.lst [])) := gx_same (same_upd hD)
    refine lc_range (lo := 0) (n := mn.toNat) (fun i H' => Gx st H1 H' ∧ ∃ (vs : List V) (rs : List RW), H' D = some (.lst vs) ∧ vs.length = i ∧ Paired (RowAt K H') vs rs ∧ ∀ r ∈ rs, VRow r)
      ⟨gD, [], [], upd_same, rfl, .nil, fun r hr => by cases hr⟩ (fun i H7 hi p7 => ?_) (fun H7 p7 => ?_)
    · obtain ⟨g7, vs, rs, hL, hlen, pd, vr⟩ := p7
      refine ⟨rfl, yes_ok ⟨_, rfl, st, rfl, g7.2.1 hs1, fun r p8 H8 vr8 g8 e8 => ?_⟩⟩
      have hL8 := g8.1 D _ nD lst_tbl hL
      refine ⟨vs, hL8, small1000 (by omega), gx_upd (g7.trans g8) hD nD hL8 _, vs ++ [.ref p8], rs ++ [r], upd_same, ?_, ?_, ?_⟩
      · rw [List.length_append, hlen]
        rfl
      · have k1 : TKeep K H7 (upd H8 D (.lst (vs ++ [.ref p8]))) := fun a xs h => tk_updL hL8 _ _ (g8.sqT (g7.2.1 hs1) h)
        exact Paired.snocP (Paired.mono pd fun _ _ => RowAt.keep k1) ⟨p8, rfl, tk_updL hL8 _ _ (.inl (.inl e8))⟩
      · intro x hx
        rcases List.mem_append.mp hx with z | z
        · exact vr x z
        · rw [List.mem_singleton.mp z]
          exact vr8
    obtain ⟨g7, vs, rs, hL, hlen, pd, vr⟩ := p7
    have hl : vs.length = rs.length := Paired.length pd
    refine ⟨D, vs, rfl, .inl ⟨.inl (.inl hL), fun l nl => ?_⟩⟩
    obtain ⟨s8, e8⟩ := new_at (.tup vs) nl
    generalize upd H7 l (.tup vs) = H8 at s8 e8 ⊢
    have g8 := (g1.trans g7).trans (gx_same (st := st) s8)
    have hr8 : RowsAt K H8 (.ref l) rs := ⟨l, vs, rfl, .inl (.inl e8), Paired.mono pd fun _ _ => RowAt.keep (Same.tk s8)⟩
    refine ⟨_, rfl, st, 2, rfl, g8.2.1 hs, by decide, by decide, fun wy H9 w0 w1 g9 => ?_⟩
    have g19 := g8.trans g9
    have hr9 := hr8.keep (g9.tk (g8.2.1 hs))
    obtain ⟨l', vs', el, hq9, pd9⟩ := id hr9
    cases el
    have hl9 : vs'.length = rs.length := Paired.length pd9
    refine ⟨_, rfl, _, rfl, l, vs', rfl, .inr hq9, _, _, rfl, ?_⟩
    obtain ⟨mx, x0, x1, x2, ex⟩ : ∃ m : Int, 1 ≤ m ∧ m ≤ 8 ∧ (0 < rs.length → m = (rs.length : Int)) ∧ (if (vs'.length : Int) > 1 then (vs'.length : Int) else 1) = m := by
      refine ⟨_, ?_, ?_, ?_, rfl⟩ <;> split <;> omega
    rw [ex]
    refine ⟨st, mx, rfl, g19.2.1 hs, by omega, by omega, fun bk H10 b0 b1 g10 => ⟨_, _, rfl, ?_⟩⟩
    have g110 := g19.trans g10
    have hr10 := hr9.keep (g10.tk (g19.2.1 hs))
    have vR : VRows rs := ⟨by omega, vr⟩
    have done : ∀ (o : Option Int) (H11 : Hp), Same H10 H11 → VBack rs o → (en = true → o = none) → ∀ p, H11 p = none → Q (.ref p) (upd H11 p (.tup [.ref l, bkV o])) := fun o H11 s11 vb he p np => by
      have sp' := same_upd (o := .tup [.ref l, bkV o]) np
      exact q _ (rs, o) _ ((g110.trans (gx_same s11)).trans (gx_same sp')) ⟨p, _, rfl, .inl (.inl upd_same), hr10.keep (Same.tk (s11.trans sp'))⟩ ⟨vR, vb⟩ (by show (rs.length : Int) ≤ mo; omega) he
    refine ⟨_, rfl, _, rfl, _, rfl, ?_⟩
    cases en with
    | true => exact iteT (iteT ⟨(by show 2 ≤ sizeLine; decide), done none H10 (Same.refl _) (fun i e => nomatch e) (fun _ => rfl)⟩)
    | false =>
      refine iteF ⟨_, rfl, (by show 0 ≤ sizeLine; decide), fun t nt => ?_⟩
      obtain ⟨s11, e11⟩ := new_at (.tup []) nt
      generalize upd H10 t (.tup []) = H11 at s11 e11 ⊢
      have dr : Dp K H11 (.ref l) (.tuple (rs.map rwD)) := by
        obtain ⟨l2, vs2, e2, hq2, pd2⟩ := hr10.keep (Same.tk s11)
        cases e2
        exact .tup hq2 (dpAll_of (fun _ _ h => h.dp) pd2)
      refine eq_data (k := 2) dr (.tup (.inl (.inl e11)) .nil) (Sd.tup fun e he => ?_) (Sd.tup fun e he => by cases he) (by decide) fun b hb => ⟨_, rfl, ?_⟩
      · obtain ⟨r, _, rfl⟩ := List.mem_map.mp he
        exact sd_rw r
      cases b with
      | true => exact iteT (iteT ⟨(by show 2 ≤ sizeLine; decide), done none H11 s11 (fun i e => nomatch e) (fun _ => rfl)⟩)
      | false =>
        have ne : 0 < rs.length := by
          rcases Nat.eq_zero_or_pos rs.length with z | z
          · exfalso
            rw [List.length_eq_zero_iff.mp z] at hb
            exact Bool.noConfusion (hb.mpr rfl)
          · exact z
        have := x2 ne
        refine iteF ⟨_, rfl, rfl, _, rfl, ite2 (fun e => ?_) (fun e => ?_)⟩
        · exact ⟨(by show 2 ≤ sizeLine; decide), done none H11 s11 (fun i e => nomatch e) (fun _ => rfl)⟩
        · exact ⟨_, rfl, (by show 2 ≤ sizeLine; decide), done (some bk) H11 s11 (fun i e => by cases e; exact ⟨b0, by omega⟩) (fun z => Bool.noConfusion z)⟩
end

theorem evs_set {k t : Nat} (hk : 1 ≤ k) (h8 : k ≤ 8) {z : Int} (hz : (evs k (t : Int))[t % k]? = some z) : (evs k (t : Int)).set (t % k) (z + 1) = evs k ((t + 1 : Nat) : Int) := by
  have lt : t % k < k := Nat.mod_lt t (by omega)
  apply List.ext_getElem?
  intro i
  rw [List.getElem?_set, evs_len]
  rcases Nat.lt_or_ge i k with hi | hi
  · have st := share_step (t := t) hk h8 hi
    by_cases e : t % k = i
    · subst e
      rw [if_pos rfl, if_pos lt]
      rw [evs_at lt] at hz
      cases hz
      rw [if_pos rfl] at st
      rw [evs_at lt, st]
    · rw [if_neg e] at st
      rw [if_neg e, evs_at hi, evs_at hi, st, Int.add_zero]
  · rw [if_neg (by omega), List.getElem?_eq_none (by rw [evs_len]; exact hi), List.getElem?_eq_none (by rw [evs_len]; exact hi)]
theorem evs_zero {k : Nat} (h8 : k ≤ 8) : evs k 0 = List.replicate k 0 := by
  apply List.ext_getElem?
  intro i
  rcases Nat.lt_or_ge i k with hi | hi
  · rw [evs_at hi, List.getElem?_replicate, if_pos hi]
    congr 1
    rcases (by omega : k = 1 ∨ k = 2 ∨ k = 3 ∨ k = 4 ∨ k = 5 ∨ k = 6 ∨ k = 7 ∨ k = 8) with e | e | e | e | e | e | e | e <;> subst e <;> omega
  · rw [List.getElem?_eq_none (by rw [evs_len]; exact hi), List.getElem?_eq_none (by rw [List.length_replicate]; exact hi)]
section
variable {P : Program} {w : World} {K : PySem.W.Frag} {mg : Str → Option Value} {base : Heap}
def sp__law_length (K : PySem.W.Frag) : Sp := fun vs H Q _ => ∃ (v : V) (rs : List RW), vs = [v] ∧ RowsAt K H v rs ∧ rs.length ≤ 1000 ∧ ∀ H', Same H H' → Q (.int (tot rs)) H'
theorem ok__law_length {f : Addr} {fd : FuncData} (F : Fun K "_law_length" "_law_length" s__law_length f fd) (T : Txt K mg) : FnOk P w K mg base CX0 1 f fd ["_law_rows"] (sp__law_length K) := by
  refine F.ok sc__law_length (fun vs H Q E h => ?_) (fun cdv A outer s H vs Q E hr h => ?_)
  · obtain ⟨v, rs, rfl, _⟩ := h
    rfl
  · obtain ⟨v, rs, rfl, ⟨pr, vs, rfl, hq, pd⟩, hz, q⟩ := h
    have hl : vs.length = rs.length := Paired.length pd
    refine ⟨_, (pss_one (ps_ret (pe_callB (cr_sum rfl) (by rfl) T.b_sum (by decide +kernel) (pa_cons (pe_lc (own := [("_law_drawing", 1), ("_law_hold", 2)]) (g := (gTup _ 2 (gCons (gName 1) (gCons (gName 2) gNil)))) (tt := tYes) (by rfl) sc__law_length.nd (pi_tup (pv 0)) (blkOk_by (own := [("_law_drawing", 1), ("_law_hold", 2)]) (N := ["_law_rows", "_law_drawing", "_law_hold"]) (sc := defScope s__law_length) (by decide +kernel)) (fun _ _ _ _ _ => (pg_tup (by rfl) (pgs_cons (pg_name (i := 1) sc__law_length.nd rfl (Or.inl rfl)) (pgs_cons (pg_name (i := 2) sc__law_length.nd rfl (Or.inl rfl)) pgs_nil)))) (fun _ _ _ _ _ => pts_nil) (fun _ _ _ _ _ => (pv 2))) pa_nil)))), ?_⟩
    refine ⟨_, rfl, pr, rfl, ⟨_, hq⟩, fun D hD => ?_⟩
    refine lcmap_tup ((rs.map (·.2)).map V.int) (by simp [hl]) (by omega) hq hD (fun i x y H2 R Z hx hy s2 hR => ?_) (fun H2 s2 hL => ?_)
    · obtain ⟨r, hr1, p, rfl, hrow⟩ := Paired.at pd hx
      have ey : y = .int r.2 := by
        rw [List.map_map, List.getElem?_map, hr1] at hy
        exact (Option.some.inj hy).symm
      subst ey
      exact ⟨p, _, rfl, Same.sqT s2 hrow, rfl, _, _, rfl, _, _, rfl, rfl, rfl, yes_ok ⟨_, rfl, hR _ (Same.refl _)⟩⟩
    · exact ⟨D, _, rfl, .inl (.inl hL), q _ s2⟩
def sp__law_told (K : PySem.W.Frag) : Sp := fun vs H Q _ => ∃ (v : V) (l : LY) (a : Addr) (hs : List Int), vs = [v, .ref a] ∧ LyAt K H v l ∧ l.1.length ≤ 8 ∧ SqL K H a (hs.map V.int) ∧ hs.length = l.1.length ∧
  ∀ o H' p, IsTo none hs o → Same H H' → Dk K H' (.ref p) (toD l.1 o) → Q (.ref p) H'
theorem ok__law_told {f : Addr} {fd : FuncData} (F : Fun K "_law_told" "_law_told" s__law_told f fd) (T : Txt K mg) : FnOk P w K mg base CX0 1 f fd ["_law_layer_here", "_law_holds"] (sp__law_told K) := by
  refine F.ok sc__law_told (fun vs H Q E h => ?_) (fun cdv A outer s H vs Q E hr h => ?_)
  · obtain ⟨v, l, a, hs, rfl, _⟩ := h
    rfl
  · obtain ⟨v, ⟨rs, bk⟩, a, hs, rfl, hly, r8, ha, hlen, q⟩ := h
    obtain ⟨p, rv, rfl, hp, pr, us, rfl, hq, pd⟩ := id hly
    have hl := Paired.length pd
    dsimp only at r8 hlen q hl pd hp
    refine ⟨_, (pss_cons (ps_if (PW.pt (pw_or (pt_cmpR (op_eqD hr.units) (pv 1) (pe_lst pa_nil) (nomark _)) (pw_or1 (pt_cmpR op_lt (pe_callB (cr_min rfl) (by rfl) T.b_min (by decide +kernel) (pa_cons (pv 1) pa_nil)) pe_int (nomark _))))) (pss_one (ps_ret (pe_tup (pa_cons pe_str (pa_cons pe_int pa_nil))))) pss_nil)
      (pss_cons (ps_if (pt_cmpR op_gt (pe_callB (cr_max rfl) (by rfl) T.b_max (by decide +kernel) (pa_cons (pv 1) pa_nil)) pe_int (nomark _)) (pss_one (ps_ret (pe_tup (pa_cons pe_str (pa_cons (pe_tup (pa_cons (pe_callB (cr_max rfl) (by rfl) T.b_max (by decide +kernel) (pa_cons (pv 1) pa_nil)) (pa_cons pe_int pa_nil))) pa_nil))))) pss_nil)
      (pss_one (ps_ret (pe_tup (pa_cons pe_str (pa_cons (pe_tup (pa_cons (pe_callTy call_tuple_of (by rfl) T.b_tuple (by decide +kernel) (pa_cons (pe_lc (own := [("_law_row_here", 2), ("_law_hold", 3)]) (g := (gTup _ 2 (gCons (gName 2) (gCons (gName 3) gNil)))) (tt := tYes) (by rfl) sc__law_told.nd (pi_zipM (by rfl) T.b_zip (pa_cons (pe_ix ix_tup (pv 0) pe_int (fun _ _ => rfl)) (pa_cons (pv 1) pa_nil))) (blkOk_by (own := [("_law_row_here", 2), ("_law_hold", 3)]) (N := ["_law_layer_here", "_law_holds", "_law_row_here", "_law_hold"]) (sc := defScope s__law_told) (by decide +kernel)) (fun _ _ _ _ _ => (pg_tup (by rfl) (pgs_cons (pg_name (i := 2) sc__law_told.nd rfl (Or.inl rfl)) (pgs_cons (pg_name (i := 3) sc__law_told.nd rfl (Or.inl rfl)) pgs_nil)))) (fun _ _ _ _ _ => pts_nil) (fun _ _ _ _ _ => (pe_tup (pa_cons (pe_ix (r := rIxT K) ix_tup (pv 2) pe_int (fun _ _ => rfl)) (pa_cons (pv 3) pa_nil))))) pa_nil)) (pa_cons pe_non pa_nil))) pa_nil))))))), ?_⟩
    refine ⟨_, rfl, Nat.zero_le _, fun pe npe => ?_⟩
    have se := same_upd (o := .lst []) npe
    have ee : upd H pe (.lst []) pe = some (.lst []) := upd_same
    generalize upd H pe (.lst []) = H1 at se ee ⊢
    have ha1 := se.seq ha
    refine eq_data (d := .list (hs.map .int)) (e := .list []) (.lst ha1 (ints_dp hs)) (.lst (.inl (.inl ee)) .nil) Sd.ints (Sd.ints (ns := [])) (by decide) fun b hb => ⟨_, rfl, ?_⟩
    by_cases hne : hs = []
    · rw [hb.mpr (by rw [hne]; rfl)]
      refine iteT ⟨(by show 2 ≤ sizeLine; decide), fun p9 np9 => ?_⟩
      exact q .sq _ p9 (.inr (.inl ⟨rfl, .inl hne, rfl⟩)) (se.trans (same_upd np9)) (ref_dk (.inl (.inl upd_same)))
    have hb' : b = false := Bool.eq_false_iff.mpr fun z => hne (by simpa using hb.mp z)
    rw [hb']
    have pos : 0 < hs.length := List.length_pos_iff.mpr hne
    refine iteF ⟨_, rfl, a, hs, rfl, ha1, pos, fun mn hmn gmn => ⟨_, _, rfl, rfl, _, rfl, ite2 (fun e => ?_) (fun e => ?_)⟩⟩
    · refine ⟨(by show 2 ≤ sizeLine; decide), fun p9 np9 => ?_⟩
      exact q .sq _ p9 (.inr (.inl ⟨rfl, .inr ⟨mn, hmn, of_decide_eq_true e⟩, rfl⟩)) (se.trans (same_upd np9)) (ref_dk (.inl (.inl upd_same)))
    have all : ∀ h ∈ hs, 1 ≤ h := fun h hh => by
      have a1 := gmn h hh
      have a2 : ¬ mn < 1 := fun z => e (decide_eq_true z)
      omega
    refine ⟨_, rfl, a, hs, rfl, ha1, pos, fun M hM gM => ⟨_, _, rfl, rfl, _, rfl, ite2 (fun e => ?_) (fun e => ?_)⟩⟩
    · refine ⟨_, rfl, a, hs, rfl, ha1, pos, fun M' hM' gM' => ⟨(by show 2 ≤ sizeLine; decide), fun q9 nq9 => ⟨(by show 2 ≤ sizeLine; decide), fun p9 np9 => ?_⟩⟩⟩
      have eM : M' = M := Int.le_antisymm (gM M' hM') (gM' M hM)
      subst eM
      have s9 := same_upd (o := .tup [.int M', .int 24]) nq9
      have s10 := same_upd (o := .tup [.str "many", .ref q9]) np9
      exact q (.mn M') _ p9 (.inr (.inr ⟨rfl, hne, all, M', hM, gM, .inl ⟨of_decide_eq_true e, rfl⟩⟩)) (se.trans (s9.trans s10)) (many_dk (.inl (.inl upd_same)) (.inl (.inl (s10 _ _ upd_same))))
    have le : M ≤ 24 := by
      have : ¬ 24 < M := fun z => e (decide_eq_true z)
      omega
    have hq1 := Same.sqT se hq
    refine ⟨_, rfl, p, _, 0, _, rfl, rfl, Same.sqT se hp, rfl, _, rfl, pr, a, us, _, rfl, hq1, ha1, fun D hD => ?_⟩
    have lus : us.length = (hs.map V.int).length := by rw [List.length_map]; omega
    refine lc_pairs (J := ItzM K pr a) (xs := us) (ys := hs.map V.int) (fun i H' => Same H1 H' ∧ ∃ ws, H' D = some (.lst ws) ∧ ws.length = i ∧ Paired (RowAt K H') ws ((wh rs hs).take i))
      ⟨same_upd hD, [], upd_same, rfl, .nil⟩ (fun i H' z hi => zipM_go lus (Same.sqT z.1 hq1) (z.1.seq ha1) hi) (fun H' z => zipM_stop lus (Same.sqT z.1 hq1) (z.1.seq ha1)) (fun i H' v H2 z y => zipM_yld (Same.sqT z.1 hq1) (z.1.seq ha1) y) (fun i x y T H2 hx hy z nT => ?_) (fun H2 z => ?_)
    · obtain ⟨s2, ws, eD, lw, pw⟩ := z
      rw [List.getElem?_map] at hy
      obtain ⟨h, hh, rfl⟩ := Option.map_eq_some_iff.mp hy
      obtain ⟨r, hr1, pp, rfl, hrow⟩ := Paired.at pd hx
      have hi : i < rs.length := (List.getElem?_eq_some_iff.mp hr1).1
      have s3 := same_upd (o := .tup [.ref pp, .int h]) nT
      have s13 := (se.trans s2).trans s3
      refine ⟨T, _, rfl, .inl (.inl upd_same), rfl, _, _, rfl, _, _, rfl, rfl, rfl, yes_ok ⟨_, rfl, pp, _, 0, _, rfl, rfl, Same.sqT s13 hrow, rfl, _, rfl, (by show 2 ≤ sizeLine; decide), fun p4 np4 => ?_⟩⟩
      have s4 := same_upd (o := .tup [.int r.1, .int h]) np4
      have eD4 := s4 _ _ (s3 _ _ eD)
      refine ⟨ws, eD4, small1000 (by omega), fun b o e => ?_, ws ++ [.ref p4], upd_same, by rw [List.length_append, lw]; rfl, ?_⟩
      · rw [upd_ne (ne_of_none e hD)]
        exact s4 _ _ (s3 _ _ (s2 _ _ e))
      · rw [List.take_add_one, wh_at hr1 hh]
        exact Paired.snocP (Paired.mono pw fun _ _ => RowAt.keep fun a zs h => tk_updL eD4 _ _ (Same.sqT (s3.trans s4) h)) ⟨p4, rfl, tk_updL eD4 _ _ (.inl (.inl upd_same))⟩
    obtain ⟨s2, ws, eD, lw, pw⟩ := z
    rw [List.take_of_length_le (by rw [wh_len hlen]; omega)] at pw
    refine ⟨D, ws, rfl, .inl ⟨.inl (.inl eD), fun T nT => ?_⟩⟩
    refine ⟨(by show 2 ≤ sizeLine; decide), fun q9 nq9 => ⟨(by show 2 ≤ sizeLine; decide), fun p9 np9 => ?_⟩⟩
    have s8 := same_upd (o := .tup ws) nT
    have s9 := same_upd (o := .tup [.ref T, .non]) nq9
    have s10 := same_upd (o := .tup [.str "told", .ref q9]) np9
    have sZ := s8.trans (s9.trans s10)
    exact q (.ok hs) _ p9 (.inr (.inr ⟨rfl, hne, all, M, hM, gM, .inr ⟨le, rfl⟩⟩)) ((se.trans s2).trans sZ)
      (told_dk (.inl (.inl upd_same)) (LyAt.dk (l := (wh rs hs, none)) ⟨q9, _, rfl, .inl (.inl (s10 _ _ upd_same)), T, ws, rfl, .inl (.inl ((s9.trans s10) _ _ upd_same)), Paired.mono pw fun _ _ => RowAt.keep (Same.tk sZ)⟩))
def sp__law_evened (K : PySem.W.Frag) : Sp := fun vs H Q _ => ∃ (v : V) (l : LY) (m : Int), vs = [v, .int m] ∧ LyAt K H v l ∧ VLy l ∧ 1 ≤ m ∧ m ≤ 200 ∧ ∀ o H' p, IsTo l.2 (evs l.1.length m) o → Same H H' → Dk K H' (.ref p) (toD l.1 o) → Q (.ref p) H'
theorem ok__law_evened {f : Addr} {fd : FuncData} (F : Fun K "_law_evened" "_law_evened" s__law_evened f fd) (T : Txt K mg) (D__law_told : Cl P w K mg base 1 "_law_told" ["_law_layer_here", "_law_holds"] (sp__law_told K)) : FnOk P w K mg base CX0 2 f fd ["_law_layer_here", "_law_many"] (sp__law_evened K) := by
  refine F.ok sc__law_evened (fun vs H Q E h => ?_) (fun cdv A outer s H vs Q E hr h => ?_)
  · obtain ⟨v, l, m, rfl, _⟩ := h
    rfl
  · obtain ⟨v, ⟨rs, bk⟩, m, rfl, hly, vl, m1, m2, q⟩ := h
    obtain ⟨p, rv, rfl, hp, pr, us, rfl, hq, pd⟩ := id hly
    have hl := Paired.length pd
    have r8 := vl.1.1
    dsimp only at q r8 hl pd hp
    refine ⟨_, (pss_cons (ps_if (pt_cmpR op_notN (pe_ix ix_tup (pv 0) pe_int (fun _ _ => rfl)) pe_non (nomark _)) (pss_one (ps_ret (pe_tup (pa_cons pe_str (pa_cons pe_int pa_nil))))) pss_nil)
      (pss_cons (ps_setLc (i := 2) (own := [("_law_row_here", 4)]) (g := (gName 4)) (tt := tYes) (by rfl) sc__law_evened.nd rfl rfl (sw_true rfl rfl rfl (by decide +kernel)) (pi_tup (pe_ix ix_tup (pv 0) pe_int (fun _ _ => rfl))) (blkOk_by (own := [("_law_row_here", 4)]) (N := ["_law_layer_here", "_law_many", "_law_holds", "_law_turn", "_law_row_here"]) (sc := defScope s__law_evened) (by decide +kernel)) (fun _ _ _ _ _ => (pg_name (i := 4) sc__law_evened.nd rfl (Or.inl rfl))) (fun _ _ _ _ _ => pts_nil) (fun _ _ _ _ _ => pe_int))
      (pss_cons (ps_for PassesOwn.never rfl (pi_range1 (by rfl) T.b_range (pa_cons (pe_ifExp (pt_cmpR (op_neD hr.units) (pv 2) (pe_lst pa_nil) (nomark _)) (pv 1) pe_int) pa_nil)) (pg_name (i := 3) sc__law_evened.nd rfl (Or.inl rfl))
        (pss_one (ps_asg (pe_op op_add (pe_ix ix_list (pv 2) (pe_op op_modN (pv 3) (pe_callB call_len_seq (by rfl) T.b_len (by decide +kernel) (pa_cons (pv 2) pa_nil))) (fun _ _ => rfl)) pe_int) (pg_sub (pv 2) (pe_op op_modN (pv 3) (pe_callB call_len_seq (by rfl) T.b_len (by decide +kernel) (pa_cons (pv 2) pa_nil))) set_list))))
      (pss_one (ps_ret (pe_own D__law_told (hr.mono (by omega)) (by rfl) (pa_cons (pv 0) (pa_cons (pv 2) pa_nil)))))))), ?_⟩
    refine ⟨_, rfl, p, _, 1, _, rfl, rfl, hp, rfl, rfl, _, rfl, ?_⟩
    cases bk with
    | some b =>
      refine ite2 (fun _ => ⟨(by show 2 ≤ sizeLine; decide), fun p9 np9 => ?_⟩) (fun e => absurd rfl e)
      exact q .en _ p9 (.inl ⟨by simp, rfl⟩) (same_upd np9) (ref_dk (.inl (.inl upd_same)))
    | none =>
    refine ite2 (fun e => nomatch (show false = true from e)) (fun _ => ?_)
    refine ⟨_, rfl, p, _, 0, _, rfl, rfl, hp, rfl, pr, rfl, ⟨_, hq⟩, fun D hD => ?_⟩
    refine lcmap_tup ((List.replicate rs.length (0 : Int)).map V.int) (by simp [hl]) (by omega) hq hD (fun i x y H2 R Z hx hy s2 hR => ?_) (fun H2 s2 hL => ?_)
    · have ey : y = .int 0 := by
        rw [List.getElem?_map] at hy
        obtain ⟨z, hz, rfl⟩ := Option.map_eq_some_iff.mp hy
        rw [(List.mem_replicate.mp (List.mem_of_getElem? hz)).2]
      subst ey
      exact ⟨rfl, yes_ok (hR _ (Same.refl _))⟩
    rw [← evs_zero r8] at hL
    refine ⟨_, rfl, Nat.zero_le _, fun pe npe => ?_⟩
    have s3 := same_upd (o := .lst []) npe
    have e3 : upd H2 pe (.lst []) pe = some (.lst []) := upd_same
    generalize upd H2 pe (.lst []) = H3 at s3 e3 ⊢
    have hL3 := s3 _ _ hL
    have s03 := s2.trans s3
    refine ne_data (d := .list ((evs rs.length 0).map .int)) (e := .list []) (.lst (.inl (.inl hL3)) (ints_dp _)) (.lst (.inl (.inl e3)) .nil) Sd.ints (Sd.ints (ns := [])) (by decide) fun b hb => ⟨_, rfl, ?_⟩
    by_cases hne : rs = []
    · rw [hb.mpr (by rw [hne]; rfl)]
      refine iteF ⟨0, rfl, by decide, by decide, ?_⟩
      refine for_range (lo := 0) (n := 0) (fun t σ H' => H3 = H' ∧ σ = [some (.ref p), some (.int m), some (.ref D), none, none]) ⟨rfl, rfl⟩ (fun i σ H' hi => absurd hi (Nat.not_lt_zero _)) ?_
      rintro σ H' ⟨rfl, rfl⟩
      refine ⟨_, rfl, _, rfl, .ref p, (rs, none), D, evs rs.length 0, rfl, hly.keep (Same.tk s03), r8, .inl (.inl hL3), evs_len _ _, fun o H' pz ho s' dk => q o H' pz ?_ (s03.trans s') dk⟩
      rw [hne] at ho ⊢
      exact ho
    have k1 : 1 ≤ rs.length := List.length_pos_iff.mpr hne
    have hb' : b = false := Bool.eq_false_iff.mpr fun z => by
      have := hb.mp z
      have e0 : (evs rs.length 0).length = 0 := by
        have : ((evs rs.length 0).map PyData.int) = [] := PyData.list.inj this
        rw [← List.length_map (f := PyData.int), this]
        rfl
      rw [evs_len] at e0
      omega
    rw [hb']
    refine iteT ⟨_, rfl, m, rfl, by omega, by omega, ?_⟩
    refine for_range (lo := 0) (n := m.toNat) (fun t σ H' => Same H H' ∧ H' D = some (.lst ((evs rs.length (t : Int)).map V.int)) ∧ ∃ y3 y4, σ = [some (.ref p), some (.int m), some (.ref D), y3, y4]) ⟨s03, hL3, none, none, rfl⟩ ?_ ?_
    · rintro t σ H4 ht ⟨s4, e4, y3, y4, rfl⟩
      have lt : t % rs.length < rs.length := Nat.mod_lt t (by omega)
      have at' := evs_at (m := (t : Int)) lt
      have fmE : (0 + (t : Int)).fmod (((((evs rs.length (t : Int)).map V.int).length : Nat) : Int)) = ((t % rs.length : Nat) : Int) := by
        rw [List.length_map, evs_len, Int.zero_add, Int.fmod_eq_emod_of_nonneg _ (by omega), Int.natCast_emod]
      have ne0 : ((((evs rs.length (t : Int)).map V.int).length : Nat) : Int) ≠ 0 := by
        rw [List.length_map, evs_len]
        omega
      refine ⟨_, rfl, _, rfl, _, rfl, D, _, rfl, .inl (.inl (.inl e4)), _, _, rfl, rfl, ne0, D, _, _, .int ((((t : Int) - ((t % rs.length : Nat) : Int) + (rs.length : Int) - 1) / (rs.length : Int))), rfl, rfl, .inl (.inl e4), ?_, _, _, rfl, rfl, _, rfl, _, rfl, _, rfl, D, _, rfl, .inl (.inl (.inl e4)), _, _, rfl, rfl, ne0, D, _, _, t % rs.length, rfl, rfl, e4, ?_, fun b o e => ?_, ?_, _, _, rfl⟩
      · rw [fmE]
        exact atI_nat (by rw [List.getElem?_map, at']; rfl)
      · rw [fmE]
        unfold ixN
        rw [if_pos (by omega), if_pos (by rw [List.length_map, evs_len]; omega)]
        rfl
      · rw [upd_ne (ne_of_none e hD)]
        exact s4 _ _ e
      · rw [upd_same, ← evs_set k1 r8 at', List.map_set]
    · rintro σ H4 ⟨s4, e4, y3, y4, rfl⟩
      rw [Int.toNat_of_nonneg (by omega)] at e4
      exact ⟨_, rfl, _, rfl, .ref p, (rs, none), D, evs rs.length m, rfl, hly.keep (Same.tk s4), r8, .inl (.inl e4), evs_len _ _, fun o H' pz ho s' dk => q o H' pz ho (s4.trans s') dk⟩
def sp__law_retimed (K : PySem.W.Frag) : Sp := fun vs H Q _ => ∃ (v : V) (l : LY) (m : Int), vs = [v, .int m] ∧ LyAt K H v l ∧ VLy l ∧ 1 ≤ m ∧ m ≤ 200 ∧ ∀ o H' p, IsTo l.2 (scl (hds l.1) (tot l.1) m) o → Same H H' → Dk K H' (.ref p) (toD l.1 o) → Q (.ref p) H'
theorem ok__law_retimed {f : Addr} {fd : FuncData} (F : Fun K "_law_retimed" "_law_retimed" s__law_retimed f fd) (T : Txt K mg) (D__law_length : Cl P w K mg base 1 "_law_length" ["_law_rows"] (sp__law_length K)) (D__law_told : Cl P w K mg base 1 "_law_told" ["_law_layer_here", "_law_holds"] (sp__law_told K)) : FnOk P w K mg base CX0 2 f fd ["_law_layer_here", "_law_many"] (sp__law_retimed K) := by
  refine F.ok sc__law_retimed (fun vs H Q E h => ?_) (fun cdv A outer s H vs Q E hr h => ?_)
  · obtain ⟨v, l, m, rfl, _⟩ := h
    rfl
  · obtain ⟨v, ⟨rs, bk⟩, m, rfl, hly, vl, m1, m2, q⟩ := h
    obtain ⟨p, rv, rfl, hp, hR⟩ := id hly
    obtain ⟨pr, us, rfl, hq, pd⟩ := id hR
    have hl := Paired.length pd
    have r8 := vl.1.1
    have tb := tot_nonneg vl.1.2
    have bd := ps_bd vl.1.2 r8
    dsimp only at q r8 hl pd hp tb bd hR
    refine ⟨_, (pss_cons (ps_if (pt_cmpR op_notN (pe_ix ix_tup (pv 0) pe_int (fun _ _ => rfl)) pe_non (nomark _)) (pss_one (ps_ret (pe_tup (pa_cons pe_str (pa_cons pe_int pa_nil))))) pss_nil)
      (pss_cons (ps_asg (pe_tup (pa_cons (pe_own D__law_length (hr.mono (by omega)) (by rfl) (pa_cons (pe_ix ix_tup (pv 0) pe_int (fun _ _ => rfl)) pa_nil)) (pa_cons (pe_lst (pa_cons pe_int pa_nil)) pa_nil))) (pg_tup (by rfl) (pgs_cons (pg_name (i := 2) sc__law_retimed.nd rfl (Or.inl rfl)) (pgs_cons (pg_name (i := 3) sc__law_retimed.nd rfl (Or.inr rfl)) pgs_nil))))
      (pss_cons (ps_for PassesOwn.never rfl (pi_range1 (by rfl) T.b_range (pa_cons (pe_callB call_len_seq (by rfl) T.b_len (by decide +kernel) (pa_cons (pe_ix ix_tup (pv 0) pe_int (fun _ _ => rfl)) pa_nil)) pa_nil)) (pg_name (i := 4) sc__law_retimed.nd rfl (Or.inl rfl))
        (pss_cons (ps_set (i := 5) sc__law_retimed.nd rfl (Or.inl rfl) pe_int)
      (pss_cons (ps_while PassesOwn.never (pt_cmpR op_le (pe_op op_mul (pe_op op_add (pv 5) pe_int) (pv 2)) (pe_op op_mul (pv 1) (pe_own D__law_length (hr.mono (by omega)) (by rfl) (pa_cons (pe_slice sl_tupA (pe_ix ix_tup (pv 0) pe_int (fun _ _ => rfl)) po_none (po_some (pe_op op_add (pv 4) pe_int))) pa_nil))) (nomark _)) (pss_one (ps_set (i := 5) sc__law_retimed.nd rfl (Or.inl rfl) (pe_op op_add (pv 5) pe_int))))
      (pss_one (ps_expr (pe_bm PySem.F.plainAttrs_list PySem.F.slot_list_append PySem.F.type_list_append mt_append (pv 3) (pa_cons (pv 5) pa_nil)))))))
      (pss_one (ps_ret (pe_own D__law_told (hr.mono (by omega)) (by rfl) (pa_cons (pv 0) (pa_cons (pe_lc (own := [("_law_place", 4)]) (g := (gName 4)) (tt := tYes) (by rfl) sc__law_retimed.nd (pi_range1 (by rfl) T.b_range (pa_cons (pe_callB call_len_seq (by rfl) T.b_len (by decide +kernel) (pa_cons (pe_ix ix_tup (pv 0) pe_int (fun _ _ => rfl)) pa_nil)) pa_nil)) (blkOk_by (own := [("_law_place", 4)]) (N := ["_law_layer_here", "_law_many", "_law_end", "_law_ends", "_law_place", "_law_at"]) (sc := defScope s__law_retimed) (by decide +kernel)) (fun _ _ _ _ _ => (pg_name (i := 4) sc__law_retimed.nd rfl (Or.inl rfl))) (fun _ _ _ _ _ => pts_nil) (fun _ _ _ _ _ => (pe_op op_sub (pe_ix (r := rIxL K) ix_list (pv 3) (pe_op op_add (pv 4) pe_int) (fun _ _ => rfl)) (pe_ix (r := rIxL K) ix_list (pv 3) (pv 4) (fun _ _ => rfl))))) pa_nil)))))))), ?_⟩
    refine ⟨_, rfl, p, _, 1, _, rfl, rfl, hp, rfl, rfl, _, rfl, ?_⟩
    cases bk with
    | some b =>
      refine ite2 (fun _ => ⟨(by show 2 ≤ sizeLine; decide), fun p9 np9 => ?_⟩) (fun e => absurd rfl e)
      exact q .en _ p9 (.inl ⟨by simp, rfl⟩) (same_upd np9) (ref_dk (.inl (.inl upd_same)))
    | none =>
    refine ite2 (fun e => nomatch (show false = true from e)) (fun _ => ?_)
    refine ⟨_, rfl, p, _, 0, _, rfl, rfl, hp, rfl, .ref pr, rs, rfl, hR, by omega, fun H1 s1 => ⟨(by show 1 ≤ sizeLine; decide), fun D nD => ⟨(by show 2 ≤ sizeLine; decide), fun pt npt => ?_⟩⟩⟩
    have nD0 := s1.free nD
    have s2 := same_upd (o := .lst [.int 0]) nD
    have e2 : upd H1 D (.lst [.int 0]) D = some (.lst [.int 0]) := upd_same
    generalize upd H1 D (.lst [.int 0]) = H2 at s2 e2 npt ⊢
    have s3 := same_upd (o := .tup [.int (tot rs), .ref D]) npt
    have e3 : upd H2 pt (.tup [.int (tot rs), .ref D]) pt = some (.tup [.int (tot rs), .ref D]) := upd_same
    have e2' := s3 _ _ e2
    generalize upd H2 pt (.tup [.int (tot rs), .ref D]) = H3 at s3 e3 e2' ⊢
    have s03 := (s1.trans s2).trans s3
    refine ⟨pt, _, rfl, .inl (.inl e3), rfl, _, _, rfl, _, _, rfl, rfl, ?_⟩
    refine ⟨_, rfl, p, _, 0, _, rfl, rfl, Same.sqT s03 hp, rfl, pr, us, rfl, .inr (Same.sqT s03 hq), _, rfl, by omega, by omega, ?_⟩
    refine for_range (lo := 0) (n := ((us.length : Nat) : Int).toNat) (fun i σ H' => Same H H' ∧ H' D = some (.lst (((List.range (i + 1)).map fun j => ps (hds rs) j * m / tot rs).map V.int)) ∧ ∃ y4 y5, σ = [some (.ref p), some (.int m), some (.int (tot rs)), some (.ref D), y4, y5])
      ⟨s03, ?_, none, none, rfl⟩ ?_ ?_
    · rw [e2']
      show _ = some (HO.lst [V.int (ps (hds rs) 0 * m / tot rs)])
      rw [ps_zero, Int.zero_mul, Int.zero_ediv]
    · rintro i σ H4 hi ⟨s4, e4, y4, y5, rfl⟩
      have hi' : i < rs.length := by omega
      have L0 : 0 < tot rs := by omega
      obtain ⟨b0, b1⟩ := bd (i + 1)
      obtain ⟨x, hx, x0, x1⟩ : ∃ x : Int, x = m * ps (hds rs) (i + 1) ∧ 0 ≤ x ∧ x ≤ 200 * 192 := ⟨_, rfl, Int.mul_nonneg (by omega) b0, Int.mul_le_mul (by omega) b1 b0 (by omega)⟩
      refine while_R (fun σ H' => Same H4 H' ∧ ∃ z : Int, σ = [some (.ref p), some (.int m), some (.int (tot rs)), some (.ref D), some (.int (0 + (i : Int))), some (.int z)] ∧ 0 ≤ z ∧ z * tot rs ≤ x)
        (fun σ _ => match σ with | [_, _, _, _, _, some (.int z)] => (x + 1 - z).toNat | _ => 0) ⟨Same.refl _, 0, rfl, Int.le_refl _, by omega⟩ ?_
      rintro σ H5 ⟨s5, z, rfl, z0, zx⟩ R hT hF
      have s45 := s4.trans s5
      refine ⟨_, rfl, _, _, rfl, rfl, _, rfl, _, _, rfl, rfl, .inr ⟨by omega, by omega⟩, _, rfl, _, rfl, p, _, 0, _, rfl, rfl, Same.sqT s45 hp, rfl, _, rfl, _, _, rfl, rfl, _, rfl, sl_rows (rs.take (i + 1)) (Same.sqT s45 hq) ?_ (fun H6 v6 s6 h6 => ?_)⟩
      · rw [show (0 : Int) + (i : Int) + 1 = ((i + 1 : Nat) : Int) by omega, cut_to]
        exact Paired.takeP (i + 1) (Paired.mono pd fun _ _ => RowAt.keep (Same.tk s45))
      refine ⟨v6, _, rfl, h6, by rw [List.length_take]; omega, fun H7 s7 => ⟨_, _, rfl, rfl, .inl ⟨by omega, by omega⟩, ?_⟩⟩
      have ex : m * tot (rs.take (i + 1)) = x := by rw [hx, ps_tot]
      have s57 := s6.trans s7
      by_cases c : (z + 1) * tot rs ≤ x
      · refine ⟨_, _, rfl, rfl, _, rfl, ?_⟩
        show R (decide ((z + 1) * tot rs ≤ m * tot (rs.take (i + 1)))) H7
        rw [ex, decide_eq_true c]
        refine hT _ ⟨_, rfl, _, _, rfl, rfl, ⟨s5.trans s57, z + 1, rfl, by omega, c⟩, ?_⟩
        show (x + 1 - (z + 1)).toNat < (x + 1 - z).toNat
        have : z < x + 1 := by
          have : z * 1 ≤ z * tot rs := Int.mul_le_mul_of_nonneg_left (by omega) z0
          omega
        omega
      · refine ⟨_, _, rfl, rfl, _, rfl, ?_⟩
        show R (decide ((z + 1) * tot rs ≤ m * tot (rs.take (i + 1)))) H7
        rw [ex, decide_eq_false c]
        refine hF _ ?_
        have ez := floor_at L0 zx (by omega)
        have e7 := s57 _ _ (s5 _ _ e4)
        refine ⟨_, rfl, .inl ⟨rfl, _, .inl (.inl e7)⟩, _, rfl, D, _, _, rfl, rfl, e7, ?_, fun b o e => ?_, ?_, _, _, rfl⟩
        · rw [List.length_map, List.length_map, List.length_range]
          exact small1000 (by omega)
        · rw [upd_ne (ne_of_none e nD0)]
          exact s57 _ _ (s45 _ _ e)
        · rw [upd_same, map_succ _ (i + 1), List.map_append]
          show _ = some (HO.lst (_ ++ [V.int (ps (hds rs) (i + 1) * m / tot rs)]))
          rw [Int.mul_comm (ps (hds rs) (i + 1)) m, ← hx, ez]
    · rintro σ H4 ⟨s4, e4, y4, y5, rfl⟩
      refine ⟨_, rfl, _, rfl, p, _, 0, _, rfl, rfl, Same.sqT s4 hp, rfl, pr, us, rfl, .inr (Same.sqT s4 hq), _, rfl, by omega, by omega, fun G hG => ?_⟩
      refine lc_range (lo := 0) (n := ((us.length : Nat) : Int).toNat) (fun i H' => Same H4 H' ∧ H' G = some (.lst (((List.range i).map (scf (hds rs) (tot rs) m)).map V.int))) ⟨same_upd hG, upd_same⟩ (fun i H5 hi p5 => ?_) (fun H5 p5 => ?_)
      · obtain ⟨s5, e5⟩ := p5
        have e45 := s5 _ _ e4
        have hi' : i < us.length := by omega
        have at' : ∀ j, j ≤ us.length → (((List.range (((us.length : Nat) : Int).toNat + 1)).map fun j => ps (hds rs) j * m / tot rs).map V.int)[j]? = some (.int (ps (hds rs) j * m / tot rs)) := fun j hj => by
          rw [List.getElem?_map, List.getElem?_map, List.getElem?_range (by omega)]
          rfl
        refine ⟨rfl, yes_ok ⟨_, rfl, _, rfl, _, _, rfl, rfl, D, _, _, .int (ps (hds rs) (i + 1) * m / tot rs), rfl, rfl, .inl (.inl e45), ?_, _, rfl, _, rfl, D, _, _, .int (ps (hds rs) i * m / tot rs), rfl, rfl, .inl (.inl e45), ?_, _, _, rfl, rfl, _, e5, ?_, fun b o e => ?_, ?_⟩⟩
        · rw [show (0 : Int) + (i : Int) + 1 = ((i + 1 : Nat) : Int) by omega]
          exact atI_nat (at' (i + 1) (by omega))
        · rw [Int.zero_add]
          exact atI_nat (at' i (by omega))
        · rw [List.length_map, List.length_map, List.length_range]
          exact small1000 (by omega)
        · rw [upd_ne (ne_of_none e hG)]
          exact s5 _ _ e
        · rw [upd_same, map_succ, List.map_append]
          rfl
      · obtain ⟨s5, e5⟩ := p5
        have eG : H5 G = some (.lst ((scl (hds rs) (tot rs) m).map V.int)) := by
          rw [e5]
          unfold scl
          rw [hds_len, show ((us.length : Nat) : Int).toNat = rs.length by omega]
        exact ⟨.ref p, (rs, none), G, _, rfl, hly.keep (Same.tk (s4.trans s5)), r8, .inl (.inl eG), by rw [scl_len, hds_len], fun o H' pz ho s' dk => q o H' pz ho ((s4.trans s5).trans s') dk⟩
end

section
variable {P : Program} {w : World} {K : PySem.W.Frag} {mg : Str → Option Value} {base : Heap}
theorem sd_to (rs : List RW) (o : TO) : ∃ k, Sd k (toD rs o) ∧ k ≤ 64 := by
  cases o with
  | en => exact ⟨_, sd_ref 8, by decide⟩
  | sq => exact ⟨_, sd_ref 9, by decide⟩
  | mn m => exact ⟨_, sd_many m 24, by decide⟩
  | ok hs => exact ⟨_, sd_told (sd_ly (wh rs hs, none)), by decide⟩
theorem max_ex : ∀ {hs : List Int}, hs ≠ [] → ∃ M ∈ hs, ∀ h ∈ hs, h ≤ M
  | [], h => absurd rfl h
  | [a], _ => ⟨a, by simp, fun h hh => by rw [List.mem_singleton.mp hh]; exact Int.le_refl _⟩
  | a :: b :: l, _ => by
    obtain ⟨M, hM, gM⟩ := max_ex (hs := b :: l) (by simp)
    by_cases c : a ≤ M
    · refine ⟨M, List.mem_cons_of_mem _ hM, fun h hh => ?_⟩
      rcases List.mem_cons.mp hh with e | e
      · rw [e]
        exact c
      · exact gM h e
    · refine ⟨a, by simp, fun h hh => ?_⟩
      rcases List.mem_cons.mp hh with e | e
      · rw [e]
        exact Int.le_refl _
      · have := gM h e
        omega
theorem isTo_ex (bk : Option Int) (hs : List Int) : ∃ o, IsTo bk hs o := by
  cases bk with
  | some b => exact ⟨.en, .inl ⟨by simp, rfl⟩⟩
  | none =>
    by_cases c : hs = [] ∨ ∃ h ∈ hs, h < 1
    · exact ⟨.sq, .inr (.inl ⟨rfl, c, rfl⟩)⟩
    · have ne : hs ≠ [] := fun z => c (.inl z)
      have all : ∀ h ∈ hs, 1 ≤ h := fun h hh => by
        have : ¬ h < 1 := fun z => c (.inr ⟨h, hh, z⟩)
        omega
      obtain ⟨M, hM, gM⟩ : ∃ M ∈ hs, ∀ h ∈ hs, h ≤ M := max_ex ne
      by_cases l : 24 < M
      · exact ⟨.mn M, .inr (.inr ⟨rfl, ne, all, M, hM, gM, .inl ⟨l, rfl⟩⟩)⟩
      · exact ⟨.ok hs, .inr (.inr ⟨rfl, ne, all, M, hM, gM, .inr ⟨by omega, rfl⟩⟩)⟩
/-- what met tells of a retiming is what the law tells -/
theorem tm_met {TS : List (Addr × Str)} {st : Addr} {c : Nat → Addr} {l : LY} {hs : List Int} {H0 Hb : Hp} {Rw : VK} (gb : Gw TS st H0 Hb) (s0 : IsSx H0 st)
    (fin : ∀ (H' : Hp) (p : Addr) (o : TO), Gw TS st H0 H' → IsTo l.2 hs o → Dk K H' (.ref p) (toD l.1 o) → Rw (.ref p) H') :
    ∀ o H', IsTo l.2 hs o → Same Hb H' → TmEnd K c l Hb (fun v H1 => 2 ≤ sizeLine ∧ ∀ p, H1 p = none → Rw (.ref p) (upd H1 p (.tup [.str "told", v]))) (EMet c Rw) H' o := fun o H' ho s' => by
  cases o with
  | en =>
    refine ⟨8, by decide, rfl, (fun dd e => (nomatch e)), fun _ H1 p s1 np ep => ?_, fun z => absurd z (by decide), fun z => absurd z (by decide)⟩
    exact fin _ p .en (gb.trans (gw_same (s'.trans s1))) ho (ref_dk (.inl (.inl ep)))
  | sq =>
    refine ⟨9, by decide, rfl, (fun dd e => (nomatch e)), fun _ H1 p s1 np ep => ?_, fun z => absurd z (by decide), fun z => absurd z (by decide)⟩
    exact fin _ p .sq (gb.trans (gw_same (s'.trans s1))) ho (ref_dk (.inl (.inl ep)))
  | mn m =>
    intro d nd ed
    refine ⟨14, by decide, rfl, fun dd e => ⟨_, by cases e; exact ed⟩, fun z => absurd z (by decide), fun _ => ⟨d, _, _, _, rfl, ed, rfl, rfl, fun Hd p q sd' npd eq ep => ?_⟩, fun z => absurd z (by decide)⟩
    exact fin _ p (.mn m) (gb.trans (gw_same (s'.trans sd'))) ho (many_dk (.inl (.inl ep)) (.inl (.inl eq)))
  | ok hs' =>
    intro v hv
    have e : hs' = hs := by
      rcases ho with ⟨_, e⟩ | ⟨_, _, e⟩ | ⟨_, _, _, M, _, _, ⟨_, e⟩ | ⟨_, e⟩⟩
      · cases e
      · cases e
      · cases e
      · cases e
        rfl
    refine ⟨(by show 2 ≤ sizeLine; decide), fun p np => ?_⟩
    have sp' := same_upd (o := .tup [.str "told", v]) np
    exact fin _ p (.ok hs') (gb.trans (gw_same (s'.trans sp'))) ho (told_dk (.inl (.inl upd_same)) (LyAt.dk (hv.keep (Same.tk sp'))))
def sp_law (K : PySem.W.Frag) (TS : List (Addr × Str)) : Sp := fun vs H Q _ => ∃ (a : Addr) (ns : List Int), vs = [.ref a] ∧ SqL K H a (ns.map V.int) ∧ ns.length ≤ 63 ∧ LamX.Tabs TS H ∧ ∀ H', Q (.bl true) H'
theorem ok_law {f g cc PP : Addr} {fd fdm : FuncData} {c : Nat → Addr} {LE : Addr} {TS : List (Addr × Str)} (F : FunC K "law" "law" s_law f fd cc) (T : Txt K mg) (TX : ExcN K mg c LE) (MR : Mkr base mg cc PP "law" TS) (Fm : Fun K "_law_met" "_law_met" s__law_met g fdm) (mm : mg "_law_met" = some (.ref g)) (bm : Binds K fdm ["_law_call"] []) (DE : ClE P w K mg base 1 "_law_classes" ["_law_e"] (spCls c)) (D__law_state : Cl P w K mg base 2 "_law_state" ["_law_script", "_law_k"] (sp__law_state K)) (D__law_layer : Cl P w K mg base 3 "_law_layer" ["_law_state_here", "_law_most", "_law_ended"] (sp__law_layer K)) (D__law_take : Cl P w K mg base 1 "_law_take" ["_law_state_here", "_law_many"] (sp__law_take K)) (D__law_length : Cl P w K mg base 1 "_law_length" ["_law_rows"] (sp__law_length K)) (D__law_evened : Cl P w K mg base 2 "_law_evened" ["_law_layer_here", "_law_many"] (sp__law_evened K)) (D_evened : ClX P w K mg base 7 "evened" ["layer", "many"] (sp_evened K c)) (D__law_retimed : Cl P w K mg base 2 "_law_retimed" ["_law_layer_here", "_law_many"] (sp__law_retimed K)) (D_retimed : ClX P w K mg base 7 "retimed" ["layer", "many"] (sp_retimed K c)) : FnOk P w K mg base CX0 10 f fd ["_law_script"] (sp_law K TS) := by
  refine fun_okL F sc_law (fun vs H Q E h => ?_) (fun A outer s H vs Q E hr h => ?_)
  · obtain ⟨a, ns, rfl, _⟩ := h
    rfl
  · obtain ⟨a, ns, rfl, hS, hlen, hT0, q⟩ := h
    refine ⟨_, (pss_cons (ps_for PassesOwn.never rfl (pi_range1 (by rfl) T.b_range (pa_cons (pe_callB (call_max2 rfl) (by rfl) T.b_max (by decide +kernel) (pa_cons pe_int (pa_cons (pe_callB (call_min2 rfl) (by rfl) T.b_min (by decide +kernel) (pa_cons (pe_callB call_len_seq (by rfl) T.b_len (by decide +kernel) (pa_cons (pv 0) pa_nil)) (pa_cons pe_int pa_nil))) pa_nil))) pa_nil)) (pg_name (i := 1) sc_law.nd rfl (Or.inl rfl))
        (pss_cons (ps_set (i := 2) sc_law.nd rfl (Or.inl rfl) (pe_own D__law_state (hr.mono (by omega)) (by rfl) (pa_cons (pv 0) (pa_cons (pv 1) pa_nil))))
      (pss_one (ps_for PassesOwn.never rfl (pi_range1 (by rfl) T.b_range (pa_cons pe_int pa_nil)) (pg_name (i := 3) sc_law.nd rfl (Or.inl rfl))
        (pss_cons (ps_set (i := 4) sc_law.nd rfl (Or.inr rfl) (pe_own D__law_layer (hr.mono (by omega)) (by rfl) (pa_cons (pv 2) (pa_cons pe_int (pa_cons (pe_cmpR op_gt (pe_own D__law_take (hr.mono (by omega)) (by rfl) (pa_cons (pv 2) (pa_cons pe_int pa_nil))) pe_int (nomark _)) pa_nil)))))
      (pss_cons (ps_par (i := 5) (j := 6) (by rfl) sc_law.nd rfl rfl (by decide) rfl rfl (pa_cons (pe_callB call_len_seq (by rfl) T.b_len (by decide +kernel) (pa_cons (pe_ix ix_tup (pv 4) pe_int (fun _ _ => rfl)) pa_nil)) (pa_cons (pe_own D__law_length (hr.mono (by omega)) (by rfl) (pa_cons (pe_ix ix_tup (pv 4) pe_int (fun _ _ => rfl)) pa_nil)) pa_nil)) (by rfl))
      (pss_cons (ps_set (i := 7) sc_law.nd rfl (Or.inl rfl) (pe_lst (pa_cons (pe_op op_add pe_int (pe_own D__law_take (hr.mono (by omega)) (by rfl) (pa_cons (pv 2) (pa_cons pe_int pa_nil)))) (pa_cons (pe_callB (call_max2 rfl) (by rfl) T.b_max (by decide +kernel) (pa_cons pe_int (pa_cons (pv 5) pa_nil))) (pa_cons (pe_callB (call_max2 rfl) (by rfl) T.b_max (by decide +kernel) (pa_cons pe_int (pa_cons (pe_op op_sub (pv 5) pe_int) pa_nil))) (pa_cons (pe_callB (call_min2 rfl) (by rfl) T.b_min (by decide +kernel) (pa_cons pe_int (pa_cons (pe_op op_add (pe_op op_mul pe_int (pv 5)) pe_int) pa_nil))) pa_nil))))))
      (pss_cons (ps_set (i := 7) sc_law.nd rfl (Or.inl rfl) (pe_op op_cat (pv 7) (pe_lst (pa_cons (pe_callB (call_min2 rfl) (by rfl) T.b_min (by decide +kernel) (pa_cons pe_int (pa_cons (pe_callB (call_max2 rfl) (by rfl) T.b_max (by decide +kernel) (pa_cons pe_int (pa_cons (pv 6) pa_nil))) pa_nil))) (pa_cons (pe_callB (call_min2 rfl) (by rfl) T.b_min (by decide +kernel) (pa_cons pe_int (pa_cons (pe_op op_add (pe_op op_mul pe_int (pv 6)) pe_int) pa_nil))) (pa_cons (pe_op op_add pe_int (pe_own D__law_take (hr.mono (by omega)) (by rfl) (pa_cons (pv 2) (pa_cons pe_int pa_nil)))) pa_nil))))))
      (pss_one (ps_for PassesOwn.never rfl (pi_list (pv 7)) (pg_name (i := 8) sc_law.nd rfl (Or.inr rfl))
        (pss_one (ps_for PassesOwn.never rfl (pi_range1 (by rfl) T.b_range (pa_cons pe_int pa_nil)) (pg_name (i := 9) sc_law.nd rfl (Or.inl rfl))
        (pss_cons (ps_if (pt_cmpR (op_neD hr.units) (pe_met (k := 7) (met_mk Fm mm bm T TX DE (hr.mono (by omega))) (by rfl) MR.tb rfl MR.hm MR.hu (hr.mono (by omega)) (LamX.lamS_by (sc := defScope s_law) (by decide +kernel)) (fun A outer s H E f c' hr => (pe_ownX D_evened (hr.mono (by omega)) (takes_of rfl rfl rfl rfl) (by rfl) (pa_cons (pv 4) (pa_cons (pv 8) pa_nil))))) (pe_own D__law_evened (hr.mono (by omega)) (by rfl) (pa_cons (pv 4) (pa_cons (pv 8) pa_nil))) (nomark _)) (pss_one (ps_ret pe_bl)) pss_nil)
      (pss_one (ps_if (pt_cmpR (op_neD hr.units) (pe_met (k := 7) (met_mk Fm mm bm T TX DE (hr.mono (by omega))) (by rfl) MR.tb rfl MR.hm MR.hu (hr.mono (by omega)) (LamX.lamS_by (sc := defScope s_law) (by decide +kernel)) (fun A outer s H E f c' hr => (pe_ownX D_retimed (hr.mono (by omega)) (takes_of rfl rfl rfl rfl) (by rfl) (pa_cons (pv 4) (pa_cons (pv 8) pa_nil))))) (pe_own D__law_retimed (hr.mono (by omega)) (by rfl) (pa_cons (pv 4) (pa_cons (pv 8) pa_nil))) (nomark _)) (pss_one (ps_ret pe_bl)) pss_nil)))))))))))))))
      (pss_one (ps_ret pe_bl))), ?_⟩
    obtain ⟨c, c0, c1, ec⟩ : ∃ c : Int, 0 ≤ c ∧ c ≤ 3 ∧ (if (if (3 : Int) < ((ns.map V.int).length : Int) then (3 : Int) else ((ns.map V.int).length : Int)) > 1 then (if (3 : Int) < ((ns.map V.int).length : Int) then (3 : Int) else ((ns.map V.int).length : Int)) else (1 : Int)) = c := by
      refine ⟨_, ?_, ?_, rfl⟩ <;> (repeat' split) <;> omega
    refine ⟨_, rfl, a, _, rfl, .inl hS, _, _, rfl, _, _, rfl, c, ?_, by omega, by omega, ?_⟩
    · rw [ec]
    refine for_range (lo := 0) (n := c.toNat) (fun i σ H' => Go TS H H' ∧ ∃ y1 y2 y3 y4 y5 y6 y7 y8 y9, σ = [some (.ref a), y1, y2, y3, y4, y5, y6, y7, y8, y9])
      ⟨⟨LamX.ExtN.refl _, hT0⟩, none, none, none, none, none, none, none, none, none, rfl⟩ ?_ (fun _ H' _ => q H')
    rintro i σ H0 hi ⟨o0, y1, y2, y3, y4, y5, y6, y7, y8, y9, rfl⟩
    refine ⟨_, rfl, _, rfl, a, ns, _, rfl, o0.sqL hS, by omega, fun H1 st s1 n1 hs1 => ?_⟩
    refine ⟨3, rfl, by decide, by decide, ?_⟩
    refine for_range (lo := 0) (n := 3) (fun j σ H' => Gw TS st H1 H' ∧ ∃ y3 y4 y5 y6 y7 y8 y9, σ = [some (.ref a), some (.int (0 + (i : Int))), some (.ref st), y3, y4, y5, y6, y7, y8, y9])
      ⟨Gw.refl, _, _, _, _, _, _, _, rfl⟩ ?_ (fun σ H' z => by
        obtain ⟨g, z3, z4, z5, z6, z7, z8, z9, rfl⟩ := z
        exact ⟨g.go o0 s1 n1, _, _, _, _, _, _, _, _, _, rfl⟩)
    rintro j σ H2 hj ⟨g2, z3, z4, z5, z6, z7, z8, z9, rfl⟩
    have hs2 := g2.2.1 hs1
    -- the layer
    refine ⟨_, rfl, _, rfl, st, 5, rfl, hs2, by decide, by decide, fun r3 H3 a3 b3 g3 => ⟨_, _, rfl, rfl, ?_⟩⟩
    refine ⟨st, 8, _, rfl, g3.2.1 hs2, by decide, by decide, fun v l H4 g4 hl vl _ _ => ?_⟩
    have g24 := g3.trans g4
    have hs4 := g24.2.1 hs2
    obtain ⟨rs, bk⟩ := l
    obtain ⟨p, rv, rfl, hp, hR⟩ := id hl
    obtain ⟨pr, us, rfl, hq, pd⟩ := id hR
    have lus := Paired.length pd
    have r8 := vl.1.1
    have tb := tot_nonneg vl.1.2
    dsimp only at r8 tb lus pd hp hR
    -- count, end
    refine ⟨_, rfl, p, _, 0, _, rfl, rfl, hp, rfl, pr, us, rfl, .inr hq, _, rfl, p, _, 0, _, rfl, rfl, hp, rfl, .ref pr, rs, rfl, hR, by omega, fun H5 s5 => ⟨_, _, rfl, ?_⟩⟩
    have g25 := g24.trans (gx_same (st := st) s5)
    have hs5 := g25.2.1 hs2
    have hl5 := hl.keep (Same.tk s5)
    -- some
    obtain ⟨k, hk⟩ : ∃ k : Int, ((us.length : Nat) : Int) = k := ⟨_, rfl⟩
    rw [hk]
    refine ⟨_, rfl, st, 200, rfl, hs5, by decide, by decide, fun r6 H6 a6 b6 g6 => ⟨_, _, rfl, rfl, _, rfl, _, _, rfl, _, rfl, _, _, rfl, rfl, _, _, rfl, _, rfl, _, _, rfl, rfl, .inl ⟨by decide, by decide⟩, _, _, rfl, rfl, _, _, rfl, (by show 4 ≤ sizeLine; decide), fun p7 np7 => ?_⟩⟩
    obtain ⟨A4, hA4, vA4⟩ : ∃ A4 : List V, [V.int (1 + r6), .int (if k > 1 then k else 1), .int (if k - 1 > 1 then k - 1 else 1), .int (if 24 * k + 1 < 200 then 24 * k + 1 else 200)] = A4 ∧ A4.length = 4 ∧ ∀ u ∈ A4, ∃ m : Int, u = .int m ∧ 1 ≤ m ∧ m ≤ 200 := by
      refine ⟨_, rfl, rfl, fun u hu => ?_⟩
      simp only [List.mem_cons, List.not_mem_nil, or_false] at hu
      rcases hu with e | e | e | e
      · exact ⟨_, e, by omega, by omega⟩
      · exact ⟨_, e, by split <;> omega, by split <;> omega⟩
      · exact ⟨_, e, by split <;> omega, by split <;> omega⟩
      · exact ⟨_, e, by split <;> omega, by split <;> omega⟩
    rw [hA4]
    have n7 := sx_ne (g6.2.1 hs5) np7
    obtain ⟨s7, e7⟩ := new_at (.lst A4) np7
    generalize upd H6 p7 (.lst A4) = H7 at s7 e7 ⊢
    have g27 := g25.trans (g6.trans (gx_same (st := st) s7))
    have hs7 := g27.2.1 hs2
    obtain ⟨e, he⟩ : ∃ e : Int, tot rs = e := ⟨_, rfl⟩
    rw [he]
    refine ⟨_, rfl, _, rfl, _, _, rfl, _, _, rfl, _, rfl, _, _, rfl, rfl, .inl ⟨by decide, by decide⟩, _, _, rfl, rfl, _, _, rfl, _, rfl, st, 40, rfl, hs7, by decide, by decide, fun r8' H8 a8 b8 g8 => ⟨_, _, rfl, rfl, (by show 3 ≤ sizeLine; decide), fun p9 np9 => ?_⟩⟩
    obtain ⟨A3, hA3, vA3⟩ : ∃ A3 : List V, [V.int (if (if e > 1 then e else 1) < 200 then (if e > 1 then e else 1) else 200), .int (if 2 * e + 1 < 200 then 2 * e + 1 else 200), .int (1 + r8')] = A3 ∧ A3.length = 3 ∧ ∀ u ∈ A3, ∃ m : Int, u = .int m ∧ 1 ≤ m ∧ m ≤ 200 := by
      refine ⟨_, rfl, rfl, fun u hu => ?_⟩
      rcases mem3 hu with z | z | z
      · exact ⟨_, z, by (repeat' split) <;> omega, by (repeat' split) <;> omega⟩
      · exact ⟨_, z, by split <;> omega, by split <;> omega⟩
      · exact ⟨_, z, by omega, by omega⟩
    rw [hA3]
    obtain ⟨s9, e9⟩ := new_at (.lst A3) np9
    generalize upd H8 p9 (.lst A3) = H9 at s9 e9 ⊢
    refine ⟨p7, p9, _, _, rfl, rfl, s9 _ _ (g8.1 _ _ n7 lst_tbl e7), e9, Nat.le_of_lt (small1000 (by rw [vA4.1, vA3.1]; decide)), fun p10 np10 => ?_⟩
    have g29 := g27.trans (g8.trans (gx_same (st := st) s9))
    have n10 := sx_ne (g29.2.1 hs2) np10
    obtain ⟨s10, e10⟩ := new_at (.lst (A4 ++ A3)) np10
    have vA : ∀ u ∈ A4 ++ A3, ∃ m : Int, u = .int m ∧ 1 ≤ m ∧ m ≤ 200 := fun u hu => by
      rcases List.mem_append.mp hu with z | z
      · exact vA4.2 u z
      · exact vA3.2 u z
    generalize upd H9 p10 (.lst (A4 ++ A3)) = H10 at s10 e10 ⊢
    have gB := g2.trans (g29.trans (gx_same (st := st) s10)).l
    have hsB := gB.2.1 hs1
    have hlB : LyAt K H10 (.ref p) (rs, bk) := hl5.keep ((g6.trans ((gx_same (st := st) s7).trans (g8.trans ((gx_same (st := st) s9).trans (gx_same (st := st) s10))))).tk hs5)
    have hTB := gB.2.2 (o0.t.ext s1)
    refine ⟨_, rfl, p10, rfl, ⟨_, .inl (.inl e10)⟩, for_list (K := K) (a := p10) (xs := A4 ++ A3) (fun j' σ H' => Gw TS st H10 H' ∧ ∃ y8 y9, σ = [some (.ref a), some (.int (0 + (i : Int))), some (.ref st), some (.int (0 + (j : Int))), some (.ref p), some (.int k), some (.int e), some (.ref p10), y8, y9])
      ⟨Gw.refl, _, _, rfl⟩ (fun j' σ H' _ z => .inl (.inl (z.1.1 _ _ n10 lst_tbl e10))) ?_ (fun σ H' z => by
        obtain ⟨g, z8, z9, rfl⟩ := z
        exact ⟨gB.trans g, _, _, _, _, _, _, _, rfl⟩)⟩
    rintro j' u σ H11 hu ⟨g11, w8, w9, rfl⟩
    obtain ⟨m, rfl, m1, m2⟩ := vA u (List.mem_of_getElem? hu)
    refine ⟨2, rfl, by decide, by decide, ?_⟩
    refine for_range (lo := 0) (n := 2) (fun l' σ H' => Gw TS st H10 H' ∧ ∃ y9, σ = [some (.ref a), some (.int (0 + (i : Int))), some (.ref st), some (.int (0 + (j : Int))), some (.ref p), some (.int k), some (.int e), some (.ref p10), some (.int m), y9])
      ⟨g11, _, rfl⟩ ?_ (fun σ H' z => by
        obtain ⟨g, z9, rfl⟩ := z
        exact ⟨g, _, _, rfl⟩)
    rintro l' σ H12 hl' ⟨g12, w9', rfl⟩
    refine ⟨g12.2.2 hTB, fun Hb eb tb' => ?_⟩
    have gb := g12.trans (gw_ext (st := st) eb tb')
    refine ⟨_, rfl, _, rfl, .ref p, (rs, bk), m, rfl, hlB.keep (gb.tk hsB), vl, m1, m2, ?_⟩
    refine tm_met (TS := TS) (st := st) (H0 := H10) (hs := evs rs.length m) gb hsB (fun H13 pm o g13 ho dk => ?_)
    refine ⟨_, rfl, _, rfl, .ref p, (rs, bk), m, rfl, hlB.keep (g13.tk hsB), vl, m1, m2, fun o' H14 pn ho' s14 dk' => ?_⟩
    obtain rfl := ho.uniq ho'
    refine ne_eqd (dk.keep (Same.tk s14)).dp dk'.dp (sd_to rs o) ⟨_, rfl, iteF ?_⟩
    have g14 := g13.trans (gw_same (TS := TS) s14)
    refine ⟨g14.2.2 hTB, fun Hc ec' tc => ?_⟩
    have gc := g14.trans (gw_ext (st := st) ec' tc)
    refine ⟨_, rfl, _, rfl, .ref p, (rs, bk), m, rfl, hlB.keep (gc.tk hsB), vl, m1, m2, ?_⟩
    refine tm_met (TS := TS) (st := st) (H0 := H10) (hs := scl (hds rs) (tot rs) m) gc hsB (fun H15 pm' o2 g15 ho2 dk2 => ?_)
    refine ⟨_, rfl, _, rfl, .ref p, (rs, bk), m, rfl, hlB.keep (g15.tk hsB), vl, m1, m2, fun o2' H16 pn' ho2' s16 dk2' => ?_⟩
    obtain rfl := ho2.uniq ho2'
    refine ne_eqd (dk2.keep (Same.tk s16)).dp dk2'.dp (sd_to rs o2) ⟨_, rfl, iteF ?_⟩
    exact ⟨g15.trans (gw_same (TS := TS) s16), _, rfl⟩
end

theorem all_mk {l : PySem.W.OpenLaw} {w : World} {K : PySem.W.Frag} {h : Heap} {mg : Str → Option Value} {fa : Addr} {q : Program} (X : K.In h) (G : h.Ns mainGlobals mg) (hfa : mg "law" = some (.ref fa)) (TQ : TabsIn q K h)
    {f0 f1 f2 f3 f4 f5 f6 f7 f8 f9 f10 f11 f12 f13 f14 f15 f16 f17 f18 f19 f20 f21 f22 f23 f24 f25 f26 f27 f28 f29 f30 f31 f32 C0 C1 C2 C3 C4 C5 C6 C7 C8 C9 C10 C11 C12 C13 C14 C15 LE cc32 PP32 : Addr} {od0 an0 od1 an1 od2 an2 od3 an3 od4 an4 od5 an5 od6 an6 od7 an7 od8 an8 od9 an9 od10 an10 od11 an11 od12 an12 od13 an13 od14 an14 od15 an15 od16 an16 od17 an17 od18 an18 od19 an19 od20 an20 od21 an21 od22 an22 od23 an23 od24 an24 od25 an25 od26 an26 od27 an27 od28 an28 od29 an29 od30 an30 od31 an31 od32 an32 dc_32 : Option Addr} {sl0 sl1 sl2 sl3 sl4 sl5 sl6 sl7 sl8 sl9 sl10 sl11 sl12 sl13 sl14 sl15 sl16 sl17 sl18 sl19 sl20 sl21 sl22 sl23 sl24 sl25 sl26 sl27 sl28 sl29 sl30 sl31 sl32 slc32 : Array (Option Value)} {oc0 kV0 dc0 pm0 ct0 cd0 oc1 kV1 dc1 pm1 ct1 cd1 oc2 kV2 dc2 pm2 ct2 cd2 oc3 kV3 dc3 pm3 ct3 cd3 oc4 kV4 dc4 pm4 ct4 cd4 oc5 kV5 dc5 pm5 ct5 cd5 oc6 kV6 dc6 pm6 ct6 cd6 oc7 kV7 dc7 pm7 ct7 cd7 oc8 kV8 dc8 pm8 ct8 cd8 oc9 kV9 dc9 pm9 ct9 cd9 oc10 kV10 dc10 pm10 ct10 cd10 oc11 kV11 dc11 pm11 ct11 cd11 oc12 kV12 dc12 pm12 ct12 cd12 oc13 kV13 dc13 pm13 ct13 cd13 oc14 kV14 dc14 pm14 ct14 cd14 oc15 kV15 dc15 pm15 ct15 cd15 oc16 kV16 dc16 pm16 ct16 cd16 oc17 kV17 dc17 pm17 ct17 cd17 oc18 kV18 dc18 pm18 ct18 cd18 oc19 kV19 dc19 pm19 ct19 cd19 oc20 kV20 dc20 pm20 ct20 cd20 oc21 kV21 dc21 pm21 ct21 cd21 oc22 kV22 dc22 pm22 ct22 cd22 oc23 kV23 dc23 pm23 ct23 cd23 oc24 kV24 dc24 pm24 ct24 cd24 oc25 kV25 dc25 pm25 ct25 cd25 oc26 kV26 dc26 pm26 ct26 cd26 oc27 kV27 dc27 pm27 ct27 cd27 oc28 kV28 dc28 pm28 ct28 cd28 oc29 kV29 dc29 pm29 ct29 cd29 oc30 kV30 dc30 pm30 ct30 cd30 oc31 kV31 dc31 pm31 ct31 cd31 oc32 kV32 dc32 pm32 ct32 ec32 : Value} {vc32 : Array Value} {t0 t1 t2 t3 : Tok}
    (a0 : PySem.W.nsIn K mainGlobals "is_whole_from" = some (some (.ref f0))) (l0 : K.lookup f0 = some ⟨oc0, od0, .func (PySem.W.fnOf "is_whole_from" "is_whole_from" (defArgs s_is_whole_from) (defBody s_is_whole_from) (defScope s_is_whole_from) .none kV0 dc0 pm0 an0 cd0 ct0), sl0⟩) (c0 : PySem.W.codeIn K cd0 "is_whole_from" = true) (k0 : PySem.W.keepIn K (.ref f0) = true)
    (a1 : PySem.W.nsIn K mainGlobals "is_whole" = some (some (.ref f1))) (l1 : K.lookup f1 = some ⟨oc1, od1, .func (PySem.W.fnOf "is_whole" "is_whole" (defArgs s_is_whole) (defBody s_is_whole) (defScope s_is_whole) .none kV1 dc1 pm1 an1 cd1 ct1), sl1⟩) (c1 : PySem.W.codeIn K cd1 "is_whole" = true) (k1 : PySem.W.keepIn K (.ref f1) = true)
    (a2 : PySem.W.nsIn K mainGlobals "need_number" = some (some (.ref f2))) (l2 : K.lookup f2 = some ⟨oc2, od2, .func (PySem.W.fnOf "need_number" "need_number" (defArgs s_need_number) (defBody s_need_number) (defScope s_need_number) .none kV2 dc2 pm2 an2 cd2 ct2), sl2⟩) (c2 : PySem.W.codeIn K cd2 "need_number" = true) (k2 : PySem.W.keepIn K (.ref f2) = true)
    (a3 : PySem.W.nsIn K mainGlobals "need_at_most" = some (some (.ref f3))) (l3 : K.lookup f3 = some ⟨oc3, od3, .func (PySem.W.fnOf "need_at_most" "need_at_most" (defArgs s_need_at_most) (defBody s_need_at_most) (defScope s_need_at_most) .none kV3 dc3 pm3 an3 cd3 ct3), sl3⟩) (c3 : PySem.W.codeIn K cd3 "need_at_most" = true) (k3 : PySem.W.keepIn K (.ref f3) = true)
    (a4 : PySem.W.nsIn K mainGlobals "is_tuple" = some (some (.ref f4))) (l4 : K.lookup f4 = some ⟨oc4, od4, .func (PySem.W.fnOf "is_tuple" "is_tuple" (defArgs s_is_tuple) (defBody s_is_tuple) (defScope s_is_tuple) .none kV4 dc4 pm4 an4 cd4 ct4), sl4⟩) (c4 : PySem.W.codeIn K cd4 "is_tuple" = true) (k4 : PySem.W.keepIn K (.ref f4) = true)
    (a5 : PySem.W.nsIn K mainGlobals "is_drawing" = some (some (.ref f5))) (l5 : K.lookup f5 = some ⟨oc5, od5, .func (PySem.W.fnOf "is_drawing" "is_drawing" (defArgs s_is_drawing) (defBody s_is_drawing) (defScope s_is_drawing) .none kV5 dc5 pm5 an5 cd5 ct5), sl5⟩) (c5 : PySem.W.codeIn K cd5 "is_drawing" = true) (k5 : PySem.W.keepIn K (.ref f5) = true)
    (a6 : PySem.W.nsIn K mainGlobals "is_hold" = some (some (.ref f6))) (l6 : K.lookup f6 = some ⟨oc6, od6, .func (PySem.W.fnOf "is_hold" "is_hold" (defArgs s_is_hold) (defBody s_is_hold) (defScope s_is_hold) .none kV6 dc6 pm6 an6 cd6 ct6), sl6⟩) (c6 : PySem.W.codeIn K cd6 "is_hold" = true) (k6 : PySem.W.keepIn K (.ref f6) = true)
    (a7 : PySem.W.nsIn K mainGlobals "is_row" = some (some (.ref f7))) (l7 : K.lookup f7 = some ⟨oc7, od7, .func (PySem.W.fnOf "is_row" "is_row" (defArgs s_is_row) (defBody s_is_row) (defScope s_is_row) .none kV7 dc7 pm7 an7 cd7 ct7), sl7⟩) (c7 : PySem.W.codeIn K cd7 "is_row" = true) (k7 : PySem.W.keepIn K (.ref f7) = true)
    (a8 : PySem.W.nsIn K mainGlobals "is_layer" = some (some (.ref f8))) (l8 : K.lookup f8 = some ⟨oc8, od8, .func (PySem.W.fnOf "is_layer" "is_layer" (defArgs s_is_layer) (defBody s_is_layer) (defScope s_is_layer) .none kV8 dc8 pm8 an8 cd8 ct8), sl8⟩) (c8 : PySem.W.codeIn K cd8 "is_layer" = true) (k8 : PySem.W.keepIn K (.ref f8) = true)
    (a9 : PySem.W.nsIn K mainGlobals "need_layer" = some (some (.ref f9))) (l9 : K.lookup f9 = some ⟨oc9, od9, .func (PySem.W.fnOf "need_layer" "need_layer" (defArgs s_need_layer) (defBody s_need_layer) (defScope s_need_layer) .none kV9 dc9 pm9 an9 cd9 ct9), sl9⟩) (c9 : PySem.W.codeIn K cd9 "need_layer" = true) (k9 : PySem.W.keepIn K (.ref f9) = true)
    (a10 : PySem.W.nsIn K mainGlobals "need_length" = some (some (.ref f10))) (l10 : K.lookup f10 = some ⟨oc10, od10, .func (PySem.W.fnOf "need_length" "need_length" (defArgs s_need_length) (defBody s_need_length) (defScope s_need_length) .none kV10 dc10 pm10 an10 cd10 ct10), sl10⟩) (c10 : PySem.W.codeIn K cd10 "need_length" = true) (k10 : PySem.W.keepIn K (.ref f10) = true)
    (a11 : PySem.W.nsIn K mainGlobals "held" = some (some (.ref f11))) (l11 : K.lookup f11 = some ⟨oc11, od11, .func (PySem.W.fnOf "held" "held" (defArgs s_held) (defBody s_held) (defScope s_held) .none kV11 dc11 pm11 an11 cd11 ct11), sl11⟩) (c11 : PySem.W.codeIn K cd11 "held" = true) (k11 : PySem.W.keepIn K (.ref f11) = true)
    (a12 : PySem.W.nsIn K mainGlobals "length_of" = some (some (.ref f12))) (l12 : K.lookup f12 = some ⟨oc12, od12, .func (PySem.W.fnOf "length_of" "length_of" (defArgs s_length_of) (defBody s_length_of) (defScope s_length_of) .none kV12 dc12 pm12 an12 cd12 ct12), sl12⟩) (c12 : PySem.W.codeIn K cd12 "length_of" = true) (k12 : PySem.W.keepIn K (.ref f12) = true)
    (a13 : PySem.W.nsIn K mainGlobals "need_time" = some (some (.ref f13))) (l13 : K.lookup f13 = some ⟨oc13, od13, .func (PySem.W.fnOf "need_time" "need_time" (defArgs s_need_time) (defBody s_need_time) (defScope s_need_time) .none kV13 dc13 pm13 an13 cd13 ct13), sl13⟩) (c13 : PySem.W.codeIn K cd13 "need_time" = true) (k13 : PySem.W.keepIn K (.ref f13) = true)
    (a14 : PySem.W.nsIn K mainGlobals "need_fitting" = some (some (.ref f14))) (l14 : K.lookup f14 = some ⟨oc14, od14, .func (PySem.W.fnOf "need_fitting" "need_fitting" (defArgs s_need_fitting) (defBody s_need_fitting) (defScope s_need_fitting) .none kV14 dc14 pm14 an14 cd14 ct14), sl14⟩) (c14 : PySem.W.codeIn K cd14 "need_fitting" = true) (k14 : PySem.W.keepIn K (.ref f14) = true)
    (a15 : PySem.W.nsIn K mainGlobals "even_holds" = some (some (.ref f15))) (l15 : K.lookup f15 = some ⟨oc15, od15, .func (PySem.W.fnOf "even_holds" "even_holds" (defArgs s_even_holds) (defBody s_even_holds) (defScope s_even_holds) .none kV15 dc15 pm15 an15 cd15 ct15), sl15⟩) (c15 : PySem.W.codeIn K cd15 "even_holds" = true) (k15 : PySem.W.keepIn K (.ref f15) = true)
    (a16 : PySem.W.nsIn K mainGlobals "scaled" = some (some (.ref f16))) (l16 : K.lookup f16 = some ⟨oc16, od16, .func (PySem.W.fnOf "scaled" "scaled" (defArgs s_scaled) (defBody s_scaled) (defScope s_scaled) .none kV16 dc16 pm16 an16 cd16 ct16), sl16⟩) (c16 : PySem.W.codeIn K cd16 "scaled" = true) (k16 : PySem.W.keepIn K (.ref f16) = true)
    (a17 : PySem.W.nsIn K mainGlobals "layer_with" = some (some (.ref f17))) (l17 : K.lookup f17 = some ⟨oc17, od17, .func (PySem.W.fnOf "layer_with" "layer_with" (defArgs s_layer_with) (defBody s_layer_with) (defScope s_layer_with) .none kV17 dc17 pm17 an17 cd17 ct17), sl17⟩) (c17 : PySem.W.codeIn K cd17 "layer_with" = true) (k17 : PySem.W.keepIn K (.ref f17) = true)
    (a18 : PySem.W.nsIn K mainGlobals "scaled_layer" = some (some (.ref f18))) (l18 : K.lookup f18 = some ⟨oc18, od18, .func (PySem.W.fnOf "scaled_layer" "scaled_layer" (defArgs s_scaled_layer) (defBody s_scaled_layer) (defScope s_scaled_layer) .none kV18 dc18 pm18 an18 cd18 ct18), sl18⟩) (c18 : PySem.W.codeIn K cd18 "scaled_layer" = true) (k18 : PySem.W.keepIn K (.ref f18) = true)
    (a19 : PySem.W.nsIn K mainGlobals "evened" = some (some (.ref f19))) (l19 : K.lookup f19 = some ⟨oc19, od19, .func (PySem.W.fnOf "evened" "evened" (defArgs s_evened) (defBody s_evened) (defScope s_evened) .none kV19 dc19 pm19 an19 cd19 ct19), sl19⟩) (c19 : PySem.W.codeIn K cd19 "evened" = true) (k19 : PySem.W.keepIn K (.ref f19) = true)
    (a20 : PySem.W.nsIn K mainGlobals "retimed" = some (some (.ref f20))) (l20 : K.lookup f20 = some ⟨oc20, od20, .func (PySem.W.fnOf "retimed" "retimed" (defArgs s_retimed) (defBody s_retimed) (defScope s_retimed) .none kV20 dc20 pm20 an20 cd20 ct20), sl20⟩) (c20 : PySem.W.codeIn K cd20 "retimed" = true) (k20 : PySem.W.keepIn K (.ref f20) = true)
    (a21 : PySem.W.nsIn K mainGlobals "_law_cell_at" = some (some (.ref f21))) (l21 : K.lookup f21 = some ⟨oc21, od21, .func (PySem.W.fnOf "_law_cell_at" "_law_cell_at" (defArgs s__law_cell_at) (defBody s__law_cell_at) (defScope s__law_cell_at) .none kV21 dc21 pm21 an21 cd21 ct21), sl21⟩) (c21 : PySem.W.codeIn K cd21 "_law_cell_at" = true) (k21 : PySem.W.keepIn K (.ref f21) = true)
    (a22 : PySem.W.nsIn K mainGlobals "_law_state" = some (some (.ref f22))) (l22 : K.lookup f22 = some ⟨oc22, od22, .func (PySem.W.fnOf "_law_state" "_law_state" (defArgs s__law_state) (defBody s__law_state) (defScope s__law_state) .none kV22 dc22 pm22 an22 cd22 ct22), sl22⟩) (c22 : PySem.W.codeIn K cd22 "_law_state" = true) (k22 : PySem.W.keepIn K (.ref f22) = true)
    (a23 : PySem.W.nsIn K mainGlobals "_law_take" = some (some (.ref f23))) (l23 : K.lookup f23 = some ⟨oc23, od23, .func (PySem.W.fnOf "_law_take" "_law_take" (defArgs s__law_take) (defBody s__law_take) (defScope s__law_take) .none kV23 dc23 pm23 an23 cd23 ct23), sl23⟩) (c23 : PySem.W.codeIn K cd23 "_law_take" = true) (k23 : PySem.W.keepIn K (.ref f23) = true)
    (a24 : PySem.W.nsIn K mainGlobals "_law_row" = some (some (.ref f24))) (l24 : K.lookup f24 = some ⟨oc24, od24, .func (PySem.W.fnOf "_law_row" "_law_row" (defArgs s__law_row) (defBody s__law_row) (defScope s__law_row) .none kV24 dc24 pm24 an24 cd24 ct24), sl24⟩) (c24 : PySem.W.codeIn K cd24 "_law_row" = true) (k24 : PySem.W.keepIn K (.ref f24) = true)
    (a25 : PySem.W.nsIn K mainGlobals "_law_layer" = some (some (.ref f25))) (l25 : K.lookup f25 = some ⟨oc25, od25, .func (PySem.W.fnOf "_law_layer" "_law_layer" (defArgs s__law_layer) (defBody s__law_layer) (defScope s__law_layer) .none kV25 dc25 pm25 an25 cd25 ct25), sl25⟩) (c25 : PySem.W.codeIn K cd25 "_law_layer" = true) (k25 : PySem.W.keepIn K (.ref f25) = true)
    (a26 : PySem.W.nsIn K mainGlobals "_law_length" = some (some (.ref f26))) (l26 : K.lookup f26 = some ⟨oc26, od26, .func (PySem.W.fnOf "_law_length" "_law_length" (defArgs s__law_length) (defBody s__law_length) (defScope s__law_length) .none kV26 dc26 pm26 an26 cd26 ct26), sl26⟩) (c26 : PySem.W.codeIn K cd26 "_law_length" = true) (k26 : PySem.W.keepIn K (.ref f26) = true)
    (a27 : PySem.W.nsIn K mainGlobals "_law_told" = some (some (.ref f27))) (l27 : K.lookup f27 = some ⟨oc27, od27, .func (PySem.W.fnOf "_law_told" "_law_told" (defArgs s__law_told) (defBody s__law_told) (defScope s__law_told) .none kV27 dc27 pm27 an27 cd27 ct27), sl27⟩) (c27 : PySem.W.codeIn K cd27 "_law_told" = true) (k27 : PySem.W.keepIn K (.ref f27) = true)
    (a28 : PySem.W.nsIn K mainGlobals "_law_evened" = some (some (.ref f28))) (l28 : K.lookup f28 = some ⟨oc28, od28, .func (PySem.W.fnOf "_law_evened" "_law_evened" (defArgs s__law_evened) (defBody s__law_evened) (defScope s__law_evened) .none kV28 dc28 pm28 an28 cd28 ct28), sl28⟩) (c28 : PySem.W.codeIn K cd28 "_law_evened" = true) (k28 : PySem.W.keepIn K (.ref f28) = true)
    (a29 : PySem.W.nsIn K mainGlobals "_law_retimed" = some (some (.ref f29))) (l29 : K.lookup f29 = some ⟨oc29, od29, .func (PySem.W.fnOf "_law_retimed" "_law_retimed" (defArgs s__law_retimed) (defBody s__law_retimed) (defScope s__law_retimed) .none kV29 dc29 pm29 an29 cd29 ct29), sl29⟩) (c29 : PySem.W.codeIn K cd29 "_law_retimed" = true) (k29 : PySem.W.keepIn K (.ref f29) = true)
    (a30 : PySem.W.nsIn K mainGlobals "_law_met" = some (some (.ref f30))) (l30 : K.lookup f30 = some ⟨oc30, od30, .func (PySem.W.fnOf "_law_met" "_law_met" (defArgs s__law_met) (defBody s__law_met) (defScope s__law_met) .none kV30 dc30 pm30 an30 cd30 ct30), sl30⟩) (c30 : PySem.W.codeIn K cd30 "_law_met" = true) (k30 : PySem.W.keepIn K (.ref f30) = true)
    (a31 : PySem.W.nsIn K mainGlobals "_law_classes" = some (some (.ref f31))) (l31 : K.lookup f31 = some ⟨oc31, od31, .func (PySem.W.fnOf "_law_classes" "_law_classes" (defArgs s__law_classes) (defBody s__law_classes) (defScope s__law_classes) .none kV31 dc31 pm31 an31 cd31 ct31), sl31⟩) (c31 : PySem.W.codeIn K cd31 "_law_classes" = true) (k31 : PySem.W.keepIn K (.ref f31) = true)
    (a32 : PySem.W.nsIn K mainGlobals "law" = some (some (.ref f32))) (l32 : K.lookup f32 = some ⟨oc32, od32, .func (PySem.W.fnOf "law" "law" (defArgs s_law) (defBody s_law) (defScope s_law) .none kV32 dc32 pm32 an32 (.ref cc32) ct32), sl32⟩) (c32 : PySem.W.codeIn K (.ref cc32) "law" = true) (k32 : PySem.W.keepIn K (.ref f32) = true)
    (lc32 : K.lookup cc32 = some ⟨ec32, dc_32, .fields vc32, slc32⟩) (v1132 : vc32[11]? = some (.ref PP32)) (tq32 : ((recsOf q).find? fun e => e.name == ("law" : Str)).isSome = true) (tt32 : PySem.W.tabIn K "law" = some (cc32, PP32)) (tn32 : K.lookup PP32 = none)
    (z_ValueError : PySem.W.nsIn K mainGlobals "ValueError" = some none)
    (z_len : PySem.W.nsIn K mainGlobals "len" = some none)
    (z_isinstance : PySem.W.nsIn K mainGlobals "isinstance" = some none)
    (z_max : PySem.W.nsIn K mainGlobals "max" = some none)
    (z_min : PySem.W.nsIn K mainGlobals "min" = some none)
    (z_sum : PySem.W.nsIn K mainGlobals "sum" = some none)
    (z_all : PySem.W.nsIn K mainGlobals "all" = some none)
    (z_any : PySem.W.nsIn K mainGlobals "any" = some none)
    (z_tuple : PySem.W.nsIn K mainGlobals "tuple" = some none)
    (z_range : PySem.W.nsIn K mainGlobals "range" = some none)
    (z_zip : PySem.W.nsIn K mainGlobals "zip" = some none)
    (z_bool : PySem.W.nsIn K mainGlobals "bool" = some none)
    (z_int : PySem.W.nsIn K mainGlobals "int" = some none)
    (v_MOST_DRAWING : PySem.W.nsIn K mainGlobals "MOST_DRAWING" = some (some (.int 9 t0)))
    (v_MOST_HOLD : PySem.W.nsIn K mainGlobals "MOST_HOLD" = some (some (.int 24 t1)))
    (v_MOST_ROWS : PySem.W.nsIn K mainGlobals "MOST_ROWS" = some (some (.int 8 t2)))
    (v_MOST_PICTURES : PySem.W.nsIn K mainGlobals "MOST_PICTURES" = some (some (.int 200 t3)))
    (x0 : PySem.W.nsIn K mainGlobals "NoLayer" = some (some (.ref C0)))
    (x1 : PySem.W.nsIn K mainGlobals "NoWindow" = some (some (.ref C1)))
    (x2 : PySem.W.nsIn K mainGlobals "NoSheet" = some (some (.ref C2)))
    (x3 : PySem.W.nsIn K mainGlobals "NoMoment" = some (some (.ref C3)))
    (x4 : PySem.W.nsIn K mainGlobals "NoRow" = some (some (.ref C4)))
    (x5 : PySem.W.nsIn K mainGlobals "NoNumber" = some (some (.ref C5)))
    (x6 : PySem.W.nsIn K mainGlobals "NoDrawings" = some (some (.ref C6)))
    (x7 : PySem.W.nsIn K mainGlobals "Unlike" = some (some (.ref C7)))
    (x8 : PySem.W.nsIn K mainGlobals "Endless" = some (some (.ref C8)))
    (x9 : PySem.W.nsIn K mainGlobals "Squeezed" = some (some (.ref C9)))
    (x10 : PySem.W.nsIn K mainGlobals "NoPaper" = some (some (.ref C10)))
    (x11 : PySem.W.nsIn K mainGlobals "NoDeed" = some (some (.ref C11)))
    (x12 : PySem.W.nsIn K mainGlobals "NoText" = some (some (.ref C12)))
    (x13 : PySem.W.nsIn K mainGlobals "NoWords" = some (some (.ref C13)))
    (x14 : PySem.W.nsIn K mainGlobals "TooMany" = some (some (.ref C14)))
    (x15 : PySem.W.nsIn K mainGlobals "Leaned" = some (some (.ref C15)))
    (xL : PySem.W.nsIn K mainGlobals "LanternError" = some (some (.ref LE)))
    (xb : excTB K (fun i => [C0, C1, C2, C3, C4, C5, C6, C7, C8, C9, C10, C11, C12, C13, C14, C15].getD i 0) LE = true) (nm1 : PySem.W.findIn K (.ref C14) "many" = some none) (nm2 : PySem.W.findIn K (.ref C14) "most" = some none) (nm3 : PySem.W.findIn K (.ref C15) "numbers" = some none)
    {nmTooMany qnTooMany : Str} {NTooMany fITooMany : Addr} {bsTooMany bmTooMany subTooMany : List Value} {snTooMany : List Str} {abTooMany : Bool} {colTooMany : Option Bool} {ddTooMany odTooMany anTooMany : Option Addr} {m0TooMany m1TooMany m2TooMany m3TooMany m5TooMany : Option Value} {ocTooMany kVTooMany dcTooMany pmTooMany cdTooMany ctTooMany : Value} {slTooMany : Array (Option Value)}
    (xoTooMany : K.lookup C14 = some (excClassObj nmTooMany qnTooMany C14 NTooMany bsTooMany bmTooMany true snTooMany subTooMany abTooMany colTooMany ddTooMany m0TooMany m1TooMany m2TooMany m3TooMany m5TooMany "ValueError.__new__")) (xrTooMany : PySem.HandSPX.refsVE bmTooMany = true) (saTooMany : PySem.W.findIn K (.ref C14) "__setattr__" = some (some (.builtin "object.__setattr__"))) (iITooMany : PySem.W.findIn K (.ref C14) "__init__" = some (some (.ref fITooMany))) (tITooMany : PySem.W.typeIn K (.ref fITooMany) = some (.type "function"))
    (lITooMany : K.lookup fITooMany = some ⟨ocTooMany, odTooMany, .func (PySem.W.fnOf "__init__" "TooMany.__init__" (defArgs s_TooMany_init) (defBody s_TooMany_init) (defScope s_TooMany_init) .none kVTooMany dcTooMany pmTooMany anTooMany cdTooMany ctTooMany), slTooMany⟩) (cITooMany : PySem.W.codeIn K cdTooMany "TooMany.__init__" = true) (kITooMany : PySem.W.keepIn K (.ref fITooMany) = true) :
    LamX.LawAtS l w K CX0 10 63 "_law_script" mg fa h := by
  have e := hfa.symm.trans (PySem.W.mg_of X G a32)
  cases e
  have T : Txt K mg := ⟨PySem.W.mg_none_of X G z_ValueError, PySem.W.mg_none_of X G z_len, PySem.W.mg_none_of X G z_isinstance, PySem.W.mg_none_of X G z_max, PySem.W.mg_none_of X G z_min, PySem.W.mg_none_of X G z_sum, PySem.W.mg_none_of X G z_all, PySem.W.mg_none_of X G z_any, PySem.W.mg_none_of X G z_tuple, PySem.W.mg_none_of X G z_range, PySem.W.mg_none_of X G z_zip, PySem.W.mg_none_of X G z_bool, PySem.W.mg_none_of X G z_int, ⟨_, PySem.W.mg_of X G v_MOST_DRAWING⟩, ⟨_, PySem.W.mg_of X G v_MOST_HOLD⟩, ⟨_, PySem.W.mg_of X G v_MOST_ROWS⟩, ⟨_, PySem.W.mg_of X G v_MOST_PICTURES⟩⟩
  have gX : ∀ i n, clsN[i]? = some n → mg n = some (.ref ((fun i => [C0, C1, C2, C3, C4, C5, C6, C7, C8, C9, C10, C11, C12, C13, C14, C15].getD i 0) i)) := fun i n hn => match i, hn with
    | 0, h => by cases (show some ("NoLayer" : Str) = some n from h); exact PySem.W.mg_of X G x0
    | 1, h => by cases (show some ("NoWindow" : Str) = some n from h); exact PySem.W.mg_of X G x1
    | 2, h => by cases (show some ("NoSheet" : Str) = some n from h); exact PySem.W.mg_of X G x2
    | 3, h => by cases (show some ("NoMoment" : Str) = some n from h); exact PySem.W.mg_of X G x3
    | 4, h => by cases (show some ("NoRow" : Str) = some n from h); exact PySem.W.mg_of X G x4
    | 5, h => by cases (show some ("NoNumber" : Str) = some n from h); exact PySem.W.mg_of X G x5
    | 6, h => by cases (show some ("NoDrawings" : Str) = some n from h); exact PySem.W.mg_of X G x6
    | 7, h => by cases (show some ("Unlike" : Str) = some n from h); exact PySem.W.mg_of X G x7
    | 8, h => by cases (show some ("Endless" : Str) = some n from h); exact PySem.W.mg_of X G x8
    | 9, h => by cases (show some ("Squeezed" : Str) = some n from h); exact PySem.W.mg_of X G x9
    | 10, h => by cases (show some ("NoPaper" : Str) = some n from h); exact PySem.W.mg_of X G x10
    | 11, h => by cases (show some ("NoDeed" : Str) = some n from h); exact PySem.W.mg_of X G x11
    | 12, h => by cases (show some ("NoText" : Str) = some n from h); exact PySem.W.mg_of X G x12
    | 13, h => by cases (show some ("NoWords" : Str) = some n from h); exact PySem.W.mg_of X G x13
    | 14, h => by cases (show some ("TooMany" : Str) = some n from h); exact PySem.W.mg_of X G x14
    | 15, h => by cases (show some ("Leaned" : Str) = some n from h); exact PySem.W.mg_of X G x15
    | k + 16, h => by simp [clsN] at h
  have TX : ExcN K mg (fun i => [C0, C1, C2, C3, C4, C5, C6, C7, C8, C9, C10, C11, C12, C13, C14, C15].getD i 0) LE := ⟨excT_of xb, gX, PySem.W.mg_of X G xL, nm1, nm2, nm3⟩
  refine ⟨(PySem.W.fnOf "law" "law" (defArgs s_law) (defBody s_law) (defScope s_law) .none kV32 dc32 pm32 an32 (.ref cc32) ct32), [(cc32, PP32)], sp_law K [(PP32, qLam "law")], ?_, ?_, ?_, fun s v => .of_eq rfl, fun H a ns hl _ hT hS => ⟨a, ns, rfl, hS, hl, ?_, fun _ => rfl⟩, fun base kb gb tb => ?_⟩
  · intro p hp
    simp only [List.mem_cons, List.not_mem_nil, or_false] at hp
    rcases hp with rfl
    · exact (TQ _ _ _ tq32 tt32).2
  · intro p hp
    simp only [List.mem_cons, List.not_mem_nil, or_false] at hp
    rcases hp with rfl
    · exact tn32
  · intro p hp
    simp only [List.mem_cons, List.not_mem_nil, or_false] at hp
    rcases hp with rfl
    · exact (TQ _ _ _ tq32 tt32).1
  · intro p hp
    simp only [List.mem_cons, List.not_mem_nil, or_false] at hp
    rcases hp with rfl
    · exact LamX.TabS.nil (hT (cc32, PP32) (by simp))
  have FITooMany := fun_mk (st := s_TooMany_init) lITooMany cITooMany kITooMany
  have bITooMany := FITooMany.binds (ps := ["self", "many", "most"]) fun _ _ _ _ _ _ us hl => match us, hl with | [_, _, _], _ => rfl
  have TITooMany : IniT l.prog w K mg base ((fun i => [C0, C1, C2, C3, C4, C5, C6, C7, C8, C9, C10, C11, C12, C13, C14, C15].getD i 0) 14) 3 (sp_TooMany_init (fun i => [C0, C1, C2, C3, C4, C5, C6, C7, C8, C9, C10, C11, C12, C13, C14, C15].getD i 0) K) := ⟨fITooMany, _, _, ⟨⟨_, _, _, _, _, _, _, _, _, _, _, _, _, _, _, xoTooMany, xrTooMany⟩, saTooMany, (TX.e 14 (by decide)).hs, TX.ty 14 (by decide), TX.kp 14 (by decide)⟩, iITooMany, tITooMany, ok_TooMany_init FITooMany, bITooMany⟩
  have F0 := fun_mk (st := s_is_whole_from) l0 c0 k0
  have b0 := F0.binds (ps := ["thing", "least"]) fun _ _ _ _ _ _ us hl => match us, hl with | [_, _], _ => rfl
  have D_is_whole_from : Cl l.prog w K mg base 1 "is_whole_from" ["thing", "least"] (sp_is_whole_from K) := ⟨_, _, ok_is_whole_from F0 T , k0, b0, PySem.W.mg_of X G a0⟩
  have F1 := fun_mk (st := s_is_whole) l1 c1 k1
  have b1 := F1.binds (ps := ["thing", "least", "most"]) fun _ _ _ _ _ _ us hl => match us, hl with | [_, _, _], _ => rfl
  have D_is_whole : Cl l.prog w K mg base 2 "is_whole" ["thing", "least", "most"] (sp_is_whole K) := ⟨_, _, ok_is_whole F1 T D_is_whole_from, k1, b1, PySem.W.mg_of X G a1⟩
  have F2 := fun_mk (st := s_need_number) l2 c2 k2
  have b2 := F2.binds (ps := ["thing", "least", "most"]) fun _ _ _ _ _ _ us hl => match us, hl with | [_, _, _], _ => rfl
  have D_need_number : Cl l.prog w K mg base 3 "need_number" ["thing", "least", "most"] (sp_need_number K) := ⟨_, _, ok_need_number F2 T D_is_whole, k2, b2, PySem.W.mg_of X G a2⟩
  have F3 := fun_mk (st := s_need_at_most) l3 c3 k3
  have b3 := F3.binds (ps := ["many", "most"]) fun _ _ _ _ _ _ us hl => match us, hl with | [_, _], _ => rfl
  have D_need_at_most : ClX l.prog w K mg base 3 "need_at_most" ["many", "most"] (sp_need_at_most K (fun i => [C0, C1, C2, C3, C4, C5, C6, C7, C8, C9, C10, C11, C12, C13, C14, C15].getD i 0)) := ⟨_, _, ok_need_at_most F3 T TX TITooMany , k3, b3, PySem.W.mg_of X G a3⟩
  have F4 := fun_mk (st := s_is_tuple) l4 c4 k4
  have b4 := F4.binds (ps := ["thing", "least", "most"]) fun _ _ _ _ _ _ us hl => match us, hl with | [_, _, _], _ => rfl
  have D_is_tuple : Cl l.prog w K mg base 1 "is_tuple" ["thing", "least", "most"] (sp_is_tuple K) := ⟨_, _, ok_is_tuple F4 T , k4, b4, PySem.W.mg_of X G a4⟩
  have F5 := fun_mk (st := s_is_drawing) l5 c5 k5
  have b5 := F5.binds (ps := ["thing"]) fun _ _ _ _ _ _ us hl => match us, hl with | [_], _ => rfl
  have D_is_drawing : Cl l.prog w K mg base 3 "is_drawing" ["thing"] (sp_is_drawing K) := ⟨_, _, ok_is_drawing F5 T D_is_whole, k5, b5, PySem.W.mg_of X G a5⟩
  have F6 := fun_mk (st := s_is_hold) l6 c6 k6
  have b6 := F6.binds (ps := ["thing"]) fun _ _ _ _ _ _ us hl => match us, hl with | [_], _ => rfl
  have D_is_hold : Cl l.prog w K mg base 3 "is_hold" ["thing"] (sp_is_hold K) := ⟨_, _, ok_is_hold F6 T D_is_whole, k6, b6, PySem.W.mg_of X G a6⟩
  have F7 := fun_mk (st := s_is_row) l7 c7 k7
  have b7 := F7.binds (ps := ["thing"]) fun _ _ _ _ _ _ us hl => match us, hl with | [_], _ => rfl
  have D_is_row : Cl l.prog w K mg base 4 "is_row" ["thing"] (sp_is_row K) := ⟨_, _, ok_is_row F7 T D_is_tuple D_is_drawing D_is_hold, k7, b7, PySem.W.mg_of X G a7⟩
  have F8 := fun_mk (st := s_is_layer) l8 c8 k8
  have b8 := F8.binds (ps := ["thing"]) fun _ _ _ _ _ _ us hl => match us, hl with | [_], _ => rfl
  have D_is_layer : Cl l.prog w K mg base 5 "is_layer" ["thing"] (sp_is_layer K) := ⟨_, _, ok_is_layer F8 T D_is_tuple D_is_row D_is_whole, k8, b8, PySem.W.mg_of X G a8⟩
  have F9 := fun_mk (st := s_need_layer) l9 c9 k9
  have b9 := F9.binds (ps := ["thing"]) fun _ _ _ _ _ _ us hl => match us, hl with | [_], _ => rfl
  have D_need_layer : Cl l.prog w K mg base 6 "need_layer" ["thing"] (sp_need_layer K) := ⟨_, _, ok_need_layer F9 T D_is_layer, k9, b9, PySem.W.mg_of X G a9⟩
  have F10 := fun_mk (st := s_need_length) l10 c10 k10
  have b10 := F10.binds (ps := ["length"]) fun _ _ _ _ _ _ us hl => match us, hl with | [_], _ => rfl
  have D_need_length : ClX l.prog w K mg base 1 "need_length" ["length"] (sp_need_length K (fun i => [C0, C1, C2, C3, C4, C5, C6, C7, C8, C9, C10, C11, C12, C13, C14, C15].getD i 0)) := ⟨_, _, ok_need_length F10 T TX  , k10, b10, PySem.W.mg_of X G a10⟩
  have F11 := fun_mk (st := s_held) l11 c11 k11
  have b11 := F11.binds (ps := ["rows"]) fun _ _ _ _ _ _ us hl => match us, hl with | [_], _ => rfl
  have D_held : Cl l.prog w K mg base 1 "held" ["rows"] (sp_held K) := ⟨_, _, ok_held F11 T , k11, b11, PySem.W.mg_of X G a11⟩
  have F12 := fun_mk (st := s_length_of) l12 c12 k12
  have b12 := F12.binds (ps := ["layer"]) fun _ _ _ _ _ _ us hl => match us, hl with | [_], _ => rfl
  have D_length_of : Cl l.prog w K mg base 2 "length_of" ["layer"] (sp_length_of K) := ⟨_, _, ok_length_of F12 T D_held, k12, b12, PySem.W.mg_of X G a12⟩
  have F13 := fun_mk (st := s_need_time) l13 c13 k13
  have b13 := F13.binds (ps := ["length", "many"]) fun _ _ _ _ _ _ us hl => match us, hl with | [_, _], _ => rfl
  have D_need_time : ClX l.prog w K mg base 4 "need_time" ["length", "many"] (sp_need_time K (fun i => [C0, C1, C2, C3, C4, C5, C6, C7, C8, C9, C10, C11, C12, C13, C14, C15].getD i 0)) := ⟨_, _, ok_need_time F13 T TX  D_need_number D_need_length, k13, b13, PySem.W.mg_of X G a13⟩
  have F14 := fun_mk (st := s_need_fitting) l14 c14 k14
  have b14 := F14.binds (ps := ["layers", "moves"]) fun _ _ _ _ _ _ us hl => match us, hl with | [_, _], _ => rfl
  have D_need_fitting : ClX l.prog w K mg base 4 "need_fitting" ["layers", "moves"] (sp_need_fitting K (fun i => [C0, C1, C2, C3, C4, C5, C6, C7, C8, C9, C10, C11, C12, C13, C14, C15].getD i 0)) := ⟨_, _, ok_need_fitting F14 T TX  D_need_at_most, k14, b14, PySem.W.mg_of X G a14⟩
  have F15 := fun_mk (st := s_even_holds) l15 c15 k15
  have b15 := F15.binds (ps := ["parts", "many"]) fun _ _ _ _ _ _ us hl => match us, hl with | [_, _], _ => rfl
  have D_even_holds : Cl l.prog w K mg base 1 "even_holds" ["parts", "many"] (sp_even_holds K) := ⟨_, _, ok_even_holds F15 T , k15, b15, PySem.W.mg_of X G a15⟩
  have F16 := fun_mk (st := s_scaled) l16 c16 k16
  have b16 := F16.binds (ps := ["numbers", "length", "many"]) fun _ _ _ _ _ _ us hl => match us, hl with | [_, _, _], _ => rfl
  have D_scaled : Cl l.prog w K mg base 1 "scaled" ["numbers", "length", "many"] (sp_scaled K) := ⟨_, _, ok_scaled F16 T , k16, b16, PySem.W.mg_of X G a16⟩
  have F17 := fun_mk (st := s_layer_with) l17 c17 k17
  have b17 := F17.binds (ps := ["layer", "holds"]) fun _ _ _ _ _ _ us hl => match us, hl with | [_, _], _ => rfl
  have D_layer_with : Cl l.prog w K mg base 1 "layer_with" ["layer", "holds"] (sp_layer_with K) := ⟨_, _, ok_layer_with F17 T , k17, b17, PySem.W.mg_of X G a17⟩
  have F18 := fun_mk (st := s_scaled_layer) l18 c18 k18
  have b18 := F18.binds (ps := ["layer", "length", "many"]) fun _ _ _ _ _ _ us hl => match us, hl with | [_, _, _], _ => rfl
  have D_scaled_layer : Cl l.prog w K mg base 2 "scaled_layer" ["layer", "length", "many"] (sp_scaled_layer K) := ⟨_, _, ok_scaled_layer F18 T D_layer_with D_scaled, k18, b18, PySem.W.mg_of X G a18⟩
  have F19 := fun_mk (st := s_evened) l19 c19 k19
  have b19 := F19.binds (ps := ["layer", "many"]) fun _ _ _ _ _ _ us hl => match us, hl with | [_, _], _ => rfl
  have D_evened : ClX l.prog w K mg base 7 "evened" ["layer", "many"] (sp_evened K (fun i => [C0, C1, C2, C3, C4, C5, C6, C7, C8, C9, C10, C11, C12, C13, C14, C15].getD i 0)) := ⟨_, _, ok_evened F19 T TX  D_need_layer D_need_time D_length_of D_layer_with D_even_holds D_need_fitting, k19, b19, PySem.W.mg_of X G a19⟩
  have F20 := fun_mk (st := s_retimed) l20 c20 k20
  have b20 := F20.binds (ps := ["layer", "many"]) fun _ _ _ _ _ _ us hl => match us, hl with | [_, _], _ => rfl
  have D_retimed : ClX l.prog w K mg base 7 "retimed" ["layer", "many"] (sp_retimed K (fun i => [C0, C1, C2, C3, C4, C5, C6, C7, C8, C9, C10, C11, C12, C13, C14, C15].getD i 0)) := ⟨_, _, ok_retimed F20 T TX  D_need_layer D_length_of D_need_time D_scaled_layer D_need_fitting, k20, b20, PySem.W.mg_of X G a20⟩
  have F21 := fun_mk (st := s__law_cell_at) l21 c21 k21
  have b21 := F21.binds (ps := ["_law_script", "_law_k"]) fun _ _ _ _ _ _ us hl => match us, hl with | [_, _], _ => rfl
  have D__law_cell_at : Cl l.prog w K mg base 1 "_law_cell_at" ["_law_script", "_law_k"] (sp__law_cell_at K) := ⟨_, _, ok__law_cell_at F21 T , k21, b21, PySem.W.mg_of X G a21⟩
  have F22 := fun_mk (st := s__law_state) l22 c22 k22
  have b22 := F22.binds (ps := ["_law_script", "_law_k"]) fun _ _ _ _ _ _ us hl => match us, hl with | [_, _], _ => rfl
  have D__law_state : Cl l.prog w K mg base 2 "_law_state" ["_law_script", "_law_k"] (sp__law_state K) := ⟨_, _, ok__law_state F22 T D__law_cell_at, k22, b22, PySem.W.mg_of X G a22⟩
  have F23 := fun_mk (st := s__law_take) l23 c23 k23
  have b23 := F23.binds (ps := ["_law_state_here", "_law_many"]) fun _ _ _ _ _ _ us hl => match us, hl with | [_, _], _ => rfl
  have D__law_take : Cl l.prog w K mg base 1 "_law_take" ["_law_state_here", "_law_many"] (sp__law_take K) := ⟨_, _, ok__law_take F23 T , k23, b23, PySem.W.mg_of X G a23⟩
  have F24 := fun_mk (st := s__law_row) l24 c24 k24
  have b24 := F24.binds (ps := ["_law_state_here"]) fun _ _ _ _ _ _ us hl => match us, hl with | [_], _ => rfl
  have D__law_row : Cl l.prog w K mg base 2 "_law_row" ["_law_state_here"] (sp__law_row K) := ⟨_, _, ok__law_row F24 T D__law_take, k24, b24, PySem.W.mg_of X G a24⟩
  have F25 := fun_mk (st := s__law_layer) l25 c25 k25
  have b25 := F25.binds (ps := ["_law_state_here", "_law_most", "_law_ended"]) fun _ _ _ _ _ _ us hl => match us, hl with | [_, _, _], _ => rfl
  have D__law_layer : Cl l.prog w K mg base 3 "_law_layer" ["_law_state_here", "_law_most", "_law_ended"] (sp__law_layer K) := ⟨_, _, ok__law_layer F25 T D__law_row D__law_take, k25, b25, PySem.W.mg_of X G a25⟩
  have F26 := fun_mk (st := s__law_length) l26 c26 k26
  have b26 := F26.binds (ps := ["_law_rows"]) fun _ _ _ _ _ _ us hl => match us, hl with | [_], _ => rfl
  have D__law_length : Cl l.prog w K mg base 1 "_law_length" ["_law_rows"] (sp__law_length K) := ⟨_, _, ok__law_length F26 T , k26, b26, PySem.W.mg_of X G a26⟩
  have F27 := fun_mk (st := s__law_told) l27 c27 k27
  have b27 := F27.binds (ps := ["_law_layer_here", "_law_holds"]) fun _ _ _ _ _ _ us hl => match us, hl with | [_, _], _ => rfl
  have D__law_told : Cl l.prog w K mg base 1 "_law_told" ["_law_layer_here", "_law_holds"] (sp__law_told K) := ⟨_, _, ok__law_told F27 T , k27, b27, PySem.W.mg_of X G a27⟩
  have F28 := fun_mk (st := s__law_evened) l28 c28 k28
  have b28 := F28.binds (ps := ["_law_layer_here", "_law_many"]) fun _ _ _ _ _ _ us hl => match us, hl with | [_, _], _ => rfl
  have D__law_evened : Cl l.prog w K mg base 2 "_law_evened" ["_law_layer_here", "_law_many"] (sp__law_evened K) := ⟨_, _, ok__law_evened F28 T D__law_told, k28, b28, PySem.W.mg_of X G a28⟩
  have F29 := fun_mk (st := s__law_retimed) l29 c29 k29
  have b29 := F29.binds (ps := ["_law_layer_here", "_law_many"]) fun _ _ _ _ _ _ us hl => match us, hl with | [_, _], _ => rfl
  have D__law_retimed : Cl l.prog w K mg base 2 "_law_retimed" ["_law_layer_here", "_law_many"] (sp__law_retimed K) := ⟨_, _, ok__law_retimed F29 T D__law_length D__law_told, k29, b29, PySem.W.mg_of X G a29⟩
  have F30 := fun_mk (st := s__law_met) l30 c30 k30
  have b30 := F30.binds (ps := ["_law_call"]) fun _ _ _ _ _ _ us hl => match us, hl with | [_], _ => rfl
  have F31 := fun_mk (st := s__law_classes) l31 c31 k31
  have b31 := F31.binds (ps := ["_law_e"]) fun _ _ _ _ _ _ us hl => match us, hl with | [_], _ => rfl
  have DE : ClE l.prog w K mg base 1 "_law_classes" ["_law_e"] (spCls (fun i => [C0, C1, C2, C3, C4, C5, C6, C7, C8, C9, C10, C11, C12, C13, C14, C15].getD i 0)) := ⟨_, _, ok__law_classes F31 T TX, k31, b31, PySem.W.mg_of X G a31⟩
  have F32 := funC_mk (st := s_law) l32 c32
  have F32b := fun_mk (st := s_law) l32 c32 k32
  have MR32 : Mkr base mg cc32 PP32 "law" [(PP32, qLam "law")] := ⟨tb (cc32, PP32) (by simp), by simp, fun p hp e => by
    simp only [List.mem_cons, List.not_mem_nil, or_false] at hp
    rcases hp with rfl
    · rfl⟩
  exact ok_law F32 T TX MR32 F30 (PySem.W.mg_of X G a30) b30 DE D__law_state D__law_layer D__law_take D__law_length D__law_evened D_evened D__law_retimed D_retimed

end Lan
open PySem PySem.W PyProof.Rows
set_option maxRecDepth 100000 in
set_option maxHeartbeats 0 in
theorem PySem.Challenge.cw_lanternrows_k44_layers_evened_and_retime_holds : PySem.Challenge.rw_lanternrows_k44_layers_evened_and_retime.Holds := by
  w_on; o_law; k_head; (case hw => w_witness2)
  k_fill
  refine Lan.walk_ofL (l := PySem.Challenge.rw_lanternrows_k44_layers_evened_and_retime) (n := 63) (k := 10) (x := "_law_script") rfl (by decide) rfl ⟨rfl, by decide, by decide⟩ (fun w h Y => PySem.W.km_in_of Y) ?F
  case F =>
    intro w mg fa h KX G hmg TQ
    refine' Lan.all_mk KX G hmg TQ ?a0 ?l0 ?c0 ?k0 ?a1 ?l1 ?c1 ?k1 ?a2 ?l2 ?c2 ?k2 ?a3 ?l3 ?c3 ?k3 ?a4 ?l4 ?c4 ?k4 ?a5 ?l5 ?c5 ?k5 ?a6 ?l6 ?c6 ?k6 ?a7 ?l7 ?c7 ?k7 ?a8 ?l8 ?c8 ?k8 ?a9 ?l9 ?c9 ?k9 ?a10 ?l10 ?c10 ?k10 ?a11 ?l11 ?c11 ?k11 ?a12 ?l12 ?c12 ?k12 ?a13 ?l13 ?c13 ?k13 ?a14 ?l14 ?c14 ?k14 ?a15 ?l15 ?c15 ?k15 ?a16 ?l16 ?c16 ?k16 ?a17 ?l17 ?c17 ?k17 ?a18 ?l18 ?c18 ?k18 ?a19 ?l19 ?c19 ?k19 ?a20 ?l20 ?c20 ?k20 ?a21 ?l21 ?c21 ?k21 ?a22 ?l22 ?c22 ?k22 ?a23 ?l23 ?c23 ?k23 ?a24 ?l24 ?c24 ?k24 ?a25 ?l25 ?c25 ?k25 ?a26 ?l26 ?c26 ?k26 ?a27 ?l27 ?c27 ?k27 ?a28 ?l28 ?c28 ?k28 ?a29 ?l29 ?c29 ?k29 ?a30 ?l30 ?c30 ?k30 ?a31 ?l31 ?c31 ?k31 ?a32 ?l32 ?c32 ?k32 ?lc32 ?v1132 ?tq32 ?tt32 ?tn32 ?z_ValueError ?z_len ?z_isinstance ?z_max ?z_min ?z_sum ?z_all ?z_any ?z_tuple ?z_range ?z_zip ?z_bool ?z_int ?v_MOST_DRAWING ?v_MOST_HOLD ?v_MOST_ROWS ?v_MOST_PICTURES ?x0 ?x1 ?x2 ?x3 ?x4 ?x5 ?x6 ?x7 ?x8 ?x9 ?x10 ?x11 ?x12 ?x13 ?x14 ?x15 ?xL ?xb ?nm1 ?nm2 ?nm3 ?xoTooMany ?xrTooMany ?saTooMany ?iITooMany ?tITooMany ?lITooMany ?cITooMany ?kITooMany
    (case a0 => k_is)
    (case l0 => k_is)
    (case c0 => k_is)
    (case k0 => k_is)
    (case a1 => k_is)
    (case l1 => k_is)
    (case c1 => k_is)
    (case k1 => k_is)
    (case a2 => k_is)
    (case l2 => k_is)
    (case c2 => k_is)
    (case k2 => k_is)
    (case a3 => k_is)
    (case l3 => k_is)
    (case c3 => k_is)
    (case k3 => k_is)
    (case a4 => k_is)
    (case l4 => k_is)
    (case c4 => k_is)
    (case k4 => k_is)
    (case a5 => k_is)
    (case l5 => k_is)
    (case c5 => k_is)
    (case k5 => k_is)
    (case a6 => k_is)
    (case l6 => k_is)
    (case c6 => k_is)
    (case k6 => k_is)
    (case a7 => k_is)
    (case l7 => k_is)
    (case c7 => k_is)
    (case k7 => k_is)
    (case a8 => k_is)
    (case l8 => k_is)
    (case c8 => k_is)
    (case k8 => k_is)
    (case a9 => k_is)
    (case l9 => k_is)
    (case c9 => k_is)
    (case k9 => k_is)
    (case a10 => k_is)
    (case l10 => k_is)
    (case c10 => k_is)
    (case k10 => k_is)
    (case a11 => k_is)
    (case l11 => k_is)
    (case c11 => k_is)
    (case k11 => k_is)
    (case a12 => k_is)
    (case l12 => k_is)
    (case c12 => k_is)
    (case k12 => k_is)
    (case a13 => k_is)
    (case l13 => k_is)
    (case c13 => k_is)
    (case k13 => k_is)
    (case a14 => k_is)
    (case l14 => k_is)
    (case c14 => k_is)
    (case k14 => k_is)
    (case a15 => k_is)
    (case l15 => k_is)
    (case c15 => k_is)
    (case k15 => k_is)
    (case a16 => k_is)
    (case l16 => k_is)
    (case c16 => k_is)
    (case k16 => k_is)
    (case a17 => k_is)
    (case l17 => k_is)
    (case c17 => k_is)
    (case k17 => k_is)
    (case a18 => k_is)
    (case l18 => k_is)
    (case c18 => k_is)
    (case k18 => k_is)
    (case a19 => k_is)
    (case l19 => k_is)
    (case c19 => k_is)
    (case k19 => k_is)
    (case a20 => k_is)
    (case l20 => k_is)
    (case c20 => k_is)
    (case k20 => k_is)
    (case a21 => k_is)
    (case l21 => k_is)
    (case c21 => k_is)
    (case k21 => k_is)
    (case a22 => k_is)
    (case l22 => k_is)
    (case c22 => k_is)
    (case k22 => k_is)
    (case a23 => k_is)
    (case l23 => k_is)
    (case c23 => k_is)
    (case k23 => k_is)
    (case a24 => k_is)
    (case l24 => k_is)
    (case c24 => k_is)
    (case k24 => k_is)
    (case a25 => k_is)
    (case l25 => k_is)
    (case c25 => k_is)
    (case k25 => k_is)
    (case a26 => k_is)
    (case l26 => k_is)
    (case c26 => k_is)
    (case k26 => k_is)
    (case a27 => k_is)
    (case l27 => k_is)
    (case c27 => k_is)
    (case k27 => k_is)
    (case a28 => k_is)
    (case l28 => k_is)
    (case c28 => k_is)
    (case k28 => k_is)
    (case a29 => k_is)
    (case l29 => k_is)
    (case c29 => k_is)
    (case k29 => k_is)
    (case a30 => k_is)
    (case l30 => k_is)
    (case c30 => k_is)
    (case k30 => k_is)
    (case a31 => k_is)
    (case l31 => k_is)
    (case c31 => k_is)
    (case k31 => k_is)
    (case a32 => k_is)
    (case l32 => k_is)
    (case c32 => k_is)
    (case k32 => k_is)
    (case lc32 => k_is)
    (case v1132 => rfl)
    (case tq32 => kernel_rfl)
    (case tt32 => kernel_rfl)
    (case tn32 => kernel_rfl)
    (case z_ValueError => k_is)
    (case z_len => k_is)
    (case z_isinstance => k_is)
    (case z_max => k_is)
    (case z_min => k_is)
    (case z_sum => k_is)
    (case z_all => k_is)
    (case z_any => k_is)
    (case z_tuple => k_is)
    (case z_range => k_is)
    (case z_zip => k_is)
    (case z_bool => k_is)
    (case z_int => k_is)
    (case v_MOST_DRAWING => k_is)
    (case v_MOST_HOLD => k_is)
    (case v_MOST_ROWS => k_is)
    (case v_MOST_PICTURES => k_is)
    (case x0 => k_is)
    (case x1 => k_is)
    (case x2 => k_is)
    (case x3 => k_is)
    (case x4 => k_is)
    (case x5 => k_is)
    (case x6 => k_is)
    (case x7 => k_is)
    (case x8 => k_is)
    (case x9 => k_is)
    (case x10 => k_is)
    (case x11 => k_is)
    (case x12 => k_is)
    (case x13 => k_is)
    (case x14 => k_is)
    (case x15 => k_is)
    (case xL => k_is)
    (case xb => kernel_rfl)
    (case nm1 => k_is)
    (case nm2 => k_is)
    (case nm3 => k_is)
    (case xoTooMany => k_is)
    (case xrTooMany => decide +kernel)
    (case saTooMany => k_is)
    (case iITooMany => k_is)
    (case tITooMany => k_is)
    (case lITooMany => k_is)
    (case cITooMany => k_is)
    (case kITooMany => k_is)
