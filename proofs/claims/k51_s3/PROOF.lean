import PyProof.Rows.All
import Wide.All
import OpenK.AllK
import Wide.FinOn
import HandS.ForMost
import HandS.IsInst
import HandS.TupAny
import HandS.TupMul
import HandS.Conv
import HandS.Style
import HandS.Flow
import HandS.Codes
import HandS.Zip
import KE.GoesNew
import HandS.Lambda
import HandS.EndTab
import HandS.ExcInit
import HandS.ExcField
import HandS.ExcIs
import HandS.HeadHook3
import HandS.HotCalls
import HandS.TryOnly
import HandS.WordsExc
import HandS.ExcOwn
import HandS.Small
import HandS.FStr
import KE.KExcIs
import HandS.SetFor
import HandS.Strs
import KE.KDictZip
import HandS.SortKw
import KE.DataMinMax
import HandS.Flt
import HandS.RaiseMore
import HandS.StrMore
import HandS.Walk
import HandS.Deep
import HandS.CallSlots
import HandS.ListItems
import HandS.DictComp
import PySem.Challenge.RW_lanternrows_k51_undone_out_of_the_midst
set_option Elab.async false
set_option linter.all false
set_option maxRecDepth 100000
set_option maxHeartbeats 4000000
namespace Lan
open PySem PySem.Spec PyProof.Rows L2
/-! ### short rules -/
def bkV : Option Int → V
  | none => .non
  | some i => .int i
structure Cl (P : Program) (w : World) (K : PySem.W.Frag) (mg : Str → Option Value) (base : Heap) (k : Nat) (x : Str) (ps : List Str) (sp : Sp) : Prop where
  ex : ∃ (f : Addr) (fd : FuncData), FnOk P w K mg base CX0 k f fd ps sp ∧ PySem.W.keepIn K (.ref f) = true ∧ Binds K fd ps [] ∧ mg x = some (.ref f)
section
variable {X : Cx}
theorem pe_gint {x : Str} {pos : Pos} {n : Int} (hg : Gl X x) (h : ∃ t, X.mg x = some (.int n t)) (hd : (x == ("__debug__" : Str)) = false := by decide) : PE X (.Name x pos) (tC (.int n)) := by
  obtain ⟨t, h⟩ := h
  exact pe_glob hg h ⟨_, rfl⟩ hd
theorem pe_own {k : Nat} {x : Str} {ps : List Str} {sp : Sp} {e : Expr} {es : List Expr} {t : TA} {p pos : Pos} (C : Cl X.prog X.w X.K X.mg X.base k x ps sp) (hr : Room k X.A) (hg : Gl X x) (ha : PA X (e :: es) t)
    (hdb : (x == ("__debug__" : Str)) = false := by decide) (he : starEach (e :: es) X.env = (false, eval e X.env) :: starEach es X.env := by rfl) (hpl : (backTo pos (starEach es X.env)).any (·.1) = false := by rfl) :
    PE X (.Call (.Name x p) (e :: es) [] pos) (tCall sp [] E0 t) := by
  obtain ⟨f, fd, F, hk, hb, hm⟩ := C.ex
  exact pe_call F hr hg hm hk hb .nil pass0 ha hdb he hpl
def tPartN (t : TE) : TO := fun σ H Q => t σ H fun x H1 => ∃ o : Option Int, x = bkV o ∧ Q o H1
theorem po_opt {e : Expr} {te : TE} (h : PE X e te) : PO X (some e) (tPartN te) := by
  refine ⟨fun pins s σ H Q I hw => ?_⟩
  rw [evalPart_some]
  refine thn (h.run pins s σ H _ I hw) fun u s1 ⟨x, H1, I1, r1, q1⟩ => ?_
  obtain ⟨o, rfl, q⟩ := q1
  cases o with
  | none =>
    cases r1
    exact ⟨none, H1, I1, .none, q⟩
  | some i =>
    obtain ⟨t, rfl⟩ := r1
    exact ⟨some i, H1, I1, .int i t, q⟩
end
/-! ### heaps -/
theorem same_upd {H : Hp} {p : Addr} {o : HO} (h : H p = none) : Same H (upd H p o) := fun b x e => by
  rw [upd_ne (ne_of_none e h)]
  exact e
theorem new_at {H : Hp} {p : Addr} (o : HO) (h : H p = none) : Same H (upd H p o) ∧ (upd H p o) p = some o := ⟨same_upd h, upd_same⟩
theorem Same.sqT {K : PySem.W.Frag} {H H' : Hp} {a : Addr} {xs : List V} (e : Same H H') (h : SqT K H a xs) : SqT K H' a xs := by
  rcases h with (h | ⟨o, h⟩) | h
  · exact .inl (.inl (e _ _ h))
  · exact .inl (.inr ⟨o, e _ _ h⟩)
  · exact .inr h
def IsSt (H : Hp) (st : Addr) : Prop := ∃ a b : Int, H st = some (.lst [.int a, .int b]) ∧ 0 ≤ a ∧ 0 ≤ b ∧ b < 2147483647
/-- all but the state at st stands, and st holds a state as before -/
def Gr (st : Addr) (H H' : Hp) : Prop := (∀ b o, b ≠ st → H b = some o → H' b = some o) ∧ (IsSt H st → IsSt H' st)
theorem Gr.refl {st : Addr} {H : Hp} : Gr st H H := ⟨fun _ _ _ h => h, id⟩
theorem Gr.trans {st : Addr} {H H1 H2 : Hp} (a : Gr st H H1) (b : Gr st H1 H2) : Gr st H H2 := ⟨fun c o n h => b.1 c o n (a.1 c o n h), fun h => b.2 (a.2 h)⟩
theorem gr_same {st : Addr} {H H' : Hp} (s : Same H H') : Gr st H H' := ⟨fun b o _ h => s b o h, fun ⟨a, b, h, r⟩ => ⟨a, b, s _ _ h, r⟩⟩
theorem gr_set {st : Addr} {H : Hp} {a b : Int} (h0 : 0 ≤ a) (h1 : 0 ≤ b) (h2 : b < 2147483647) : Gr st H (upd H st (.lst [.int a, .int b])) :=
  ⟨fun c o n h => by rw [upd_ne n]; exact h, fun _ => ⟨a, b, upd_same, h0, h1, h2⟩⟩
theorem Gr.sqT {st : Addr} {K : PySem.W.Frag} {H H' : Hp} {a : Addr} {xs : List V} (g : Gr st H H') (s : IsSt H st) (h : SqT K H a xs) : SqT K H' a xs := by
  obtain ⟨u, v, hs, _⟩ := s
  rcases h with (h | ⟨o, h⟩) | h
  · exact .inl (.inl (g.1 _ _ (ne_of h hs (by intro z; cases z)) h))
  · exact .inl (.inr ⟨o, g.1 _ _ (ne_of h hs (by intro z; cases z)) h⟩)
  · exact .inr h
/-- behind a state that was not there before -/
theorem Gr.same {st : Addr} {H H1 H2 : Hp} (g : Gr st H1 H2) (s : Same H H1) (n : H st = none) : Same H H2 := fun b o h => g.1 b o (ne_of_none h n) (s b o h)
theorem tyT {K : PySem.W.Frag} {H : Hp} {a : Addr} {xs : List V} (h : SqT K H a xs) : TyX K H (.ref a) (.type "tuple") := by
  rcases h with (h | ⟨o, h⟩) | ⟨o, its, n, h, c, _⟩
  · exact .base (.tup h)
  · exact .fTuple h
  · exact .kTuple h c
theorem yes_ok {σ : L2.St} {H : Hp} {te : TE} {R : VK} {Z : Hp → Prop} (h : te σ H R) : tYes σ H (fun b H3 => if b = true then te σ H3 R else Z H3) := by
  show if true = true then te σ H R else Z H
  rw [if_pos rfl]
  exact h
/-! ### comprehensions that make one value an item and leave the heap -/
theorem lcmap_tup {K : PySem.W.Frag} {a : Addr} {xs : List V} {g : TG} {tt : TT} {te : TE} {vs : List Nat} {σ : L2.St} {H1 : Hp} {D : Addr} {Qd : Hp → Prop} (ys : List V) (hl : ys.length = xs.length) (hz : xs.length ≤ 1000) (hS : SqT K H1 a xs) (hD : H1 D = none)
    (hs : ∀ (i : Nat) (x y : V) (H : Hp) (R : V → Hp → Prop) (Z : Hp → Prop), xs[i]? = some x → ys[i]? = some y → Same H1 H → (∀ H4, Same H H4 → R y H4) → g x (wipe σ vs) H fun σ2 H2 => wipe σ2 vs = wipe σ vs ∧ tt σ2 H2 fun b H3 => if b = true then te σ2 H3 R else Z H3)
    (hd : ∀ H, Same H1 H → H D = some (.lst ys) → Qd H) :
    ∃ W : Nat → Nat → Hp → Prop, (∃ m, W 0 m (upd H1 D (.lst []))) ∧ ∀ i m H, W i m H →
      ((Itt K a).stop i H ∧ Qd H) ∨ ((Itt K a).go i H ∧ ∃ Nx : Hp → Prop, (∀ H', Nx H' → ∃ m', m' < m ∧ W (i + 1) m' H') ∧ ∀ x H', (Itt K a).yld i H x H' → g x (wipe σ vs) H' fun σ2 H2 => wipe σ2 vs = wipe σ vs ∧ tt σ2 H2 fun b H3 =>
        if b = true then te σ2 H3 fun y H4 => ∃ acc, H4 D = some (.lst acc) ∧ acc.length < sizeLine ∧ Nx (upd H4 D (.lst (acc ++ [y]))) else Nx H3) := by
  refine lc_tup (K := K) (a := a) (xs := xs) (fun i H => Same H1 H ∧ H D = some (.lst (ys.take i))) ⟨same_upd hD, upd_same⟩ (fun i H _ p => Same.sqT p.1 hS) (fun i x H hx p => ?_) (fun H p => ?_)
  · have hi : i < xs.length := (List.getElem?_eq_some_iff.mp hx).1
    obtain ⟨y, hy⟩ : ∃ y, ys[i]? = some y := ⟨_, List.getElem?_eq_getElem (by omega)⟩
    refine hs i x y H _ _ hx hy p.1 (fun H4 s4 => ⟨ys.take i, s4 _ _ p.2, ?_, ?_, ?_⟩)
    · rw [List.length_take]
      exact Nat.lt_of_le_of_lt (Nat.min_le_left _ _) (small1000 (by omega))
    · intro b o e
      rw [upd_ne (ne_of_none e hD)]
      exact s4 _ _ (p.1 _ _ e)
    · rw [upd_same, List.take_add_one, hy]
      rfl
  · refine hd H p.1 ?_
    rw [p.2, List.take_of_length_le (by omega)]
/-! ### paired lists -/
theorem Paired.mono {α β : Type} {F G : α → β → Prop} {l₁ : List α} {l₂ : List β} (p : Paired F l₁ l₂) (f : ∀ a b, F a b → G a b) : Paired G l₁ l₂ := Paired.mapP p f
theorem Paired.takeP {α β : Type} {F : α → β → Prop} : ∀ {l₁ : List α} {l₂ : List β} (n : Nat), Paired F l₁ l₂ → Paired F (l₁.take n) (l₂.take n)
  | _, _, 0, _ => .nil
  | _, _, _ + 1, .nil => .nil
  | _, _, n + 1, .cons r t => .cons r (Paired.takeP n t)
theorem Paired.dropP {α β : Type} {F : α → β → Prop} : ∀ {l₁ : List α} {l₂ : List β} (n : Nat), Paired F l₁ l₂ → Paired F (l₁.drop n) (l₂.drop n)
  | _, _, 0, p => p
  | _, _, _ + 1, .nil => .nil
  | _, _, n + 1, .cons _ t => Paired.dropP n t
theorem Paired.at {α β : Type} {F : α → β → Prop} : ∀ {l₁ : List α} {l₂ : List β} {i : Nat} {x : α}, Paired F l₁ l₂ → l₁[i]? = some x → ∃ y, l₂[i]? = some y ∧ F x y
  | _, _, i, x, .nil, h => by simp at h
  | _, _, 0, x, .cons (a := a) r t, h => by
    have e : _ = x := Option.some.inj h
    subst e
    exact ⟨_, rfl, r⟩
  | _, _, i + 1, x, .cons r t, h => Paired.at (i := i) t h
theorem Paired.at2 {α β : Type} {F : α → β → Prop} : ∀ {l₁ : List α} {l₂ : List β} {i : Nat} {y : β}, Paired F l₁ l₂ → l₂[i]? = some y → ∃ x, l₁[i]? = some x ∧ F x y
  | _, _, i, y, .nil, h => by simp at h
  | _, _, 0, y, .cons r t, h => by
    have e : _ = y := Option.some.inj h
    subst e
    exact ⟨_, rfl, r⟩
  | _, _, i + 1, y, .cons r t, h => Paired.at2 (i := i) t h
theorem Paired.snocP {α β : Type} {F : α → β → Prop} : ∀ {l₁ : List α} {l₂ : List β} {x : α} {y : β}, Paired F l₁ l₂ → F x y → Paired F (l₁ ++ [x]) (l₂ ++ [y])
  | _, _, _, _, .nil, h => .cons h .nil
  | _, _, _, _, .cons r t, h => .cons r (Paired.snocP t h)
/-! ### rows, layers as they lie in the heap -/
abbrev RW := Int × Int
def RowAt (K : PySem.W.Frag) (H : Hp) (v : V) (r : RW) : Prop := ∃ p, v = .ref p ∧ SqT K H p [.int r.1, .int r.2]
def RowsAt (K : PySem.W.Frag) (H : Hp) (v : V) (rs : List RW) : Prop := ∃ p vs, v = .ref p ∧ SqT K H p vs ∧ Paired (RowAt K H) vs rs
def LayAt (K : PySem.W.Frag) (H : Hp) (v : V) (rs : List RW) (bk : Option Int) : Prop := ∃ p rv, v = .ref p ∧ SqT K H p [rv, bkV bk] ∧ RowsAt K H rv rs
def VRow (r : RW) : Prop := 0 ≤ r.1 ∧ r.1 ≤ 9 ∧ 1 ≤ r.2 ∧ r.2 ≤ 24
def VRows (rs : List RW) : Prop := rs.length ≤ 8 ∧ ∀ r ∈ rs, VRow r
def VBack (rs : List RW) (bk : Option Int) : Prop := ∀ i, bk = some i → 0 ≤ i ∧ i < rs.length
abbrev TKeep (K : PySem.W.Frag) (H H' : Hp) : Prop := ∀ a xs, SqT K H a xs → SqT K H' a xs
theorem Same.tk {K : PySem.W.Frag} {H H' : Hp} (s : Same H H') : TKeep K H H' := fun _ _ h => Same.sqT s h
theorem Gr.tk {st : Addr} {K : PySem.W.Frag} {H H' : Hp} (g : Gr st H H') (s : IsSt H st) : TKeep K H H' := fun _ _ h => g.sqT s h
theorem RowAt.keep {K : PySem.W.Frag} {H H' : Hp} {v : V} {r : RW} (k : TKeep K H H') : RowAt K H v r → RowAt K H' v r := fun ⟨p, e, h⟩ => ⟨p, e, k _ _ h⟩
theorem RowsAt.keep {K : PySem.W.Frag} {H H' : Hp} {v : V} {rs : List RW} (k : TKeep K H H') : RowsAt K H v rs → RowsAt K H' v rs := fun ⟨p, vs, e, h, q⟩ => ⟨p, vs, e, k _ _ h, Paired.mono q fun _ _ => RowAt.keep k⟩
theorem LayAt.keep {K : PySem.W.Frag} {H H' : Hp} {v : V} {rs : List RW} {bk : Option Int} (k : TKeep K H H') : LayAt K H v rs bk → LayAt K H' v rs bk := fun ⟨p, rv, e, h, q⟩ => ⟨p, rv, e, k _ _ h, q.keep k⟩
/-! ### what a layer shows -/
def tot (rs : List RW) : Int := (rs.map (·.2)).sum
theorem tot_nil : tot [] = 0 := rfl
theorem tot_cons (r : RW) (rs : List RW) : tot (r :: rs) = r.2 + tot rs := by
  unfold tot
  rw [List.map_cons, List.sum_cons]
theorem tot_append (rs qs : List RW) : tot (rs ++ qs) = tot rs + tot qs := by
  induction rs with
  | nil => simp [tot_nil]
  | cons r t ih =>
    rw [List.cons_append, tot_cons, tot_cons, ih]
    omega
theorem tot_split (rs : List RW) (k : Nat) : tot rs = tot (rs.take k) + tot (rs.drop k) := by
  rw [← tot_append, List.take_append_drop]
theorem tot_nonneg : ∀ {rs : List RW}, (∀ r ∈ rs, VRow r) → (rs.length : Int) ≤ tot rs ∧ tot rs ≤ 24 * rs.length
  | [], _ => by
    rw [tot_nil]
    exact ⟨Int.le_refl _, Int.le_refl _⟩
  | r :: t, h => by
    have h1 := h r (List.mem_cons_self ..)
    have ih := tot_nonneg (rs := t) fun q hq => h q (List.mem_cons_of_mem _ hq)
    rw [tot_cons, List.length_cons]
    obtain ⟨_, _, h3, h4⟩ := h1
    obtain ⟨i1, i2⟩ := ih
    constructor <;> omega
def walk : List RW → Int → Int
  | [], _ => 0
  | r :: t, m => if m < r.2 then r.1 else walk t (m - r.2)
def near (rs : List RW) (bk : Option Int) (m : Int) : Int := match bk with
  | none => m
  | some b => if m < tot (rs.take b.toNat) then m else tot (rs.take b.toNat) + (m - tot (rs.take b.toNat)) % tot (rs.drop b.toNat)
def shown (rs : List RW) (bk : Option Int) (m : Int) : Int := walk rs (near rs bk m)
theorem walk_out : ∀ (rs : List RW) (m : Int), tot rs ≤ m → (∀ r ∈ rs, VRow r) → walk rs m = 0
  | [], _, _, _ => rfl
  | r :: t, m, h, v => by
    have v1 := v r (List.mem_cons_self ..)
    have vt : ∀ q ∈ t, VRow q := fun q hq => v q (List.mem_cons_of_mem _ hq)
    have t0 := (tot_nonneg vt).1
    rw [tot_cons] at h
    unfold walk
    rw [if_neg (by omega)]
    exact walk_out t _ (by omega) vt
theorem walk_at : ∀ (rs : List RW) (p : Nat) (r : RW) (j : Int), rs[p]? = some r → (∀ r ∈ rs, VRow r) → 0 ≤ j → j < r.2 → walk rs (tot (rs.take p) + j) = r.1
  | [], p, r, j, h, _, _, _ => by simp at h
  | q :: t, 0, r, j, h, _, h0, h1 => by
    have e : q = r := Option.some.inj h
    subst e
    rw [List.take_zero, tot_nil]
    unfold walk
    rw [if_pos (by omega)]
  | q :: t, p + 1, r, j, h, v, h0, h1 => by
    have vq := v q (List.mem_cons_self ..)
    have vt : ∀ q ∈ t, VRow q := fun q hq => v q (List.mem_cons_of_mem _ hq)
    have tp : 0 ≤ tot (t.take p) := by
      have := (tot_nonneg (rs := t.take p) fun q hq => vt q (List.mem_of_mem_take hq)).1
      omega
    rw [List.take_succ_cons, tot_cons]
    unfold walk
    rw [if_neg (by omega), show q.2 + tot (t.take p) + j - q.2 = tot (t.take p) + j by omega]
    exact walk_at t p r j h vt h0 h1
theorem tot_take_le {rs : List RW} (v : ∀ r ∈ rs, VRow r) {p : Nat} {r : RW} (h : rs[p]? = some r) : tot (rs.take p) + r.2 ≤ tot rs := by
  have hp : p < rs.length := (List.getElem?_eq_some_iff.mp h).1
  have e : rs.take (p + 1) = rs.take p ++ [r] := by
    rw [List.take_add_one, h]
    rfl
  have s := tot_split rs (p + 1)
  rw [e, tot_append] at s
  have e1 : tot [r] = r.2 := by
    rw [tot_cons, tot_nil]
    omega
  have := (tot_nonneg (rs := rs.drop (p + 1)) fun q hq => v q (List.mem_of_mem_drop hq)).1
  omega
/-- the j-th picture of the row p, behind k more rounds -/
theorem shown_at {rs : List RW} {bk : Option Int} (v : ∀ r ∈ rs, VRow r) (vb : VBack rs bk) {p k : Nat} {r : RW} {j c : Int} (h : rs[p]? = some r) (h0 : 0 ≤ j) (h1 : j < r.2)
    (hc : ∀ b, bk = some b → c = tot (rs.drop b.toNat)) (hk : 0 < k → ∃ b, bk = some b ∧ b ≤ p) : shown rs bk (tot (rs.take p) + k * c + j) = r.1 := by
  have w := walk_at rs p r j h v h0 h1
  have tp : 0 ≤ tot (rs.take p) := by
    have := (tot_nonneg (rs := rs.take p) fun q hq => v q (List.mem_of_mem_take hq)).1
    omega
  unfold shown near
  cases bk with
  | none =>
    have k0 : k = 0 := by
      rcases Nat.eq_zero_or_pos k with z | z
      · exact z
      · obtain ⟨b, e, _⟩ := hk z
        cases e
    subst k0
    dsimp only
    rw [show tot (rs.take p) + ((0 : Nat) : Int) * c + j = tot (rs.take p) + j by simp]
    exact w
  | some b =>
    have hb := vb b rfl
    have ec := hc b rfl
    have s := tot_split rs b.toNat
    have le := tot_take_le v h
    rw [← ec] at s
    dsimp only
    rw [← ec]
    have cpos : 0 < c := by
      have := (tot_nonneg (rs := rs.drop b.toNat) fun q hq => v q (List.mem_of_mem_drop hq)).1
      rw [← ec, List.length_drop] at this
      omega
    rcases Nat.eq_zero_or_pos k with z | z
    · subst z
      rw [show tot (rs.take p) + ((0 : Nat) : Int) * c + j = tot (rs.take p) + j by simp]
      by_cases hm : tot (rs.take p) + j < tot (rs.take b.toNat)
      · rw [if_pos hm]
        exact w
      · rw [if_neg hm, Int.emod_eq_of_lt (by omega) (by omega)]
        rw [show tot (rs.take b.toNat) + (tot (rs.take p) + j - tot (rs.take b.toNat)) = tot (rs.take p) + j by omega]
        exact w
    · obtain ⟨b', e, hbp⟩ := hk z
      have e' : b = b' := Option.some.inj e
      subst e'
      have bp : b.toNat ≤ p := by omega
      have tb : tot (rs.take b.toNat) ≤ tot (rs.take p) := by
        have e1 : rs.take b.toNat = (rs.take p).take b.toNat := by
          rw [List.take_take, Nat.min_eq_left bp]
        have s1 := tot_split (rs.take p) b.toNat
        rw [← e1] at s1
        have := (tot_nonneg (rs := (rs.take p).drop b.toNat) fun q hq => v q (List.mem_of_mem_take (List.mem_of_mem_drop hq))).1
        omega
      have kc : 0 ≤ (k : Int) * c := Int.mul_nonneg (by omega) (by omega)
      rw [if_neg (by omega)]
      rw [show tot (rs.take p) + (k : Int) * c + j - tot (rs.take b.toNat) = (tot (rs.take p) + j - tot (rs.take b.toNat)) + c * k by rw [Int.mul_comm c]; omega, Int.add_mul_emod_self_left, Int.emod_eq_of_lt (by omega) (by omega)]
      rw [show tot (rs.take b.toNat) + (tot (rs.take p) + j - tot (rs.take b.toNat)) = tot (rs.take p) + j by omega]
      exact w
theorem shown_end {rs : List RW} (v : ∀ r ∈ rs, VRow r) {m : Int} (h : tot rs ≤ m) : shown rs none m = 0 := walk_out rs m h v
/-- a great moment is as the one so many whole rounds ahead -/
theorem shown_far {rs : List RW} {bk : Option Int} (v : ∀ r ∈ rs, VRow r) (vb : VBack rs bk) {m s : Int} (hs : s = match bk with | none => 1 | some b => tot (rs.drop b.toNat)) (h : tot rs ≤ m) :
    shown rs bk (tot rs + (m - tot rs) % s) = shown rs bk m := by
  cases bk with
  | none =>
    dsimp only at hs
    subst hs
    rw [shown_end v h, shown_end v (by omega)]
  | some b =>
    dsimp only at hs
    have hb := vb b rfl
    have e := tot_split rs b.toNat
    have spos : 0 < s := by
      have := (tot_nonneg (rs := rs.drop b.toNat) fun q hq => v q (List.mem_of_mem_drop hq)).1
      rw [← hs, List.length_drop] at this
      omega
    have hm := Int.emod_nonneg (m - tot rs) (show s ≠ 0 by omega)
    unfold shown near
    dsimp only
    rw [← hs] at e ⊢
    rw [if_neg (by omega), if_neg (by omega)]
    congr 2
    rw [show tot rs + (m - tot rs) % s - tot (rs.take b.toNat) = (m - tot rs) % s + s * 1 by omega, Int.add_mul_emod_self_left, Int.emod_emod,
      show m - tot (rs.take b.toNat) = (m - tot rs) + s * 1 by omega, Int.add_mul_emod_self_left]
theorem shown_walk_none (rs : List RW) (m : Int) : shown rs none m = walk rs m := rfl
/-! ### slices -/
theorem cut_to (xs : List V) (k : Nat) : cutV xs none (some (k : Int)) = xs.take k := by
  unfold cutV
  rw [HT.sIx_none, HT.sIx_nat, List.drop_zero, Nat.sub_zero]
  rcases Nat.le_total k xs.length with h | h
  · rw [Nat.min_eq_left h]
  · rw [Nat.min_eq_right h, List.take_length, List.take_of_length_le h]
theorem cut_from (xs : List V) (k : Nat) : cutV xs (some (k : Int)) none = xs.drop k := by
  unfold cutV
  rw [HT.sIx_none, HT.sIx_nat]
  rcases Nat.le_total k xs.length with h | h
  · rw [Nat.min_eq_left h, List.take_of_length_le (by rw [List.length_drop]; omega)]
  · rw [Nat.min_eq_right h, Nat.sub_self, List.take_zero, List.drop_of_length_le h]
theorem cut_all (xs : List V) : cutV xs none none = xs := by
  unfold cutV
  rw [HT.sIx_none, HT.sIx_none, List.drop_zero, Nat.sub_zero, List.take_length]
theorem cut_whole {xs : List V} {lo hi : Option Int} (h : HT.sIx xs.length 0 lo = 0 ∧ HT.sIx xs.length xs.length hi = xs.length) : cutV xs lo hi = xs := by
  unfold cutV
  rw [h.1, h.2, List.drop_zero, Nat.sub_zero, List.take_length]
theorem sl_rows {K : PySem.W.Frag} {H : Hp} {a : Addr} {xs : List V} {lo hi : Option Int} (rs : List RW) {R : VK} (hS : SqT K H a xs) (hp : Paired (RowAt K H) (cutV xs lo hi) rs) (h : ∀ H' v, Same H H' → RowsAt K H' v rs → R v H') :
    rSlA K (.ref a) lo hi H R := by
  refine ⟨a, xs, rfl, hS, fun w => h H _ (Same.refl _) ⟨a, xs, rfl, hS, ?_⟩, fun _ p np => ?_⟩
  · rw [cut_whole w] at hp
    exact hp
  · have s := same_upd (o := .tup (cutV xs lo hi)) np
    exact h _ _ s ⟨p, _, rfl, .inl (.inl upd_same), Paired.mono hp fun _ _ => RowAt.keep (Same.tk s)⟩
/-! ### windows -/
abbrev MV := Int × Int × Int
def MoveAt (K : PySem.W.Frag) (H : Hp) (v : V) (m : MV) : Prop := ∃ p, v = .ref p ∧ SqT K H p [.int m.1, .int m.2.1, .int m.2.2]
def MovesAt (K : PySem.W.Frag) (H : Hp) (v : V) (ms : List MV) : Prop := ∃ p vs, v = .ref p ∧ SqT K H p vs ∧ Paired (MoveAt K H) vs ms
def WinAt (K : PySem.W.Frag) (H : Hp) (v : V) (x y : Int) (ms : List MV) : Prop := ∃ p mv, v = .ref p ∧ SqT K H p [.int x, .int y, mv] ∧ MovesAt K H mv ms
def VMove (m : MV) : Prop := (-20 ≤ m.1 ∧ m.1 ≤ 20) ∧ (-20 ≤ m.2.1 ∧ m.2.1 ≤ 20) ∧ 0 ≤ m.2.2 ∧ m.2.2 ≤ 24
def VWin (x y : Int) (ms : List MV) : Prop := (-20 ≤ x ∧ x ≤ 20) ∧ (-20 ≤ y ∧ y ≤ 20) ∧ ms.length ≤ 8 ∧ ∀ m ∈ ms, VMove m
theorem MoveAt.keep {K : PySem.W.Frag} {H H' : Hp} {v : V} {m : MV} (k : TKeep K H H') : MoveAt K H v m → MoveAt K H' v m := fun ⟨p, e, h⟩ => ⟨p, e, k _ _ h⟩
theorem MovesAt.keep {K : PySem.W.Frag} {H H' : Hp} {v : V} {ms : List MV} (k : TKeep K H H') : MovesAt K H v ms → MovesAt K H' v ms := fun ⟨p, vs, e, h, q⟩ => ⟨p, vs, e, k _ _ h, Paired.mono q fun _ _ => MoveAt.keep k⟩
theorem WinAt.keep {K : PySem.W.Frag} {H H' : Hp} {v : V} {x y : Int} {ms : List MV} (k : TKeep K H H') : WinAt K H v x y ms → WinAt K H' v x y ms := fun ⟨p, mv, e, h, q⟩ => ⟨p, mv, e, k _ _ h, q.keep k⟩
def mtot (ms : List MV) : Int := (ms.map (·.2.2)).sum
/-! ### sheets -/
abbrev LY := List RW × Option Int
def LyAt (K : PySem.W.Frag) (H : Hp) (v : V) (l : LY) : Prop := LayAt K H v l.1 l.2
def LaysAt (K : PySem.W.Frag) (H : Hp) (v : V) (ls : List LY) : Prop := ∃ p vs, v = .ref p ∧ SqT K H p vs ∧ Paired (LyAt K H) vs ls
def VLy (l : LY) : Prop := VRows l.1 ∧ VBack l.1 l.2
def VLays (ls : List LY) : Prop := 1 ≤ ls.length ∧ ls.length ≤ 4 ∧ ∀ l ∈ ls, VLy l
def ShAt (K : PySem.W.Frag) (H : Hp) (v : V) (ls : List LY) (x y : Int) (ms : List MV) : Prop := ∃ p lv wv, v = .ref p ∧ SqT K H p [lv, wv] ∧ LaysAt K H lv ls ∧ WinAt K H wv x y ms
theorem LyAt.keep {K : PySem.W.Frag} {H H' : Hp} {v : V} {l : LY} (k : TKeep K H H') : LyAt K H v l → LyAt K H' v l := LayAt.keep k
theorem LaysAt.keep {K : PySem.W.Frag} {H H' : Hp} {v : V} {ls : List LY} (k : TKeep K H H') : LaysAt K H v ls → LaysAt K H' v ls := fun ⟨p, vs, e, h, q⟩ => ⟨p, vs, e, k _ _ h, Paired.mono q fun _ _ => LyAt.keep k⟩
theorem ShAt.keep {K : PySem.W.Frag} {H H' : Hp} {v : V} {ls : List LY} {x y : Int} {ms : List MV} (k : TKeep K H H') : ShAt K H v ls x y ms → ShAt K H' v ls x y ms := fun ⟨p, lv, wv, e, h, q, r⟩ => ⟨p, lv, wv, e, k _ _ h, q.keep k, r.keep k⟩
/-! ### places -/
def PlAt (K : PySem.W.Frag) (H : Hp) (v : V) (p : RW × RW) : Prop := ∃ a v1 v2, v = .ref a ∧ SqT K H a [v1, v2] ∧ RowAt K H v1 p.1 ∧ RowAt K H v2 p.2
theorem PlAt.keep {K : PySem.W.Frag} {H H' : Hp} {v : V} {p : RW × RW} (k : TKeep K H H') : PlAt K H v p → PlAt K H' v p := fun ⟨a, v1, v2, e, h, r1, r2⟩ => ⟨a, v1, v2, e, k _ _ h, r1.keep k, r2.keep k⟩
/-! ### pictures -/
abbrev PIC := List Int × (RW × RW)
def PicAt (K : PySem.W.Frag) (H : Hp) (v : V) (c : PIC) : Prop := ∃ a b v2, v = .ref a ∧ SqT K H a [.ref b, v2] ∧ SqT K H b (c.1.map V.int) ∧ PlAt K H v2 c.2
theorem PicAt.keep {K : PySem.W.Frag} {H H' : Hp} {v : V} {c : PIC} (k : TKeep K H H') : PicAt K H v c → PicAt K H' v c := fun ⟨a, b, v2, e, h, h1, h2⟩ => ⟨a, b, v2, e, k _ _ h, k _ _ h1, h2.keep k⟩
/-! ### fractions in lowest terms -/
def lo (t b : Int) : RW := (t / ((Nat.gcd t.natAbs b.natAbs : Nat) : Int), b / ((Nat.gcd t.natAbs b.natAbs : Nat) : Int))
theorem gcd_facts {t b : Int} (hb : 0 < b) : ∃ g t' b' : Int, ((Nat.gcd t.natAbs b.natAbs : Nat) : Int) = g ∧ 0 < g ∧ t = g * t' ∧ b = g * b' ∧ 0 < b' ∧ (lo t b) = (t', b') ∧ g ≤ b ∧ Nat.Coprime b'.natAbs t'.natAbs := by
  have g0 : 0 < Nat.gcd t.natAbs b.natAbs := Nat.gcd_pos_of_pos_right _ (by omega)
  obtain ⟨t', ht⟩ : ((Nat.gcd t.natAbs b.natAbs : Nat) : Int) ∣ t := Int.natAbs_dvd_natAbs.mp (by rw [Int.natAbs_natCast]; exact Nat.gcd_dvd_left _ _)
  obtain ⟨b', hb'⟩ : ((Nat.gcd t.natAbs b.natAbs : Nat) : Int) ∣ b := Int.natAbs_dvd_natAbs.mp (by rw [Int.natAbs_natCast]; exact Nat.gcd_dvd_right _ _)
  have gp : (0 : Int) < ((Nat.gcd t.natAbs b.natAbs : Nat) : Int) := by omega
  have bp : 0 < b' := Int.pos_of_mul_pos_left (a := b') (b := ((Nat.gcd t.natAbs b.natAbs : Nat) : Int)) (by rw [Int.mul_comm, ← hb']; exact hb) gp
  have gle : ((Nat.gcd t.natAbs b.natAbs : Nat) : Int) ≤ b := by
    have := Nat.gcd_le_right t.natAbs (show 0 < b.natAbs by omega)
    omega
  have cop : Nat.gcd b'.natAbs t'.natAbs = 1 := by
    have e1 : t.natAbs = Nat.gcd t.natAbs b.natAbs * t'.natAbs := by
      have := congrArg Int.natAbs ht
      rw [Int.natAbs_mul, Int.natAbs_natCast] at this
      exact this
    have e2 : b.natAbs = Nat.gcd t.natAbs b.natAbs * b'.natAbs := by
      have := congrArg Int.natAbs hb'
      rw [Int.natAbs_mul, Int.natAbs_natCast] at this
      exact this
    have e3 : Nat.gcd (Nat.gcd t.natAbs b.natAbs * t'.natAbs) (Nat.gcd t.natAbs b.natAbs * b'.natAbs) = Nat.gcd t.natAbs b.natAbs * Nat.gcd t'.natAbs b'.natAbs := Nat.gcd_mul_left _ _ _
    rw [← e1, ← e2] at e3
    rw [Nat.gcd_comm]
    exact Nat.eq_of_mul_eq_mul_left g0 (by rw [← e3, Nat.mul_one])
  refine ⟨_, t', b', rfl, gp, ht, hb', bp, ?_, gle, cop⟩
  unfold lo
  congr 1
  · conv => lhs; arg 1; rw [ht]
    exact Int.mul_ediv_cancel_left _ (by omega)
  · conv => lhs; arg 1; rw [hb']
    exact Int.mul_ediv_cancel_left _ (by omega)
theorem lo_mem {t b k : Int} (hb : 0 < b) : t * k % b = 0 ↔ (lo t b).2 ∣ k := by
  obtain ⟨g, t', b', _, gp, et, eb, bp, el, _, cop⟩ := gcd_facts (t := t) hb
  rw [el]
  show _ ↔ b' ∣ k
  constructor
  · intro h
    have h1 := Int.dvd_of_emod_eq_zero h
    rw [et, eb, Int.mul_assoc] at h1
    obtain ⟨c, hc⟩ := h1
    rw [Int.mul_assoc] at hc
    have h2 : b' ∣ t' * k := ⟨c, Int.eq_of_mul_eq_mul_left (by omega) hc⟩
    have h3 := Int.natAbs_dvd_natAbs.mpr h2
    rw [Int.natAbs_mul] at h3
    exact Int.natAbs_dvd_natAbs.mp (Nat.Coprime.dvd_of_dvd_mul_left cop h3)
  · rintro ⟨c, hc⟩
    apply Int.emod_eq_zero_of_dvd
    refine ⟨t' * c, ?_⟩
    rw [et, eb, hc]
    rw [Int.mul_assoc, Int.mul_assoc, Int.mul_left_comm t' b' c]
/-- the numbers from 1 to n that the law looks through -/
def ks (t b : Int) (n : Nat) : List Int := ((List.range n).map fun j => 1 + ((j : Nat) : Int)).filter fun k => decide (t * k % b = 0)
theorem ks_head {t b : Int} (hb : 0 < b) : (ks t b b.toNat)[0]? = some (lo t b).2 := by
  obtain ⟨g, t', b', _, gp, et, eb, bp, el, _, cop⟩ := gcd_facts (t := t) hb
  have hm : ∀ k, t * k % b = 0 ↔ b' ∣ k := fun k => by
    have := lo_mem (t := t) (k := k) hb
    rw [el] at this
    exact this
  rw [el]
  show (ks t b b.toNat)[0]? = some b'
  have ble : b' ≤ b := by
    rw [eb]
    have : 1 * b' ≤ g * b' := Int.mul_le_mul_of_nonneg_right (by omega) (by omega)
    omega
  unfold ks
  rw [List.filter_map, List.getElem?_map, ← List.head?_eq_getElem?, List.head?_filter]
  have e : (List.range b.toNat).find? ((fun k : Int => decide (t * k % b = 0)) ∘ fun j : Nat => 1 + (j : Int)) = some (b'.toNat - 1) := by
    rw [List.find?_range_eq_some]
    refine ⟨?_, List.mem_range.mpr (by omega), fun j hj => ?_⟩
    · show decide (t * (1 + ((b'.toNat - 1 : Nat) : Int)) % b = 0) = true
      rw [decide_eq_true_eq, hm, show 1 + ((b'.toNat - 1 : Nat) : Int) = b' by omega]
      exact Int.dvd_refl _
    · show (!decide (t * (1 + (j : Int)) % b = 0)) = true
      rw [Bool.not_eq_true', decide_eq_false_iff_not, hm]
      intro hd
      have := Int.le_of_dvd (by omega) hd
      omega
  rw [e]
  show some (1 + ((b'.toNat - 1 : Nat) : Int)) = some b'
  congr 1
  omega
theorem lo_top {t b : Int} (hb : 0 < b) : t * (lo t b).2 / b = (lo t b).1 := by
  obtain ⟨g, t', b', _, gp, et, eb, bp, el, _, cop⟩ := gcd_facts (t := t) hb
  rw [el]
  show t * b' / b = t'
  rw [et, show g * t' * b' = b * t' by rw [eb, Int.mul_assoc, Int.mul_assoc, Int.mul_comm t' b']]
  exact Int.mul_ediv_cancel_left _ (by omega)
/-! ### where a window stands -/
def plc (x y : Int) : List MV → Int → RW × RW
  | [], _ => ((x, 1), (y, 1))
  | m :: r, t => if t < m.2.2 then (lo (x * m.2.2 + (m.1 - x) * (t + 1)) m.2.2, lo (y * m.2.2 + (m.2.1 - y) * (t + 1)) m.2.2) else plc m.1 m.2.1 r (t - m.2.2)
theorem way_eq (x g n k : Int) : x * (n - k) + g * k = x * n + (g - x) * k := by
  rw [Int.mul_sub, Int.sub_mul]
  omega
theorem plc_nil (x y t : Int) : plc x y [] t = ((x, 1), (y, 1)) := rfl
theorem plc_cons (x y : Int) (m : MV) (r : List MV) (t : Int) : plc x y (m :: r) t = if t < m.2.2 then (lo (x * m.2.2 + (m.1 - x) * (t + 1)) m.2.2, lo (y * m.2.2 + (m.2.1 - y) * (t + 1)) m.2.2) else plc m.1 m.2.1 r (t - m.2.2) := rfl
theorem mtot_cons (m : MV) (r : List MV) : mtot (m :: r) = m.2.2 + mtot r := by
  unfold mtot
  rw [List.map_cons, List.sum_cons]
theorem mtot_nonneg : ∀ {ms : List MV}, (∀ m ∈ ms, VMove m) → 0 ≤ mtot ms ∧ mtot ms ≤ 24 * ms.length
  | [], _ => ⟨Int.le_refl _, Int.le_refl _⟩
  | m :: r, h => by
    have ih := mtot_nonneg (ms := r) fun q hq => h q (List.mem_cons_of_mem _ hq)
    obtain ⟨_, _, h3, h4⟩ := h m (List.mem_cons_self ..)
    rw [mtot_cons, List.length_cons]
    obtain ⟨i1, i2⟩ := ih
    constructor <;> omega
theorem plc_far : ∀ (ms : List MV) (x y a b : Int), (∀ m ∈ ms, VMove m) → mtot ms ≤ a → mtot ms ≤ b → plc x y ms a = plc x y ms b
  | [], _, _, _, _, _, _, _ => rfl
  | m :: r, x, y, a, b, h, ha, hb => by
    have hr : ∀ q ∈ r, VMove q := fun q hq => h q (List.mem_cons_of_mem _ hq)
    have := (mtot_nonneg hr).1
    rw [mtot_cons] at ha hb
    rw [plc_cons, plc_cons, if_neg (by omega), if_neg (by omega)]
    exact plc_far r _ _ _ _ hr (by omega) (by omega)
def pic (ls : List LY) (x y : Int) (ms : List MV) (m : Int) : PIC := (ls.map (fun l => shown l.1 l.2 m), plc x y ms m)
/-! ### the law's own helpers -/
theorem fm {x m : Int} (h : 0 < m) : 0 ≤ x.fmod m ∧ x.fmod m < m := by
  rw [Int.fmod_eq_emod_of_nonneg x (by omega)]
  exact ⟨Int.emod_nonneg _ (by omega), Int.emod_lt_of_pos _ h⟩
theorem tk_updL {K : PySem.W.Frag} {H : Hp} {D : Addr} {xs ys : List V} (h : H D = some (.lst xs)) : TKeep K H (upd H D (.lst ys)) := by
  intro a zs q
  rcases q with (q | ⟨o, q⟩) | q
  · refine .inl (.inl ?_)
    rw [upd_ne (ne_of q h (by intro z; cases z))]
    exact q
  · refine .inl (.inr ⟨o, ?_⟩)
    rw [upd_ne (ne_of q h (by intro z; cases z))]
    exact q
  · exact .inr q
inductive Fl : V → String → Bool → Prop
  | non : Fl .non "NoneType" false
  | bl (b : Bool) : Fl (.bl b) "bool" true
  | int (i : Int) : Fl (.int i) "int" false
theorem Fl.ty {K : PySem.W.Frag} {H : Hp} {x : V} {t : String} {b : Bool} (f : Fl x t b) : TyX K H x (.type t) := by
  cases f with
  | non => exact .base .non
  | bl b => exact .base (.bl b)
  | int i => exact .base (.int i)
theorem Fl.kit {x : V} {t : String} {b : Bool} (f : Fl x t b) : kitB t "bool" = some b := by
  cases f <;> decide +kernel
theorem Fl.kit2 {K : PySem.W.Frag} {x : V} {t : String} {b : Bool} (f : Fl x t b) : PySem.W.kitAny K (.type t) [.type "tuple", .type "list"] = some false := by
  cases f <;> exact kitAny_cons (kit_ty (r := false) (by decide +kernel)) (fun _ => kitAny_cons (kit_ty (r := false) (by decide +kernel)) (fun _ => kitAny_nil) (fun z => nomatch z)) (fun z => nomatch z)
theorem Fl.scal {x y : V} {t u : String} {b : Bool} (f : Fl x t b) (g : Fl y u b) : L2.scal x y = true := by
  cases f <;> cases g <;> rfl
theorem Fl.ne {x y : V} {t u : String} {b c : Bool} (f : Fl x t b) (g : Fl y u c) (h : b ≠ c) : x ≠ y := by
  cases f <;> cases g <;> first | exact absurd rfl h | (intro z; cases z)
theorem st_ne {H : Hp} {st p : Addr} (s : IsSt H st) (h : H p = none) : p ≠ st := by
  obtain ⟨x, y, hx, _⟩ := s
  exact fun z => by rw [z, hx] at h; cases h
theorem st_neT {H : Hp} {st p : Addr} {xs : List V} (s : IsSt H st) (h : H p = some (.tup xs)) : p ≠ st := by
  obtain ⟨x, y, hx, _⟩ := s
  exact ne_of h hx (by intro z; cases z)
/-! ### the law's own comparison, of equal data -/
theorem tyL {K : PySem.W.Frag} {H : Hp} {a : Addr} {xs : List V} (h : SqL K H a xs) : TyX K H (.ref a) (.type "list") := by
  rcases h with (h | ⟨o, h⟩) | ⟨o, its, n, h, c, _⟩
  · exact .base (.lst h)
  · exact .base (.frz h)
  · exact .kList h c
mutual
theorem Dp.sm {K : PySem.W.Frag} {H H' : Hp} (s : Same H H') : ∀ {v : V} {d : PyData}, Dp K H v d → Dp K H' v d
  | _, _, .non => .non
  | _, _, .bl b => .bl b
  | _, _, .int i => .int i
  | _, _, .str x => .str x
  | _, _, .lst h q => .lst (s.seq h) (DpAll.sm s q)
  | _, _, .tup h q => .tup (Same.sqT s h) (DpAll.sm s q)
theorem DpAll.sm {K : PySem.W.Frag} {H H' : Hp} (s : Same H H') : ∀ {v : List V} {d : List PyData}, DpAll K H v d → DpAll K H' v d
  | _, _, .nil => .nil
  | _, _, .cons h q => .cons (Dp.sm s h) (DpAll.sm s q)
end
theorem DpAll.at {K : PySem.W.Frag} {H : Hp} : ∀ {vs : List V} {ds : List PyData} {i : Nat} {v : V}, DpAll K H vs ds → vs[i]? = some v → ∃ d, ds[i]? = some d ∧ Dp K H v d
  | _, _, i, v, .nil, h => by simp at h
  | _, _, 0, v, .cons a t, h => by
    have e : _ = v := Option.some.inj h
    subst e
    exact ⟨_, rfl, a⟩
  | _, _, i + 1, v, .cons a t, h => DpAll.at (i := i) t h
theorem DpAll.len {K : PySem.W.Frag} {H : Hp} : ∀ {vs : List V} {ds : List PyData}, DpAll K H vs ds → vs.length = ds.length
  | _, _, .nil => rfl
  | _, _, .cons _ t => by rw [List.length_cons, List.length_cons, DpAll.len t]
def flD (d : PyData) : Prop := d = .none ∨ (∃ b, d = .bool b) ∨ ∃ i, d = .int i
def dOk : Nat → PyData → Prop
  | 0, d => flD d
  | n + 1, d => flD d ∨ ∃ ds, (d = .list ds ∨ d = .tuple ds) ∧ ds.length ≤ 1000 ∧ ∀ e ∈ ds, dOk n e
theorem flD.fl {K : PySem.W.Frag} {H : Hp} {x y : V} {d : PyData} (f : flD d) (hx : Dp K H x d) (hy : Dp K H y d) : x = y ∧ ∃ t b, Fl x t b := by
  rcases f with rfl | ⟨b, rfl⟩ | ⟨i, rfl⟩
  · cases hx
    cases hy
    exact ⟨rfl, _, _, .non⟩
  · cases hx
    cases hy
    exact ⟨rfl, _, _, .bl b⟩
  · cases hx
    cases hy
    exact ⟨rfl, _, _, .int i⟩
/-- a comprehension over a zip of two that stand still, each item True -/
theorem lc_zip {J : It} {xs ys : List V} {g : TG} {tt : TT} {te : TE} {vs : List Nat} {σ : L2.St} {H1 : Hp} {D : Addr} {Qd : Hp → Prop} (hl : ys.length = xs.length) (hz : xs.length ≤ 1000) (hD : H1 D = none)
    (st : ∀ H, Same H1 H → J.stop xs.length H) (go : ∀ (i : Nat) (H : Hp), Same H1 H → i < xs.length → J.go i H)
    (yl : ∀ (i : Nat) (H : Hp) (v : V) (H' : Hp), Same H1 H → J.yld i H v H' → ∃ T x y, v = .ref T ∧ H T = none ∧ H' = upd H T (.tup [x, y]) ∧ xs[i]? = some x ∧ ys[i]? = some y)
    (hs : ∀ (i : Nat) (x y : V) (T : Addr) (H : Hp) (R : V → Hp → Prop) (Z : Hp → Prop), xs[i]? = some x → ys[i]? = some y → Same H1 H → H T = some (.tup [x, y]) → (∀ H4, Same H H4 → R (.bl true) H4) →
      g (.ref T) (wipe σ vs) H fun σ2 H2 => wipe σ2 vs = wipe σ vs ∧ tt σ2 H2 fun b H3 => if b = true then te σ2 H3 R else Z H3)
    (hd : ∀ H, Same H1 H → H D = some (.lst ((List.replicate xs.length true).map V.bl)) → Qd H) :
    ∃ W : Nat → Nat → Hp → Prop, (∃ m, W 0 m (upd H1 D (.lst []))) ∧ ∀ i m H, W i m H →
      (J.stop i H ∧ Qd H) ∨ (J.go i H ∧ ∃ Nx : Hp → Prop, (∀ H', Nx H' → ∃ m', m' < m ∧ W (i + 1) m' H') ∧ ∀ x H', J.yld i H x H' → g x (wipe σ vs) H' fun σ2 H2 => wipe σ2 vs = wipe σ vs ∧ tt σ2 H2 fun b H3 =>
        if b = true then te σ2 H3 fun y H4 => ∃ acc, H4 D = some (.lst acc) ∧ acc.length < sizeLine ∧ Nx (upd H4 D (.lst (acc ++ [y]))) else Nx H3) := by
  refine ⟨fun i m H => m = xs.length - i ∧ i ≤ xs.length ∧ Same H1 H ∧ H D = some (.lst ((List.replicate i true).map V.bl)), ⟨xs.length, by simp, Nat.zero_le _, same_upd hD, upd_same⟩, ?_⟩
  rintro i m H ⟨rfl, hi, s1, eD⟩
  by_cases hlt : i < xs.length
  · refine .inr ⟨go i H s1 hlt, fun H' => Same H1 H' ∧ H' D = some (.lst ((List.replicate (i + 1) true).map V.bl)), fun H' p => ⟨xs.length - (i + 1), by omega, rfl, hlt, p⟩, fun v H' hy => ?_⟩
    obtain ⟨T, x, y, rfl, nT, rfl, hx, hy⟩ := yl i H v H' s1 hy
    have sT : Same H (upd H T (.tup [x, y])) := same_upd nT
    refine hs i x y T _ _ _ hx hy (s1.trans sT) upd_same (fun H4 s4 => ⟨_, s4 _ _ (sT _ _ eD), ?_, ?_, ?_⟩)
    · rw [List.length_map, List.length_replicate]
      exact small1000 (by omega)
    · intro b o e
      rw [upd_ne (ne_of_none e hD)]
      exact s4 _ _ (sT _ _ (s1 _ _ e))
    · rw [upd_same, List.replicate_succ', List.map_append]
      rfl
  · have e : i = xs.length := by omega
    subst e
    exact .inl ⟨st H s1, hd H s1 eD⟩
/-! ### a def that is entered where nothing is being shown: repr is known there -/
structure FnG (P : Program) (w : World) (K : PySem.W.Frag) (mg : Str → Option Value) (base : Heap) (k : Nat) (f : Addr) (fd : FuncData) (ps : List Str) (sp : Sp) : Prop where
  len : ∀ vs H Q E, sp vs H Q E → vs.length = ps.length
  run : ∀ (A : Around) (outer : List Env) (s : Shared) (H : Hp) (args : Args) (us : List Value) (vs : List V) (Q : VK) (E : XK), A.guards = some [] → Room k A → Env0 P w K mg base A outer s H → BindsTo s fd args (ps.zip us) →
    Vals vs us → sp vs H Q E → codeAny (model P w) A (.call (.ref f) args) (CR CX0 outer P w H s Q E) s
/-! ### a call goes by the def's body, in whatever context the body is read -/
/-- the def st stands at f, its code object is cdv -/
structure DefAt (K : PySem.W.Frag) (x qual : Str) (st : Stmt) (f : Addr) (fd : FuncData) (cdv : Value) : Prop where
  isFn : ∃ (kV doc pm : Value) (an : Option Addr) (ct : Value), fd = PySem.W.fnOf x qual (defArgs st) (defBody st) (defScope st) .none kV doc pm an cdv ct
  there : ∃ (oc : Value) (od : Option Addr) (osl : Array (Option Value)), K.lookup f = some ⟨oc, od, .func fd, osl⟩
  coded : PySem.W.codeIn K cdv qual = true
/-- what a call's value is, told by how the body ends -/
def given : Flow → Value
  | .ret u => u
  | _ => .none
/-- the state in which a body begins whose parameters ps hold us -/
abbrev Begun (qual : Str) (st : Stmt) (f : Addr) (cdv : Value) (ps : List Str) (us : List Value) (s s1 : Shared) : Prop :=
  InCallC s s.heap.objs.size (bindL (envOfC qual (defScope st) s.heap.objs.size f cdv).kindOf (ps.zip us) fun _ => none) (cellsFrom (s.heap.objs.size + 1) (defScope st).names [])
    (bindC (envOfC qual (defScope st) s.heap.objs.size f cdv).kindOf (ps.zip us) fun _ => none) s1
theorem given_by {X : Cx} {Q : VK} {fl : Flow} {s' : Shared} (none : X.ex = []) (h : SP X [] { nx := fun _ H' => Q .non H', rt := Q } fl s') : CE X.outer X.prog X.w X.H_0 X.s_0 Q (given fl) s' := by
  have told : ∀ {σ : L2.St} {H' : Hp} {v : V}, Inv X [] σ H' s' → RelV v (given fl) → Q v H' → CE X.outer X.prog X.w X.H_0 X.s_0 Q (given fl) s' := fun J rv q => ⟨_, _, J.os, J.bare, none ▸ J.base, J.hok, rv, q⟩
  match fl, h with
  | .ret _, ⟨_, _, _, J, rv, q⟩ => exact told J rv q
  | .next, ⟨_, _, J, q⟩ => exact told (v := .non) J rfl q
  | .brk, ⟨_, _, _, q⟩ | .cont, ⟨_, _, _, q⟩ => exact q.elim
section
variable {P : Program} {w : World} {K : PySem.W.Frag} {mg : Str → Option Value} {base : Heap}
theorem defAt_of {x qual : Str} {st : Stmt} {f : Addr} {fd : FuncData} (F : Fun K x qual st f fd) : ∃ cdv, DefAt K x qual st f fd cdv :=
  let ⟨oc, od, kV, doc, pm, an, cdv, ct, osl, e, l, c⟩ := F.ex
  ⟨cdv, ⟨kV, doc, pm, an, ct, e⟩, ⟨oc, od, osl, l⟩, c⟩
theorem DefAt.call {x qual : Str} {st : Stmt} {f : Addr} {fd : FuncData} {cdv : Value} {N ps : List Str} {A : Around} {outer : List Env} {s : Shared} {H : Hp} {args : Args} {us : List Value} {R : Result → Shared → Prop} (D : DefAt K x qual st f fd cdv) (S : FnScope N ps (defScope st))
    (room : A.depth < recursionLimit) (e0 : Env0 P w K mg base A outer s H) (hb : BindsTo s fd args (ps.zip us))
    (body : ∀ s1, Begun qual st f cdv ps us s s1 → wpAny (model P w) (A.deeper (envOfC qual (defScope st) s.heap.objs.size f cdv)) (execs (defBody st) (envOfC qual (defScope st) s.heap.objs.size f cdv)) (fun fl s' => R (.ok (.ret (given fl))) s')
      (fun e s' => wpAny (model P w) (A.deeper (envOfC qual (defScope st) s.heap.objs.size f cdv)) (leaving (envOfC qual (defScope st) s.heap.objs.size f cdv) e) (fun _ z => R (.error e) z) (fun e' z => R (.error e') z) s') s1) :
    codeAny (model P w) A (.call (.ref f) args) R s := by
  obtain ⟨⟨kV, doc, pm, an, ct, rfl⟩, ⟨oc, od, osl, there⟩, coded⟩ := D
  have stands : ∀ b o, base.get? b = some o → s.heap.get? b = some o := fun b o z => (e0.bs b o z).1
  have kin := e0.mod.kin.keeps stands
  apply codeAny_call_function room (kin f _ there) rfl S.co S.gen rfl (PySem.W.codeRec_of kin coded)
  apply hb
  apply wpAny_newFunctionEnv_cells S.kind
  · exact fun y hy => (S.par y.1 (List.of_mem_zip hy).1).imp id fun c => ⟨c, PySem.W.cellsFrom_some _ _ _ (.inl c)⟩
  · rintro _ rfl s1 begun
    exact ⟨(e0.mod.nolimit.keeps stands).keeps begun.toInCall.keep, codeAny_func (wpAny_mono (body s1 begun) (fun fl _ h => by cases fl <;> exact h) fun _ _ h => h)⟩
theorem fun_okG {x qual : Str} {st : Stmt} {f : Addr} {fd : FuncData} {N ps : List Str} {k : Nat} {sp : Sp} (F : Fun K x qual st f fd) (S : FnScope N ps (defScope st)) (ln : ∀ vs H Q E, sp vs H Q E → vs.length = ps.length)
    (hbody : ∀ (cdv : Value) (A : Around) (outer : List Env) (s : Shared) (H : Hp) (vs : List V) (Q : VK) (E : XK), A.guards = some [] → Room k (A.deeper (envOfC qual (defScope st) s.heap.objs.size f cdv)) → sp vs H Q E →
      ∃ t, PSs (cxOf CX0 P w K mg base N qual (defScope st) f cdv A outer s H E).nox (defBody st) t ∧ t { nx := fun _ H' => Q .non H', rt := Q } (L2.start N vs) H) : FnG P w K mg base (k + 1) f fd ps sp := by
  obtain ⟨cdv, D⟩ := defAt_of F
  refine ⟨ln, fun A outer s H args us vs Q E hgu hr e0 hb r hsp => D.call S hr.depth e0 hb fun s1 begun => ?_⟩
  obtain ⟨t, ht, hq⟩ := hbody cdv A outer s H vs Q E hgu (hr.deeper _) hsp
  exact thn (ht.nox.run [] s1 _ H _ (inv_start S hr.hd e0 (ln _ _ _ _ hsp) r begun) hq) fun _ _ h => given_by rfl h
/-- the law's call from such a promise -/
theorem law_callG {mb : Str → Option Value} {k : Nat} {fa a : Addr} {fd : FuncData} {x : Str} {sp : Sp} {s₁ : Shared} {vs : List Value} {ns : List Int}
    (KX : K.In s₁.heap) (hns : s₁.heap.Ns mainGlobals mg) (hb : s₁.heap.Ns builtinsNs mb) (hbb : ∀ x : Str, x ≠ "__name__" → mb x = bootBuiltins x) (hlim : s₁.heap.NoLimit)
    (hge : s₁.gens = #[]) (ha : s₁.heap.get? a = some { cls := .type "list", data := .seq vs.toArray }) (hi : IntsAre vs ns) (hl : ns.length ≤ sizeLine) (hr : Room k callerA)
    (F : ∀ base : Heap, K.In base → base.Ns mainGlobals mg → FnG P w K mg base k fa fd [x] sp)
    (hbind : ∀ (s : Shared) (u : Value), BindsTo s fd ⟨[u], []⟩ [(x, u)])
    (hsp : ∀ H : Hp, SqL K H a (ns.map V.int) → sp [.ref a] H (fun v _ => v = .bl true) fun _ _ _ => False) :
    codeAny (model P w) callerA (.call (.ref fa) ⟨[.ref a], []⟩)
      (fun r s' => r = .ok (.ret (.bool true)) ∧ OldK s₁.heap s'.heap ∧ s'.os = s₁.os ∧ AllBare s'.gens) s₁ := by
  have rv := vals_ints hi
  have lv := hi.length
  obtain ⟨H, hH⟩ : ∃ H : Hp, ∀ b, H b = if b = a ∧ K.lookup a = none then some (.frz { cls := .type "list", data := .seq vs.toArray } (.lst (ns.map V.int))) else none := ⟨fun b => _, fun _ => rfl⟩
  have some_of : ∀ {b u}, H b = some u → b = a ∧ K.lookup a = none ∧ u = .frz { cls := .type "list", data := .seq vs.toArray } (.lst (ns.map V.int)) := by
    intro b u e
    rw [hH b] at e
    by_cases c : b = a ∧ K.lookup a = none
    · rw [if_pos c] at e
      exact ⟨c.1, c.2, (Option.some.inj e).symm⟩
    · rw [if_neg c] at e
      cases e
  have none_of : ∀ {b o} {es : Array DictEntry} {ep : Nat}, s₁.heap.get? b = some o → o.data = .dict es ep → H b = none := by
    intro b o es ep e d
    cases c : H b with
    | none => rfl
    | some u =>
      obtain ⟨rfl, _, _⟩ := some_of c
      rw [ha] at e
      cases e
      cases d
  have hS : SqL K H a (ns.map V.int) := by
    cases hk : K.lookup a with
    | none => exact .inl (.inr ⟨_, by rw [hH a, if_pos ⟨rfl, hk⟩]⟩)
    | some o =>
      have e := KX a o hk
      rw [ha] at e
      cases e
      refine .inr ⟨_, vs.toArray, _, hk, rfl, rfl, rfl, ?_, by simpa using rv⟩
      rw [List.size_toArray, lv]
      exact hl
  have hok : HOk P w H s₁.heap := by
    intro b u e
    obtain ⟨rfl, _, rfl⟩ := some_of e
    refine ⟨ha, ?_, vs, _, rv, ha⟩
    rw [List.length_map]
    exact hl
  have nsB : ∀ {b : Addr} {m : Str → Option Value}, s₁.heap.Ns b m → (hidT s₁.heap H).Ns b m := by
    rintro b m ⟨o, es, ep, e, d, r⟩
    exact ⟨o, es, ep, hidT_get e (none_of e d), d, r⟩
  have kB : K.In (hidT s₁.heap H) := by
    intro b o e
    refine hidT_get (KX b o e) ?_
    cases c : H b with
    | none => rfl
    | some u =>
      obtain ⟨rfl, k0, _⟩ := some_of c
      rw [k0] at e
      cases e
  have md : Mod K mg (hidT s₁.heap H) := by
    obtain ⟨mc, h1, h2⟩ := hlim
    exact ⟨kB, nsB hns, ⟨mb, nsB hb, hbb⟩, ⟨mc, nsB h1, h2⟩⟩
  have e0 : Env0 P w K mg (hidT s₁.heap H) callerA [] s₁ H := by
    refine ⟨rfl, md, fun b o e => of_hidT e, Nat.le_of_eq (hidT_size _ _), trivial, ?_, hok, .of_eq hge⟩
    intro b hb
    exact absurd (show b ∈ ([] : List Addr) from hb) (by simp)
  have go := (F _ kB (nsB hns)).run callerA [] s₁ H ⟨[.ref a], []⟩ [.ref a] [.ref a] _ _ rfl hr e0
    (hbind s₁ (.ref a)) (.cons rfl .nil) (hsp H hS)
  refine codeAny_mono go fun r s' h => ?_
  cases r with
  | error e => exact h.elim
  | ok fl =>
    cases fl with
    | ret u =>
      obtain ⟨v, H', os, bare, un, hok', r', qv⟩ := h
      have qv' : v = .bl true := qv
      subst qv'
      obtain rfl : u = Value.bool true := r'
      refine ⟨rfl, OldK.of_keep fun b o e => ?_, os, bare⟩
      cases c : H b with
      | none =>
        refine un.keep b o e c ?_ (by simp)
        intro z
        exact absurd (show b ∈ ([] : List Addr) from z) (by simp)
      | some u =>
        obtain ⟨_, _, rfl⟩ := some_of c
        have c2 := un.frzs b _ _ c
        obtain ⟨e1, _⟩ := hok b _ c
        obtain ⟨e2, _⟩ := hok' b _ c2
        rw [e] at e1
        cases e1
        exact e2
    | next => exact False.elim h
    | brk => exact False.elim h
    | cont => exact False.elim h
end
theorem walk_ofG {l : PySem.W.OpenLaw} {n k : Nat} {q : Program} {loose : List Str} {XP : (Str → Option Value) → Heap → Prop} {YP : World → Heap → Prop} {d : DefRec} {K : Params → PySem.W.Frag} {sp : World → Sp} {x : Str}
    (hn : l.most = some n) (hn2 : n ≤ sizeLine) (hdf : d.params.defaults = []) (hr : Room k callerA) (hY : ∀ (w : World) (h : Heap), YP w h → (K w.params).In h)
    (F : ∀ (w : World) (mg : Str → Option Value) (fa : Addr) (h : Heap), (K w.params).In h → h.Ns mainGlobals mg → mg d.name = some (.ref fa) →
      ∃ fd : FuncData, (∀ (s : Shared) (u : Value), BindsTo s fd ⟨[u], []⟩ [(x, u)]) ∧
        ∀ base : Heap, (K w.params).In base → base.Ns mainGlobals mg → FnG l.prog w (K w.params) mg base k fa fd [x] (sp w))
    (hsp : ∀ (w : World) (H : Hp) (a : Addr) (ns : List Int), ns.length ≤ n → SqL (K w.params) H a (ns.map V.int) → sp w [.ref a] H (fun v _ => v = .bl true) fun _ _ _ => False) :
    PySem.W.WalkO q loose XP YP l.row.toRowW d [] (fun f vs => PySem.call f vs) := by
  refine Att.attach_call hn hdf fun w s₀ s₁ mg mb fa o pm cd doc a vs ns G Y _ _ _ hmg hobj hints hlen hge => ?_
  have KX := hY w _ Y
  obtain ⟨fd, hb, hF⟩ := F w mg fa _ KX G.T.g hmg
  exact law_callG KX G.T.g G.T.b G.T.builtins G.T.nolimit hge hobj hints (Nat.le_trans hlen hn2) hr hF hb
    (fun H hS => hsp w H a ns hlen hS)
/-! ### repr of data -/
def rRepr (K : PySem.W.Frag) : List V → Hp → VK → Prop := fun xs H Q => ∃ (a : Addr) (d : PyData) (S : Str), xs = [.ref a] ∧ Dp K H (.ref a) d ∧ d.showable = true ∧ d.hasDict = false ∧ d.depth ≤ 30 ∧ d.shown.length ≤ sizeLine ∧ d.shown = S ∧ Q (.str S) H
theorem call_repr {X : Cx} (hg : X.A.guards = some []) (hu : X.A.units + 64 < cLine) : CallR X (.builtin "repr") (rRepr X.K) := by
  intro pins s σ H xs us Q I r h
  obtain ⟨a, d, S, rfl, hd, hs, hnd, hdep, hsz, hS, q⟩ := h
  subst hS
  obtain ⟨u, rfl, rx⟩ := vals1 r
  cases (show u = Value.ref a from rx)
  obtain ⟨as, rd⟩ := Dp.reads I d _ _ hd rfl
  refine repr_of_reads' rd hs (fun z => by rw [hnd] at z; cases z) hg (by omega) (fun _ _ e => e) (fun h' u tk hk => ?_) hsz
  exact ⟨.str d.shown, H, I.kept hk, ⟨_, rfl⟩, q⟩
/-! ### data that can be shown -/
structure RO (k w : Nat) (d : PyData) : Prop where
  sh : d.showable = true
  nd : d.hasDict = false
  dp : d.depth ≤ k
  lv : d.leavesShort 13 = true
  wt : d.weight ≤ w
theorem RO.none {w : Nat} : RO 0 w .none := ⟨rfl, rfl, Nat.le_refl _, rfl, Nat.zero_le _⟩
theorem RO.bool {w : Nat} (b : Bool) : RO 0 w (.bool b) := ⟨rfl, rfl, Nat.le_refl _, rfl, Nat.zero_le _⟩
theorem RO.int {i : Int} (h1 : -999999999999 ≤ i) (h2 : i ≤ 999999999999) : RO 0 41 (.int i) := by
  have hl : i.natAbs.log2 < 41 := by
    rcases Nat.eq_zero_or_pos i.natAbs with e | e
    · rw [e]
      decide
    · exact (Nat.log2_lt (by omega)).mpr (Nat.lt_of_le_of_lt (show i.natAbs ≤ 999999999999 by omega) (by decide))
  refine ⟨decide_eq_true (by omega), rfl, Nat.le_refl _, decide_eq_true (PyData.shown_int_le2 h1 h2), ?_⟩
  show (if i == 0 then 0 else i.natAbs.log2 + 1) ≤ 41
  split <;> omega
theorem RO.more {k w k' w' : Nat} {d : PyData} (h : RO k w d) (h1 : k ≤ k') (h2 : w ≤ w') : RO k' w' d := ⟨h.sh, h.nd, Nat.le_trans h.dp h1, h.lv, Nat.le_trans h.wt h2⟩
theorem ro_all {k w : Nat} : ∀ {ds : List PyData}, (∀ e ∈ ds, RO k w e) → PyData.showableAll ds = true ∧ PyData.hasDictAll ds = false ∧ PyData.depthAll ds ≤ k ∧ PyData.leavesShortAll 13 ds = true ∧ PyData.weightAll ds ≤ ds.length * (w + 1)
  | [], _ => ⟨rfl, rfl, Nat.zero_le _, rfl, Nat.zero_le _⟩
  | d :: t, h => by
    obtain ⟨a, b, c, e, f⟩ := ro_all (ds := t) fun x hx => h x (List.mem_cons_of_mem _ hx)
    have h1 := h d (List.mem_cons_self ..)
    refine ⟨?_, ?_, ?_, ?_, ?_⟩
    · show (d.showable && PyData.showableAll t) = true
      rw [h1.sh, a]
      rfl
    · show (d.hasDict || PyData.hasDictAll t) = false
      rw [h1.nd, b]
      rfl
    · show max d.depth (PyData.depthAll t) ≤ k
      exact Nat.max_le.mpr ⟨h1.dp, c⟩
    · show (d.leavesShort 13 && PyData.leavesShortAll 13 t) = true
      rw [h1.lv, e]
      rfl
    · show d.weight + 1 + PyData.weightAll t ≤ (t.length + 1) * (w + 1)
      have := h1.wt
      rw [Nat.add_mul, Nat.one_mul]
      omega
theorem RO.tup {k w n : Nat} {ds : List PyData} (h : ∀ e ∈ ds, RO k w e) (hn : ds.length * (w + 1) ≤ n) : RO (k + 1) n (.tuple ds) := by
  obtain ⟨a, b, c, e, f⟩ := ro_all h
  exact ⟨a, b, Nat.succ_le_succ c, e, Nat.le_trans f hn⟩
theorem RO.lst {k w n : Nat} {ds : List PyData} (h : ∀ e ∈ ds, RO k w e) (hn : ds.length * (w + 1) ≤ n) : RO (k + 1) n (.list ds) := by
  obtain ⟨a, b, c, e, f⟩ := ro_all h
  exact ⟨a, b, Nat.succ_le_succ c, e, Nat.le_trans f hn⟩
theorem RO.fits {k w : Nat} {d : PyData} (h : RO k w d) (hw : w ≤ 1000000) : d.shown.length ≤ sizeLine := by
  have := PyData.shown_le 13 (by decide) d h.lv
  have := h.wt
  have e : sizeLine = 16777216 := by decide
  omega
/-! ### windows and places as data -/
theorem dpAll_of {K : PySem.W.Frag} {H : Hp} {β : Type} {R : V → β → Prop} {f : β → PyData} (h : ∀ v m, R v m → Dp K H v (f m)) : ∀ {vs : List V} {ms : List β}, Paired R vs ms → DpAll K H vs (ms.map f)
  | _, _, .nil => .nil
  | _, _, .cons r t => .cons (h _ _ r) (dpAll_of h t)
def rwD (r : RW) : PyData := .tuple [.int r.1, .int r.2]
def plD (p : RW × RW) : PyData := .tuple [rwD p.1, rwD p.2]
def mvD (m : MV) : PyData := .tuple [.int m.1, .int m.2.1, .int m.2.2]
def winD (x y : Int) (ms : List MV) : PyData := .tuple [.int x, .int y, .tuple (ms.map mvD)]
theorem RowAt.dp {K : PySem.W.Frag} {H : Hp} {v : V} {r : RW} : RowAt K H v r → Dp K H v (rwD r) := by
  rintro ⟨p, rfl, h⟩
  exact .tup h (.cons (.int _) (.cons (.int _) .nil))
theorem PlAt.dp {K : PySem.W.Frag} {H : Hp} {v : V} {p : RW × RW} : PlAt K H v p → Dp K H v (plD p) := by
  rintro ⟨a, v1, v2, rfl, h, r1, r2⟩
  exact .tup h (.cons r1.dp (.cons r2.dp .nil))
theorem MoveAt.dp {K : PySem.W.Frag} {H : Hp} {v : V} {m : MV} : MoveAt K H v m → Dp K H v (mvD m) := by
  rintro ⟨p, rfl, h⟩
  exact .tup h (.cons (.int _) (.cons (.int _) (.cons (.int _) .nil)))
theorem WinAt.dp {K : PySem.W.Frag} {H : Hp} {v : V} {x y : Int} {ms : List MV} : WinAt K H v x y ms → Dp K H v (winD x y ms) := by
  rintro ⟨p, mv, rfl, h, pm, vs, rfl, hq, pd⟩
  exact .tup h (.cons (.int _) (.cons (.int _) (.cons (.tup hq (dpAll_of (f := mvD) (fun _ _ h => MoveAt.dp h) pd)) .nil)))
theorem mem3 {α : Type} {a b c e : α} (h : e ∈ [a, b, c]) : e = a ∨ e = b ∨ e = c := by
  simpa using h
theorem mvD_ro {m : MV} (h : VMove m) : RO 1 126 (mvD m) := by
  obtain ⟨h1, h2, h3, h4⟩ := h
  refine RO.tup (k := 0) (w := 41) (fun e he => ?_) (by show 3 * 42 ≤ 126; decide)
  rcases mem3 he with rfl | rfl | rfl <;> exact RO.int (by omega) (by omega)
theorem winD_ro {x y : Int} {ms : List MV} (h : VWin x y ms) : RO 3 3051 (winD x y ms) := by
  obtain ⟨h1, h2, h3, h4⟩ := h
  refine RO.tup (k := 2) (w := 1016) (fun e he => ?_) (by show 3 * 1017 ≤ 3051; decide)
  rcases mem3 he with rfl | rfl | rfl
  · exact (RO.int (by omega) (by omega)).more (by omega) (by omega)
  · exact (RO.int (by omega) (by omega)).more (by omega) (by omega)
  · refine RO.tup (k := 1) (w := 126) (fun e he => ?_) ?_
    · obtain ⟨m, hm, rfl⟩ := List.mem_map.mp he
      exact mvD_ro (h4 m hm)
    · rw [List.length_map]
      omega
theorem ro_args {k w : Nat} {d : PyData} (h : RO k w d) (hk : k ≤ 30) (hw : w ≤ 1000000) : d.showable = true ∧ d.hasDict = false ∧ d.depth ≤ 30 ∧ d.shown.length ≤ sizeLine := ⟨h.sh, h.nd, Nat.le_trans h.dp hk, h.fits hw⟩
theorem fl_int (i : Int) : flD (.int i) := .inr (.inr ⟨i, rfl⟩)
theorem dOk_rw (r : RW) : dOk 1 (rwD r) := by
  refine .inr ⟨_, .inr rfl, (by show 2 ≤ 1000; decide), fun e he => ?_⟩
  rcases List.mem_cons.mp he with rfl | he
  · exact fl_int _
  · rw [List.mem_singleton.mp he]
    exact fl_int _
theorem dOk_pl (p : RW × RW) : dOk 2 (plD p) := by
  refine .inr ⟨_, .inr rfl, (by show 2 ≤ 1000; decide), fun e he => ?_⟩
  rcases List.mem_cons.mp he with rfl | he
  · exact dOk_rw _
  · rw [List.mem_singleton.mp he]
    exact dOk_rw _
/-! ### layers, sheets, pictures as data -/
def bkD : Option Int → PyData
  | none => .none
  | some i => .int i
def lyD (l : LY) : PyData := .tuple [.tuple (l.1.map rwD), bkD l.2]
def shD (ls : List LY) (x y : Int) (ms : List MV) : PyData := .tuple [.tuple (ls.map lyD), winD x y ms]
def picD (c : PIC) : PyData := .tuple [.tuple (c.1.map .int), plD c.2]
theorem bkD_dp {K : PySem.W.Frag} {H : Hp} (o : Option Int) : Dp K H (bkV o) (bkD o) := by
  cases o with
  | none => exact .non
  | some i => exact .int i
theorem LyAt.dp {K : PySem.W.Frag} {H : Hp} {v : V} {l : LY} : LyAt K H v l → Dp K H v (lyD l) := by
  rintro ⟨p, rv, rfl, h, pr, vs, rfl, hq, pd⟩
  exact .tup h (.cons (.tup hq (dpAll_of (f := rwD) (fun _ _ h => RowAt.dp h) pd)) (.cons (bkD_dp _) .nil))
theorem ShAt.dp {K : PySem.W.Frag} {H : Hp} {v : V} {ls : List LY} {x y : Int} {ms : List MV} : ShAt K H v ls x y ms → Dp K H v (shD ls x y ms) := by
  rintro ⟨p, lv, wv, rfl, h, ⟨pl, vs, rfl, hq, pd⟩, hw⟩
  exact .tup h (.cons (.tup hq (dpAll_of (f := lyD) (fun _ _ h => LyAt.dp h) pd)) (.cons hw.dp .nil))
theorem ints_dp {K : PySem.W.Frag} {H : Hp} : ∀ ns : List Int, DpAll K H (ns.map V.int) (ns.map .int)
  | [] => .nil
  | n :: r => .cons (.int n) (ints_dp r)
theorem PicAt.dp {K : PySem.W.Frag} {H : Hp} {v : V} {c : PIC} : PicAt K H v c → Dp K H v (picD c) := by
  rintro ⟨a, b, v2, rfl, h, h1, h2⟩
  exact .tup h (.cons (.tup h1 (ints_dp _)) (.cons h2.dp .nil))
theorem mem2 {α : Type} {a b e : α} (h : e ∈ [a, b]) : e = a ∨ e = b := by
  simpa using h
theorem rwD_ro {r : RW} (h : VRow r) : RO 1 84 (rwD r) := by
  obtain ⟨h1, h2, h3, h4⟩ := h
  refine RO.tup (k := 0) (w := 41) (fun e he => ?_) (by show 2 * 42 ≤ 84; decide)
  rcases mem2 he with rfl | rfl <;> exact RO.int (by omega) (by omega)
theorem lyD_ro {l : LY} (h : VLy l) : RO 3 1362 (lyD l) := by
  obtain ⟨⟨h8, hr⟩, hb⟩ := h
  refine RO.tup (k := 2) (w := 680) (fun e he => ?_) (by show 2 * 681 ≤ 1362; decide)
  rcases mem2 he with rfl | rfl
  · refine RO.tup (k := 1) (w := 84) (fun e he => ?_) ?_
    · obtain ⟨r, hm, rfl⟩ := List.mem_map.mp he
      exact rwD_ro (hr r hm)
    · rw [List.length_map]
      omega
  · cases e : l.2 with
    | none => exact RO.none.more (by omega) (Nat.le_refl _)
    | some i =>
      have := hb i e
      exact (RO.int (by omega) (by omega)).more (by omega) (by omega)
theorem shD_ro {ls : List LY} {x y : Int} {ms : List MV} (h : VLays ls) (hw : VWin x y ms) : RO 5 10906 (shD ls x y ms) := by
  obtain ⟨h1, h4, hl⟩ := h
  refine RO.tup (k := 4) (w := 5452) (fun e he => ?_) (by show 2 * 5453 ≤ 10906; decide)
  rcases mem2 he with rfl | rfl
  · refine RO.tup (k := 3) (w := 1362) (fun e he => ?_) ?_
    · obtain ⟨l, hm, rfl⟩ := List.mem_map.mp he
      exact lyD_ro (hl l hm)
    · rw [List.length_map]
      omega
  · exact (winD_ro hw).more (by omega) (by omega)
theorem dOk_up : ∀ {n : Nat} {d : PyData}, dOk n d → dOk (n + 1) d
  | 0, _, h => .inl h
  | n + 1, _, .inl h => .inl h
  | n + 1, _, .inr ⟨ds, h1, h2, h3⟩ => .inr ⟨ds, h1, h2, fun e he => dOk_up (h3 e he)⟩
theorem dOk_pic {c : PIC} (h : c.1.length ≤ 1000) : dOk 3 (picD c) := by
  refine .inr ⟨_, .inr rfl, (by show 2 ≤ 1000; decide), fun e he => ?_⟩
  rcases mem2 he with rfl | rfl
  · refine dOk_up (n := 1) (.inr ⟨_, .inr rfl, by rw [List.length_map]; exact h, fun e he => ?_⟩)
    obtain ⟨i, _, rfl⟩ := List.mem_map.mp he
    exact fl_int i
  · exact dOk_pl _
theorem dOk_pics {cs : List PIC} (h : cs.length ≤ 1000) (hc : ∀ c ∈ cs, c.1.length ≤ 1000) : dOk 4 (.list (cs.map picD)) := by
  refine .inr ⟨_, .inl rfl, by rw [List.length_map]; exact h, fun e he => ?_⟩
  obtain ⟨c, hm, rfl⟩ := List.mem_map.mp he
  exact dOk_pic (hc c hm)
theorem lcmap_list {K : PySem.W.Frag} {a : Addr} {xs : List V} {g : TG} {tt : TT} {te : TE} {vs : List Nat} {σ : L2.St} {H1 : Hp} {D : Addr} {Qd : Hp → Prop} (ys : List V) (hl : ys.length = xs.length) (hz : xs.length ≤ 1000) (hS : SqL K H1 a xs) (hD : H1 D = none)
    (hs : ∀ (i : Nat) (x y : V) (H : Hp) (R : V → Hp → Prop) (Z : Hp → Prop), xs[i]? = some x → ys[i]? = some y → Same H1 H → (∀ H4, Same H H4 → R y H4) → g x (wipe σ vs) H fun σ2 H2 => wipe σ2 vs = wipe σ vs ∧ tt σ2 H2 fun b H3 => if b = true then te σ2 H3 R else Z H3)
    (hd : ∀ H, Same H1 H → H D = some (.lst ys) → Qd H) :
    ∃ W : Nat → Nat → Hp → Prop, (∃ m, W 0 m (upd H1 D (.lst []))) ∧ ∀ i m H, W i m H →
      ((Itl K a).stop i H ∧ Qd H) ∨ ((Itl K a).go i H ∧ ∃ Nx : Hp → Prop, (∀ H', Nx H' → ∃ m', m' < m ∧ W (i + 1) m' H') ∧ ∀ x H', (Itl K a).yld i H x H' → g x (wipe σ vs) H' fun σ2 H2 => wipe σ2 vs = wipe σ vs ∧ tt σ2 H2 fun b H3 =>
        if b = true then te σ2 H3 fun y H4 => ∃ acc, H4 D = some (.lst acc) ∧ acc.length < sizeLine ∧ Nx (upd H4 D (.lst (acc ++ [y]))) else Nx H3) := by
  refine lc_list (K := K) (a := a) (xs := xs) (fun i H => Same H1 H ∧ H D = some (.lst (ys.take i))) ⟨same_upd hD, upd_same⟩ (fun i H _ p => p.1.seq hS) (fun i x H hx p => ?_) (fun H p => ?_)
  · have hi : i < xs.length := (List.getElem?_eq_some_iff.mp hx).1
    obtain ⟨y, hy⟩ : ∃ y, ys[i]? = some y := ⟨_, List.getElem?_eq_getElem (by omega)⟩
    refine hs i x y H _ _ hx hy p.1 (fun H4 s4 => ⟨ys.take i, s4 _ _ p.2, ?_, ?_, ?_⟩)
    · rw [List.length_take]
      exact Nat.lt_of_le_of_lt (Nat.min_le_left _ _) (small1000 (by omega))
    · intro b o e
      rw [upd_ne (ne_of_none e hD)]
      exact s4 _ _ (p.1 _ _ e)
    · rw [upd_same, List.take_add_one, hy]
      rfl
  · refine hd H p.1 ?_
    rw [p.2, List.take_of_length_le (by omega)]
/-! ### laying -/
def rnd (rs : List RW) : Option Int → Int
  | none => 0
  | some b => tot (rs.drop b.toNat)
def lays (rs : List RW) (bk : Option Int) (n : Nat) : List V := (List.range n).map fun i => V.int (shown rs bk (i : Nat))
theorem lays_at {rs : List RW} {bk : Option Int} {n i : Nat} (h : i < n) : (lays rs bk n)[i]? = some (.int (shown rs bk (i : Nat))) := by
  unfold lays
  rw [List.getElem?_map, List.getElem?_range h]
  rfl
theorem lays_len (rs : List RW) (bk : Option Int) (n : Nat) : (lays rs bk n).length = n := by
  unfold lays
  rw [List.length_map, List.length_range]
theorem lays_of {rs : List RW} {bk : Option Int} {n : Nat} {fs : List Int} (hl : n ≤ fs.length) (h : ∀ i, i < fs.length → fs[i]? = some (shown rs bk (i : Nat))) : (fs.map V.int).take n = lays rs bk n := by
  apply List.ext_getElem?
  intro i
  by_cases hi : i < n
  · rw [lays_at hi, List.getElem?_take_of_lt hi, List.getElem?_map, h i (by omega)]
    rfl
  · rw [List.getElem?_eq_none (by rw [List.length_take]; omega), List.getElem?_eq_none (by rw [lays_len]; omega)]
/-! ### laid out, row by row -/
/-- a walk over J: Body tells what is asked of a turn, Qd what is asked at the end -/
abbrev Goes (J : It) (Body : V → Hp → (Hp → Prop) → Prop) (Hs : Hp) (Qd : Hp → Prop) : Prop :=
  ∃ W : Nat → Nat → Hp → Prop, (∃ m, W 0 m Hs) ∧ ∀ i m H, W i m H →
    (J.stop i H ∧ Qd H) ∨ (J.go i H ∧ ∃ Nx : Hp → Prop, (∀ H', Nx H' → ∃ m', m' < m ∧ W (i + 1) m' H') ∧ ∀ x H', J.yld i H x H' → Body x H' Nx)
/-- n turns: Pv i stands when i of them are done -/
theorem goes_by {J : It} {n : Nat} {Body : V → Hp → (Hp → Prop) → Prop} {Hs : Hp} {Qd : Hp → Prop} (Pv : Nat → Hp → Prop) (h0 : Pv 0 Hs) (last : ∀ H, Pv n H → J.stop n H ∧ Qd H)
    (turn : ∀ i H, i < n → Pv i H → J.go i H ∧ ∀ x H', J.yld i H x H' → Body x H' (Pv (i + 1))) : Goes J Body Hs Qd := by
  refine ⟨fun done left H => done + left = n ∧ Pv done H, ⟨n, Nat.zero_add n, h0⟩, fun i left H here => ?_⟩
  cases left with
  | zero =>
    obtain ⟨rfl, p⟩ := here
    exact .inl (last H p)
  | succ less =>
    have now := turn i H (by have := here.1; omega) here.2
    exact .inr ⟨now.1, Pv (i + 1), fun H' p => ⟨less, Nat.lt_succ_self less, by have := here.1; omega, p⟩, now.2⟩
theorem wk_tup {K : PySem.W.Frag} {a : Addr} {xs : List V} {Body : V → Hp → (Hp → Prop) → Prop} {Hs : Hp} {Qd : Hp → Prop} (Pv : Nat → Hp → Prop) (h0 : Pv 0 Hs) (hl : ∀ i H, i ≤ xs.length → Pv i H → SqT K H a xs)
    (hs : ∀ i x H, xs[i]? = some x → Pv i H → Body x H (Pv (i + 1))) (hd : ∀ H, Pv xs.length H → Qd H) : Goes (Itt K a) Body Hs Qd :=
  goes_by (n := xs.length) Pv h0 (fun H p => ⟨⟨xs, hl _ H (Nat.le_refl _) p, Nat.le_refl _⟩, hd H p⟩) fun i H lt p =>
    have stays := hl i H (Nat.le_of_lt lt) p
    ⟨⟨xs, _, stays, List.getElem?_eq_getElem lt⟩, fun x _ y => y.1 ▸ hs i x H (y.2 xs stays) p⟩
theorem wk_list {K : PySem.W.Frag} {a : Addr} {xs : List V} {Body : V → Hp → (Hp → Prop) → Prop} {Hs : Hp} {Qd : Hp → Prop} (Pv : Nat → Hp → Prop) (h0 : Pv 0 Hs) (hl : ∀ i H, i ≤ xs.length → Pv i H → SqL K H a xs)
    (hs : ∀ i x H, xs[i]? = some x → Pv i H → Body x H (Pv (i + 1))) (hd : ∀ H, Pv xs.length H → Qd H) : Goes (Itl K a) Body Hs Qd :=
  goes_by (n := xs.length) Pv h0 (fun H p => ⟨⟨xs, hl _ H (Nat.le_refl _) p, Nat.le_refl _⟩, hd H p⟩) fun i H lt p =>
    have stays := hl i H (Nat.le_of_lt lt) p
    ⟨⟨xs, _, stays, List.getElem?_eq_getElem lt⟩, fun x _ y => y.1 ▸ hs i x H (y.2 xs stays) p⟩
theorem wk_range {lo : Int} {n : Nat} {Body : V → Hp → (Hp → Prop) → Prop} {Hs : Hp} {Qd : Hp → Prop} (Pv : Nat → Hp → Prop) (h0 : Pv 0 Hs)
    (hs : ∀ i H, i < n → Pv i H → Body (.int (lo + i)) H (Pv (i + 1))) (hd : ∀ H, Pv n H → Qd H) : Goes (Itr lo n) Body Hs Qd :=
  goes_by Pv h0 (fun H p => ⟨Nat.le_refl n, hd H p⟩) fun i H lt p => ⟨lt, fun _ _ y => y.1 ▸ y.2 ▸ hs i H lt p⟩
theorem yes_ok2 {σ : L2.St} {H : Hp} {X Z : Hp → Prop} (h : X H) : tYes σ H (fun b H3 => if b = true then X H3 else Z H3) := by
  show if true = true then X H else Z H
  rw [if_pos rfl]
  exact h
def dwg : List RW → List Int
  | [] => []
  | r :: t => List.replicate r.2.toNat r.1 ++ dwg t
theorem dwg_append (a b : List RW) : dwg (a ++ b) = dwg a ++ dwg b := by
  induction a with
  | nil => rfl
  | cons r t ih => rw [List.cons_append, dwg, dwg, ih, List.append_assoc]
theorem dwg_len : ∀ {rs : List RW}, (∀ r ∈ rs, VRow r) → ((dwg rs).length : Int) = tot rs
  | [], _ => rfl
  | r :: t, v => by
    have v1 := v r (List.mem_cons_self ..)
    have ih := dwg_len (rs := t) fun q hq => v q (List.mem_cons_of_mem _ hq)
    rw [dwg, List.length_append, List.length_replicate, tot_cons]
    obtain ⟨_, _, h3, _⟩ := v1
    omega
theorem dwg_at : ∀ {rs : List RW} {i : Nat}, (∀ r ∈ rs, VRow r) → (i : Int) < tot rs → (dwg rs)[i]? = some (walk rs i)
  | [], i, _, h => by
    rw [tot_nil] at h
    omega
  | r :: t, i, v, h => by
    have v1 := v r (List.mem_cons_self ..)
    have vt : ∀ q ∈ t, VRow q := fun q hq => v q (List.mem_cons_of_mem _ hq)
    obtain ⟨_, _, h3, _⟩ := v1
    rw [tot_cons] at h
    rw [dwg]
    unfold walk
    by_cases c : (i : Int) < r.2
    · rw [if_pos c, List.getElem?_append_left (by rw [List.length_replicate]; omega), List.getElem?_replicate, if_pos (by omega)]
    · rw [if_neg c, List.getElem?_append_right (by rw [List.length_replicate]; omega), List.length_replicate]
      have := dwg_at (rs := t) (i := i - r.2.toNat) vt (by omega)
      rw [this]
      congr 2
      omega
theorem walk_cons (r : RW) (t : List RW) (m : Int) : walk (r :: t) m = if m < r.2 then r.1 else walk t (m - r.2) := rfl
theorem walk_append : ∀ {a b : List RW} {m : Int}, (∀ r ∈ a, VRow r) → 0 ≤ m → walk (a ++ b) m = if m < tot a then walk a m else walk b (m - tot a)
  | [], b, m, _, h => by
    rw [tot_nil, if_neg (by omega), List.nil_append, show m - 0 = m by omega]
  | r :: t, b, m, v, h => by
    have v1 := v r (List.mem_cons_self ..)
    have vt : ∀ q ∈ t, VRow q := fun q hq => v q (List.mem_cons_of_mem _ hq)
    have t0 := (tot_nonneg vt).1
    obtain ⟨_, _, h3, _⟩ := v1
    rw [List.cons_append, tot_cons, walk_cons, walk_cons]
    by_cases c : m < r.2
    · rw [if_pos c, if_pos (by omega), if_pos c]
    · rw [if_neg c, walk_append vt (by omega), if_neg c]
      by_cases d : m < r.2 + tot t
      · rw [if_pos d, if_pos (by omega)]
      · rw [if_neg d, if_neg (by omega), show m - r.2 - tot t = m - (r.2 + tot t) by omega]
theorem rep_at {α : Type} {B : List α} (hB : 0 < B.length) : ∀ (t j : Nat), j < t * B.length → (List.replicate t B).flatten[j]? = B[j % B.length]?
  | 0, j, h => by omega
  | t + 1, j, h => by
    rw [List.replicate_succ, List.flatten_cons]
    by_cases c : j < B.length
    · rw [List.getElem?_append_left c, Nat.mod_eq_of_lt c]
    · rw [List.getElem?_append_right (by omega), rep_at hB t (j - B.length) (by rw [Nat.add_mul, Nat.one_mul] at h; omega), ← Nat.mod_eq_sub_mod (by omega)]
/-- what a layer shows: ahead once, around again and again -/
def ahL (rs : List RW) : Option Int → List Int
  | none => dwg rs
  | some b => dwg (rs.take b.toNat)
def arL (rs : List RW) : Option Int → List Int
  | none => [0]
  | some b => dwg (rs.drop b.toNat)
theorem VRows.takeV {rs : List RW} (v : VRows rs) (k : Nat) : VRows (rs.take k) := ⟨by rw [List.length_take]; have := v.1; omega, fun r hr => v.2 r (List.mem_of_mem_take hr)⟩
theorem VRows.dropV {rs : List RW} (v : VRows rs) (k : Nat) : VRows (rs.drop k) := ⟨by rw [List.length_drop]; have := v.1; omega, fun r hr => v.2 r (List.mem_of_mem_drop hr)⟩
theorem ahL_len {rs : List RW} {bk : Option Int} (v : VRows rs) : (ahL rs bk).length ≤ 192 := by
  cases bk with
  | none =>
    have h := dwg_len v.2
    have t := (tot_nonneg v.2).2
    have := v.1
    show (dwg rs).length ≤ 192
    omega
  | some b =>
    have h := dwg_len (v.takeV b.toNat).2
    have t := (tot_nonneg (v.takeV b.toNat).2).2
    have := (v.takeV b.toNat).1
    show (dwg (rs.take b.toNat)).length ≤ 192
    omega
theorem arL_len {rs : List RW} {bk : Option Int} (v : VRows rs) (vb : VBack rs bk) : 1 ≤ (arL rs bk).length ∧ (arL rs bk).length ≤ 192 := by
  cases bk with
  | none => exact ⟨Nat.le_refl _, by show 1 ≤ 192; omega⟩
  | some b =>
    have hb := vb b rfl
    have h := dwg_len (v.dropV b.toNat).2
    have t := tot_nonneg (v.dropV b.toNat).2
    have := v.1
    rw [List.length_drop] at t
    show 1 ≤ (dwg (rs.drop b.toNat)).length ∧ (dwg (rs.drop b.toNat)).length ≤ 192
    omega
theorem shown_lay {rs : List RW} {bk : Option Int} (v : VRows rs) (vb : VBack rs bk) (i : Nat) :
    some (shown rs bk i) = if i < (ahL rs bk).length then (ahL rs bk)[i]? else (arL rs bk)[(i - (ahL rs bk).length) % (arL rs bk).length]? := by
  cases bk with
  | none =>
    have h := dwg_len v.2
    show some (walk rs i) = if i < (dwg rs).length then (dwg rs)[i]? else ([0] : List Int)[(i - (dwg rs).length) % 1]?
    by_cases c : i < (dwg rs).length
    · rw [if_pos c, dwg_at v.2 (by omega)]
    · rw [if_neg c, walk_out rs i (by omega) v.2, Nat.mod_one]
      rfl
  | some b =>
    have hb := vb b rfl
    have h := dwg_len (v.takeV b.toNat).2
    have h2 := dwg_len (v.dropV b.toNat).2
    have t2 := (tot_nonneg (v.dropV b.toNat).2).1
    rw [List.length_drop] at t2
    have cpos : 0 < tot (rs.drop b.toNat) := by omega
    show some (walk rs (if (i : Int) < tot (rs.take b.toNat) then (i : Int) else tot (rs.take b.toNat) + ((i : Int) - tot (rs.take b.toNat)) % tot (rs.drop b.toNat))) = if i < (dwg (rs.take b.toNat)).length then (dwg (rs.take b.toNat))[i]? else (dwg (rs.drop b.toNat))[(i - (dwg (rs.take b.toNat)).length) % (dwg (rs.drop b.toNat)).length]?
    have wa := fun m h0 => walk_append (a := rs.take b.toNat) (b := rs.drop b.toNat) (m := m) (v.takeV b.toNat).2 h0
    rw [List.take_append_drop] at wa
    by_cases c : i < (dwg (rs.take b.toNat)).length
    · rw [if_pos c, if_pos (by omega), wa _ (by omega), if_pos (by omega), dwg_at (v.takeV b.toNat).2 (by omega)]
    · have m0 := Int.emod_nonneg ((i : Int) - tot (rs.take b.toNat)) (show tot (rs.drop b.toNat) ≠ 0 by omega)
      have m1 := Int.emod_lt_of_pos ((i : Int) - tot (rs.take b.toNat)) cpos
      have t1 := (tot_nonneg (v.takeV b.toNat).2).1
      have em : (((i - (dwg (rs.take b.toNat)).length) % (dwg (rs.drop b.toNat)).length : Nat) : Int) = ((i : Int) - tot (rs.take b.toNat)) % tot (rs.drop b.toNat) := by
        rw [Int.natCast_emod, h2, Int.natCast_sub (by omega), h]
      rw [if_neg c, if_neg (by omega), wa _ (by omega), if_neg (by omega), dwg_at (v.dropV b.toNat).2 (by omega), em]
      congr 2
      omega
def laysI (rs : List RW) (bk : Option Int) (n : Nat) : List Int := (List.range n).map fun i => shown rs bk (i : Nat)
theorem laysI_map (rs : List RW) (bk : Option Int) (n : Nat) : lays rs bk n = (laysI rs bk n).map V.int := by
  unfold lays laysI
  rw [List.map_map]
  rfl
theorem first_lay {rs : List RW} {bk : Option Int} (v : VRows rs) (vb : VBack rs bk) {n t : Nat} (ht : n ≤ (ahL rs bk).length + t * (arL rs bk).length) :
    ((ahL rs bk) ++ (List.replicate t (arL rs bk)).flatten).take n = laysI rs bk n := by
  have hp := (arL_len v vb).1
  apply List.ext_getElem?
  intro i
  unfold laysI
  by_cases hi : i < n
  · rw [List.getElem?_take_of_lt hi, List.getElem?_map, List.getElem?_range hi]
    show _ = some (shown rs bk (i : Nat))
    rw [shown_lay v vb]
    by_cases c : i < (ahL rs bk).length
    · rw [if_pos c, List.getElem?_append_left c]
    · rw [if_neg c, List.getElem?_append_right (by omega), rep_at (by omega) t _ (by omega)]
  · rw [List.getElem?_eq_none (by rw [List.length_take]; omega), List.getElem?_eq_none (by rw [List.length_map, List.length_range]; omega)]
/-! ### data that is compared -/
mutual
def nb : PyData → Bool
  | .none => true
  | .int _ => true
  | .str x => PyData.strOk x
  | .bool _ => false
  | .list xs => nbs xs
  | .tuple xs => nbs xs
  | .dict _ => false
def nbs : List PyData → Bool
  | [] => true
  | x :: xs => nb x && nbs xs
end
theorem nbs_all : ∀ {xs : List PyData}, (∀ x ∈ xs, nb x = true) → nbs xs = true
  | [], _ => rfl
  | x :: xs, h => by
    show (nb x && nbs xs) = true
    rw [h x (List.mem_cons_self ..), nbs_all fun y hy => h y (List.mem_cons_of_mem _ hy)]
    rfl
mutual
theorem nb_can : ∀ d : PyData, nb d = true → d.canLay0 = true
  | .none, _ => rfl
  | .int _, _ => rfl
  | .str x, h => h
  | .bool _, h => nomatch h
  | .list xs, h => nbs_can xs h
  | .tuple xs, h => nbs_can xs h
  | .dict _, h => nomatch h
theorem nbs_can : ∀ xs : List PyData, nbs xs = true → PyData.canLayAll0 xs = true
  | [], _ => rfl
  | x :: xs, h => by
    have h' : (nb x && nbs xs) = true := h
    rw [Bool.and_eq_true] at h'
    show (x.canLay0 && PyData.canLayAll0 xs) = true
    rw [nb_can x h'.1, nbs_can xs h'.2]
    rfl
end
mutual
theorem nb_eq : ∀ d e : PyData, nb d = true → nb e = true → (PyData.eqv d e = true → d = e)
  | .none, e, _, h => by cases e <;> first | (intro _; rfl) | (intro z; cases z) | (cases h)
  | .int i, e, _, h => by
    cases e <;> first | (intro z; cases z) | (cases h) | skip
    intro z
    rw [PyData.eqv] at z
    rw [eq_of_beq z]
  | .str x, e, _, h => by
    cases e <;> first | (intro z; cases z) | (cases h) | skip
    intro z
    rw [PyData.eqv] at z
    rw [eq_of_beq z]
  | .bool _, _, h, _ => nomatch h
  | .list xs, e, h0, h => by
    cases e <;> first | (intro z; cases z) | (cases h) | skip
    intro z
    rw [PyData.eqv] at z
    rw [nbs_eq xs _ h0 h z]
  | .tuple xs, e, h0, h => by
    cases e <;> first | (intro z; cases z) | (cases h) | skip
    intro z
    rw [PyData.eqv] at z
    rw [nbs_eq xs _ h0 h z]
  | .dict _, _, h, _ => nomatch h
theorem nbs_eq : ∀ xs ys : List PyData, nbs xs = true → nbs ys = true → (PyData.eqvAll xs ys = true → xs = ys)
  | [], [], _, _ => fun _ => rfl
  | [], _ :: _, _, _ => fun z => nomatch z
  | _ :: _, [], _, _ => fun z => nomatch z
  | x :: xs, y :: ys, h0, h => by
    intro z
    have h0' : (nb x && nbs xs) = true := h0
    have h' : (nb y && nbs ys) = true := h
    rw [Bool.and_eq_true] at h0' h'
    rw [PyData.eqvAll, Bool.and_eq_true] at z
    rw [nb_eq x y h0'.1 h'.1 z.1, nbs_eq xs ys h0'.2 h'.2 z.2]
end
theorem nb_eqv {d e : PyData} (h0 : nb d = true) (h : nb e = true) : PyData.eqv d e = true ↔ d = e :=
  ⟨nb_eq d e h0 h, fun z => by rw [z]; exact SeqAt.eqv_refl e (nb_can e h)⟩
/-- may be compared: depth at most k -/
structure Sd (k : Nat) (d : PyData) : Prop where
  nb : nb d = true
  dp : d.depth ≤ k
theorem Sd.int {k : Nat} (i : Int) : Sd k (.int i) := ⟨rfl, Nat.zero_le _⟩
theorem Sd.none {k : Nat} : Sd k .none := ⟨rfl, Nat.zero_le _⟩
theorem Sd.more {k k' : Nat} {d : PyData} (h : Sd k d) (h1 : k ≤ k') : Sd k' d := ⟨h.nb, Nat.le_trans h.dp h1⟩
theorem sd_all {k : Nat} : ∀ {ds : List PyData}, (∀ e ∈ ds, Sd k e) → PyData.depthAll ds ≤ k
  | [], _ => Nat.zero_le _
  | d :: t, h => Nat.max_le.mpr ⟨(h d (List.mem_cons_self ..)).dp, sd_all fun x hx => h x (List.mem_cons_of_mem _ hx)⟩
theorem Sd.tup {k : Nat} {ds : List PyData} (h : ∀ e ∈ ds, Sd k e) : Sd (k + 1) (.tuple ds) := ⟨nbs_all fun x hx => (h x hx).nb, Nat.succ_le_succ (sd_all h)⟩
theorem Sd.lst {k : Nat} {ds : List PyData} (h : ∀ e ∈ ds, Sd k e) : Sd (k + 1) (.list ds) := ⟨nbs_all fun x hx => (h x hx).nb, Nat.succ_le_succ (sd_all h)⟩
theorem Sd.sh {k : Nat} {d : PyData} (h : Sd k d) (hk : k ≤ 64) : SeqAt.shaped d = true := by
  show (d.canLay0 && decide (d.depth ≤ 64)) = true
  rw [nb_can d h.nb, decide_eq_true (Nat.le_trans h.dp hk)]
  rfl
theorem Sd.ints {ns : List Int} : Sd 1 (.list (ns.map .int)) := Sd.lst fun e he => by
  obtain ⟨i, _, rfl⟩ := List.mem_map.mp he
  exact Sd.int i
theorem Sd.intsT {ns : List Int} : Sd 1 (.tuple (ns.map .int)) := Sd.tup fun e he => by
  obtain ⟨i, _, rfl⟩ := List.mem_map.mp he
  exact Sd.int i
theorem ints_inj {ns ms : List Int} : ns.map PyData.int = ms.map PyData.int ↔ ns = ms :=
  ⟨fun h => List.map_inj_right (fun _ _ e => PyData.int.inj e) |>.mp h, fun h => by rw [h]⟩
theorem eqv_ints (ns ms : List Int) : PyData.eqv (.list (ns.map .int)) (.list (ms.map .int)) = decide (ns = ms) := by
  have h := nb_eqv (Sd.ints (ns := ns)).nb (Sd.ints (ns := ms)).nb
  by_cases e : ns = ms
  · rw [decide_eq_true e]
    exact h.mpr (by rw [e])
  · rw [decide_eq_false e]
    exact Bool.eq_false_iff.mpr fun z => e (ints_inj.mp (PyData.list.inj (h.mp z)))
/-- x != y of data: the readings -/
theorem ne_data {K : PySem.W.Frag} {H : Hp} {x y : V} {d e : PyData} {k : Nat} {Q : VK} (hx : Dp K H x d) (hy : Dp K H y e) (sd : Sd k d) (se : Sd k e) (hk : k ≤ 64) (q : ∀ b : Bool, (b = true ↔ d = e) → Q (.bl (!b)) H) : rNeD K x y H Q :=
  ⟨d, e, hx, hy, sd.sh hk, se.sh hk, q _ (nb_eqv sd.nb se.nb)⟩
theorem ne_same {K : PySem.W.Frag} {H : Hp} {x y : V} {d : PyData} {k : Nat} {Q : VK} (hx : Dp K H x d) (hy : Dp K H y d) (sd : Sd k d) (hk : k ≤ 64) (q : Q (.bl false) H) : rNeD K x y H Q :=
  ⟨d, d, hx, hy, sd.sh hk, sd.sh hk, by rw [(nb_eqv sd.nb sd.nb).mpr rfl]; exact q⟩
theorem eq_data {K : PySem.W.Frag} {H : Hp} {x y : V} {d e : PyData} {k : Nat} {Q : VK} (hx : Dp K H x d) (hy : Dp K H y e) (sd : Sd k d) (se : Sd k e) (hk : k ≤ 64) (q : ∀ b : Bool, (b = true ↔ d = e) → Q (.bl b) H) : rEqD K x y H Q :=
  ⟨d, e, hx, hy, sd.sh hk, se.sh hk, q _ (nb_eqv sd.nb se.nb)⟩
theorem ne_ints {K : PySem.W.Frag} {H : Hp} {x y : Addr} {ns ms : List Int} {Q : VK} (hx : SqL K H x (ns.map V.int)) (hy : SqL K H y (ms.map V.int)) (q : Q (.bl (!decide (ns = ms))) H) : rNeD K (.ref x) (.ref y) H Q :=
  ⟨_, _, .lst hx (ints_dp _), .lst hy (ints_dp _), Sd.ints.sh (by decide), Sd.ints.sh (by decide), by rw [eqv_ints]; exact q⟩
theorem ints_dpl {K : PySem.W.Frag} {H : Hp} {p : Addr} {ns : List Int} (h : SqL K H p (ns.map V.int)) : Dp K H (.ref p) (.list (ns.map .int)) := .lst h (ints_dp _)
theorem while_R {c : TT} {tb : TS} {D : Ends} {σ : L2.St} {H : Hp} (Pv : L2.St → Hp → Prop) (μ : L2.St → Hp → Nat) (h0 : Pv σ H)
    (hs : ∀ σ H, Pv σ H → ∀ R : Bool → Hp → Prop, (∀ H1, tb { D with nx := fun σ' H' => Pv σ' H' ∧ μ σ' H' < μ σ H, ct := fun σ' H' => Pv σ' H' ∧ μ σ' H' < μ σ H, bk := D.nx } σ H1 → R true H1) → (∀ H1, D.nx σ H1 → R false H1) → c σ H R) : tWhile c tb D σ H := by
  refine ⟨fun m σ H => m = μ σ H ∧ Pv σ H, ⟨_, rfl, h0⟩, ?_⟩
  rintro m σ H ⟨rfl, p⟩
  refine hs σ H p _ (fun H1 h => ?_) (fun H1 h => ?_)
  · show if true = true then _ else _
    rw [if_pos rfl]
    exact ⟨_, fun σ' H' ⟨p', l⟩ => ⟨_, l, rfl, p'⟩, h⟩
  · show if false = true then _ else _
    rw [if_neg (by decide)]
    exact h
/-! ### what comes again and again -/
section
variable {f : Nat → Int}
theorem per_mul {A m : Nat} (h : ∀ t, A ≤ t → f (t + m) = f t) : ∀ (k t : Nat), A ≤ t → f (t + m * k) = f t
  | 0, t, _ => by rw [Nat.mul_zero, Nat.add_zero]
  | k + 1, t, ht => by rw [Nat.mul_succ, ← Nat.add_assoc, h _ (by omega), per_mul h k t ht]
theorem per_mod {A m n : Nat} (h : ∀ t, A ≤ t → f (t + m) = f t) (h' : ∀ t, A ≤ t → f (t + n) = f t) : ∀ t, A ≤ t → f (t + n % m) = f t := fun t ht => by
  rw [← per_mul h (n / m) _ (show A ≤ t + n % m by omega), Nat.add_assoc, Nat.mod_add_div, h' t ht]
theorem per_ev {A c m B : Nat} (hc : 1 ≤ c) (hp : ∀ t, A ≤ t → f (t + c) = f t) (h : ∀ t, B ≤ t → f (t + m) = f t) : ∀ t, A ≤ t → f (t + m) = f t := fun t ht => by
  have hb : B ≤ c * B := Nat.le_mul_of_pos_left B hc
  rw [← per_mul hp B t ht, ← h (t + c * B) (by omega), ← per_mul hp B (t + m) (by omega)]
  congr 1
  omega
/-- the least round -/
structure Lst (f : Nat → Int) (a m : Nat) : Prop where
  m1 : 1 ≤ m
  per : ∀ t, a ≤ t → f (t + m) = f t
  dvd : ∀ n B, (∀ t, B ≤ t → f (t + n) = f t) → m ∣ n
  fst : ∀ b, b + 1 = a → f (b + m) ≠ f b
theorem ex_least {A c : Nat} (hc : 1 ≤ c) (hp : ∀ t, A ≤ t → f (t + c) = f t) : ∃ m, 1 ≤ m ∧ m ≤ c ∧ (∀ t, A ≤ t → f (t + m) = f t) ∧ ∀ k, 1 ≤ k → (∀ t, A ≤ t → f (t + k) = f t) → m ≤ k := by
  induction c using Nat.strongRecOn with
  | ind c ih =>
    by_cases h : ∃ k, 1 ≤ k ∧ k < c ∧ ∀ t, A ≤ t → f (t + k) = f t
    · obtain ⟨k, k1, kc, kp⟩ := h
      obtain ⟨m, m1, mk, r⟩ := ih k kc k1 kp
      exact ⟨m, m1, by omega, r⟩
    · refine ⟨c, hc, Nat.le_refl _, hp, fun k k1 kp => ?_⟩
      exact Nat.le_of_not_lt fun z => h ⟨k, k1, z, kp⟩
/-- the least many, then the least ahead -/
theorem lst_of {A c m a : Nat} (hc : 1 ≤ c) (hp : ∀ t, A ≤ t → f (t + c) = f t) (m1 : 1 ≤ m) (hm : ∀ t, A ≤ t → f (t + m) = f t) (least : ∀ k, 1 ≤ k → k < m → c % k = 0 → ¬ ∀ t, A ≤ t → f (t + k) = f t)
    (ha : a ≤ A) (hb : ∀ t, a ≤ t → t < A → f (t + m) = f t) (hf : ∀ b, b + 1 = a → f (b + m) ≠ f b) : Lst f a m := by
  obtain ⟨n, n1, nc, np, nl⟩ := ex_least hc hp
  have div : ∀ k, (∀ t, A ≤ t → f (t + k) = f t) → n ∣ k := fun k kp => by
    apply Nat.dvd_of_mod_eq_zero
    rcases Nat.eq_zero_or_pos (k % n) with z | z
    · exact z
    · have := nl (k % n) z (per_mod np kp)
      have := Nat.mod_lt k (show 0 < n by omega)
      omega
  have e : m = n := by
    have h1 := Nat.le_of_dvd (by omega) (div m hm)
    rcases Nat.lt_or_ge n m with z | z
    · exact absurd np (least n n1 z (Nat.mod_eq_zero_of_dvd (div c hp)))
    · omega
  subst e
  refine ⟨m1, fun t ht => ?_, fun k B h => div k (per_ev hc hp h), hf⟩
  rcases Nat.lt_or_ge t A with z | z
  · exact hb t ht z
  · exact hm t z
theorem Lst.uniq {a m a' m' : Nat} (h : Lst f a m) (h' : Lst f a' m') : a = a' ∧ m = m' := by
  have e : m = m' := Nat.dvd_antisymm (h.dvd m' a' h'.per) (h'.dvd m a h.per)
  subst e
  refine ⟨?_, rfl⟩
  rcases Nat.lt_trichotomy a a' with z | z | z
  · exact absurd (h.per (a' - 1) (by omega)) (h'.fst (a' - 1) (by omega))
  · exact z
  · exact absurd (h'.per (a - 1) (by omega)) (h.fst (a - 1) (by omega))
/-- rounds by the least one -/
theorem Lst.iff {a m : Nat} (h : Lst f a m) (b n : Nat) (n1 : 1 ≤ n) : (∀ t, b ≤ t → f (t + n) = f t) ↔ a ≤ b ∧ m ∣ n := by
  constructor
  · intro hp
    have d := h.dvd n b hp
    refine ⟨?_, d⟩
    rcases Nat.lt_or_ge b a with z | z
    · obtain ⟨k, rfl⟩ := d
      have k1 : 1 ≤ k := by
        rcases Nat.eq_zero_or_pos k with z | z
        · rw [z] at n1
          omega
        · exact z
      exfalso
      refine h.fst (a - 1) (by omega) ?_
      have e := hp (a - 1) (by omega)
      have e2 := per_mul h.per (k - 1) (a - 1 + m) (by have := h.m1; omega)
      rw [show a - 1 + m + m * (k - 1) = a - 1 + m * k by
        obtain ⟨j, rfl⟩ : ∃ j, k = j + 1 := ⟨k - 1, by omega⟩
        rw [Nat.add_sub_cancel, Nat.mul_succ]
        omega, e] at e2
      exact e2.symm
    · exact z
  · rintro ⟨z, k, rfl⟩ t ht
    exact per_mul h.per k t (by omega)
def seg (f : Nat → Int) (A c : Nat) : List Int := (List.range c).map fun j => f (A + j)
theorem seg_len (A c : Nat) : (seg f A c).length = c := by
  unfold seg
  rw [List.length_map, List.length_range]
theorem seg_at {A c i : Nat} (h : i < c) : (seg f A c)[i]? = some (f (A + i)) := by
  unfold seg
  rw [List.getElem?_map, List.getElem?_range h]
  rfl
theorem rot_at {A c m j : Nat} (hp : ∀ t, A ≤ t → f (t + c) = f t) (hm : m ≤ c) (hj : j < c) : ((seg f A c).drop m ++ (seg f A c).take m)[j]? = some (f (A + j + m)) := by
  by_cases h : j < c - m
  · rw [List.getElem?_append_left (by rw [List.length_drop, seg_len]; exact h), List.getElem?_drop, seg_at (by omega)]
    congr 2
    omega
  · rw [List.getElem?_append_right (by rw [List.length_drop, seg_len]; omega), List.length_drop, seg_len, List.getElem?_take_of_lt (by omega), seg_at (by omega), ← hp _ (by omega)]
    congr 2
    omega
theorem rot_iff {A c m : Nat} (hc : 1 ≤ c) (hp : ∀ t, A ≤ t → f (t + c) = f t) (hm : m ≤ c) : (seg f A c).drop m ++ (seg f A c).take m = seg f A c ↔ ∀ t, A ≤ t → f (t + m) = f t := by
  constructor
  · intro h t ht
    have l := Nat.mod_lt (t - A) (show 0 < c by omega)
    have e := rot_at hp hm l
    rw [h, seg_at l] at e
    have e1 := Option.some.inj e
    have q := Nat.mod_add_div (t - A) c
    have e2 := per_mul hp ((t - A) / c) (A + (t - A) % c) (by omega)
    have e3 := per_mul hp ((t - A) / c) (A + (t - A) % c + m) (by omega)
    rw [show A + (t - A) % c + c * ((t - A) / c) = t by omega] at e2
    rw [show A + (t - A) % c + m + c * ((t - A) / c) = t + m by omega] at e3
    rw [e2, e3]
    exact e1.symm
  · intro h
    apply List.ext_getElem?
    intro i
    by_cases hi : i < c
    · rw [rot_at hp hm hi, seg_at hi, h _ (by omega)]
    · rw [List.getElem?_eq_none (by rw [List.length_append, List.length_drop, List.length_take, seg_len]; omega), List.getElem?_eq_none (by rw [seg_len]; omega)]
end
/-- what a layer shows, by the moment -/
def shN (rs : List RW) (bk : Option Int) (t : Nat) : Int := shown rs bk (t : Nat)
theorem shN_per {rs : List RW} {bk : Option Int} (v : VRows rs) (vb : VBack rs bk) : ∀ t, (ahL rs bk).length ≤ t → shN rs bk (t + (arL rs bk).length) = shN rs bk t := fun t ht => by
  have e1 := shown_lay v vb t
  have e2 := shown_lay v vb (t + (arL rs bk).length)
  rw [if_neg (by omega)] at e1 e2
  rw [show t + (arL rs bk).length - (ahL rs bk).length = t - (ahL rs bk).length + (arL rs bk).length by omega, Nat.add_mod_right] at e2
  exact Option.some.inj (e2.trans e1.symm)
theorem arL_seg {rs : List RW} {bk : Option Int} (v : VRows rs) (vb : VBack rs bk) : arL rs bk = seg (shN rs bk) (ahL rs bk).length (arL rs bk).length := by
  apply List.ext_getElem?
  intro i
  by_cases hi : i < (arL rs bk).length
  · rw [seg_at hi]
    show _ = some (shown rs bk (((ahL rs bk).length + i : Nat) : Int))
    rw [shown_lay v vb, if_neg (by omega), Nat.add_sub_cancel_left, Nat.mod_eq_of_lt hi]
  · rw [List.getElem?_eq_none (by omega), List.getElem?_eq_none (by rw [seg_len]; omega)]
theorem aa_at {rs : List RW} {bk : Option Int} (v : VRows rs) (vb : VBack rs bk) {i : Nat} (h : i < (ahL rs bk).length + (arL rs bk).length) : (ahL rs bk ++ arL rs bk)[i]? = some (shN rs bk i) := by
  show _ = some (shown rs bk (i : Nat))
  rw [shown_lay v vb]
  by_cases c : i < (ahL rs bk).length
  · rw [if_pos c, List.getElem?_append_left c]
  · rw [if_neg c, List.getElem?_append_right (by omega), Nat.mod_eq_of_lt (by omega)]
/-! ### helpers of the laws over rounds -/
theorem Paired.appP {α β : Type} {F : α → β → Prop} : ∀ {l₁ m₁ : List α} {l₂ m₂ : List β}, Paired F l₁ l₂ → Paired F m₁ m₂ → Paired F (l₁ ++ m₁) (l₂ ++ m₂)
  | _, _, _, _, .nil, h => h
  | _, _, _, _, .cons r t, h => .cons r (Paired.appP t h)
theorem Paired.repP {α β : Type} {F : α → β → Prop} {l₁ : List α} {l₂ : List β} (h : Paired F l₁ l₂) : ∀ n, Paired F (List.replicate n l₁).flatten (List.replicate n l₂).flatten
  | 0 => .nil
  | n + 1 => by
    rw [List.replicate_succ, List.replicate_succ, List.flatten_cons, List.flatten_cons]
    exact Paired.appP h (Paired.repP h n)
theorem mem_rep {α : Type} {l : List α} {x : α} {n : Nat} (h : x ∈ (List.replicate n l).flatten) : x ∈ l := by
  obtain ⟨m, hm, hx⟩ := List.mem_flatten.mp h
  rw [(List.mem_replicate.mp hm).2] at hx
  exact hx
theorem len_rep {α : Type} {l : List α} {n : Nat} : (List.replicate n l).flatten.length = n * l.length := by
  rw [List.length_flatten, List.map_replicate, List.sum_replicate_nat]
theorem cut_mid {xs : List V} {a b : Nat} (h : a ≤ b) (h2 : b ≤ xs.length) : cutV xs (some (a : Int)) (some (b : Int)) = (xs.drop a).take (b - a) := by
  unfold cutV
  rw [HT.sIx_nat, HT.sIx_nat, Nat.min_eq_left h2, Nat.min_eq_left (show a ≤ xs.length by omega)]
theorem lays_cut {rs : List RW} {bk : Option Int} {n a b : Nat} (h : a ≤ b) (h2 : b ≤ n) : cutV (lays rs bk n) (some (a : Int)) (some (b : Int)) = (seg (shN rs bk) a (b - a)).map V.int := by
  rw [cut_mid h (by rw [lays_len]; exact h2)]
  apply List.ext_getElem?
  intro i
  by_cases hi : i < b - a
  · rw [List.getElem?_take_of_lt hi, List.getElem?_drop, lays_at (by omega), List.getElem?_map, seg_at hi]
    rfl
  · rw [List.getElem?_eq_none (by rw [List.length_take]; omega), List.getElem?_eq_none (by rw [List.length_map, seg_len]; omega)]
theorem cut_opt {rs : List RW} {bk : Option Int} (vb : VBack rs bk) (xs : List V) : cutV xs none bk = match bk with | none => xs | some b => xs.take b.toNat := by
  cases bk with
  | none => exact cut_all xs
  | some b =>
    have hb := vb b rfl
    obtain ⟨k, rfl⟩ : ∃ k : Nat, b = (k : Int) := ⟨b.toNat, by omega⟩
    exact cut_to xs k
def ahd (rs : List RW) : Option Int → List RW
  | none => rs
  | some b => rs.take b.toNat
def siz (rs : List RW) : Option Int → Int
  | none => 1
  | some b => tot (rs.drop b.toNat)
theorem siz_pos {rs : List RW} {bk : Option Int} (v : VRows rs) (vb : VBack rs bk) : 1 ≤ siz rs bk ∧ siz rs bk ≤ 192 := by
  obtain ⟨v8, vr⟩ := v
  cases bk with
  | none => exact ⟨by show (1 : Int) ≤ 1; omega, by show (1 : Int) ≤ 192; omega⟩
  | some b =>
    have hb := vb b rfl
    have := tot_nonneg (rs := rs.drop b.toNat) fun q hq => vr q (List.mem_of_mem_drop hq)
    rw [List.length_drop] at this
    obtain ⟨t1, t2⟩ := this
    constructor
    · show 1 ≤ tot (rs.drop b.toNat)
      omega
    · show tot (rs.drop b.toNat) ≤ 192
      omega
theorem siz_len {rs : List RW} {bk : Option Int} (v : VRows rs) : siz rs bk = ((arL rs bk).length : Int) := by
  cases bk with
  | none => rfl
  | some b => exact (dwg_len (v.dropV b.toNat).2).symm
theorem ahL_tot {rs : List RW} {bk : Option Int} (v : VRows rs) : ((ahL rs bk).length : Int) ≤ tot rs := by
  cases bk with
  | none => exact Int.le_of_eq (dwg_len v.2)
  | some b =>
    show ((dwg (rs.take b.toNat)).length : Int) ≤ tot rs
    have h := dwg_len (v.takeV b.toNat).2
    have s := tot_split rs b.toNat
    have t := (tot_nonneg (v.dropV b.toNat).2).1
    omega
/-- by the whole length and the round's size -/
theorem per_whole {rs : List RW} {bk : Option Int} (v : VRows rs) (vb : VBack rs bk) {W c : Nat} (hW : (W : Int) = tot rs) (hc : (c : Int) = siz rs bk) : ∀ t, W ≤ t → shN rs bk (t + c) = shN rs bk t := fun t ht => by
  have e := siz_len (bk := bk) v
  have a := ahL_tot (bk := bk) v
  rw [show c = (arL rs bk).length by omega]
  exact shN_per v vb t (by omega)
theorem Gr.keepRow {st : Addr} {K : PySem.W.Frag} {H H' : Hp} (g : Gr st H H') (s : IsSt H st) {vs : List V} {rs : List RW} (p : Paired (RowAt K H) vs rs) : Paired (RowAt K H') vs rs := Paired.mono p fun _ _ => RowAt.keep (g.tk s)
theorem gr_upd {st D : Addr} {H0 H : Hp} {o : HO} (g : Gr st H0 H) (n0 : H0 D = none) (nD : D ≠ st) : Gr st H0 (upd H D o) :=
  ⟨fun b x nb e => by rw [upd_ne (ne_of_none e n0)]; exact g.1 b x nb e, fun hz => by
    obtain ⟨x, y, hx, hxy⟩ := g.2 hz
    exact ⟨x, y, by rw [upd_ne (Ne.symm nD)]; exact hx, hxy⟩⟩
/-! ### rounds of sheets -/
def plN (x y : Int) (ms : List MV) (t : Nat) : RW × RW := plc x y ms (t : Int)
theorem rwD_inj {r s : RW} (h : rwD r = rwD s) : r = s := by
  have e := PyData.tuple.inj h
  injection e with e1 e2
  injection e2 with e2 _
  exact Prod.ext (PyData.int.inj e1) (PyData.int.inj e2)
theorem plD_inj {p q : RW × RW} (h : plD p = plD q) : p = q := by
  have e := PyData.tuple.inj h
  injection e with e1 e2
  injection e2 with e2 _
  exact Prod.ext (rwD_inj e1) (rwD_inj e2)
theorem picD_inj {c d : PIC} (h : picD c = picD d) : c = d := by
  have e := PyData.tuple.inj h
  injection e with e1 e2
  injection e2 with e2 _
  exact Prod.ext (ints_inj.mp (PyData.tuple.inj e1)) (plD_inj e2)
theorem sd_rw (r : RW) : Sd 1 (rwD r) := Sd.tup fun e he => by
  rcases mem2 he with rfl | rfl <;> exact Sd.int _
theorem sd_pl (p : RW × RW) : Sd 2 (plD p) := Sd.tup fun e he => by
  rcases mem2 he with rfl | rfl <;> exact sd_rw _
theorem sd_pic (c : PIC) : Sd 3 (picD c) := Sd.tup fun e he => by
  rcases mem2 he with rfl | rfl
  · exact Sd.intsT.more (by decide)
  · exact sd_pl _
structure WinR (x y : Int) (ms : List MV) (b : Nat) : Prop where
  per : ∀ t, b ≤ t → plN x y ms (t + 1) = plN x y ms t
  fst : ∀ c, c + 1 = b → plN x y ms (c + 1) ≠ plN x y ms c
structure ShR (ls : List LY) (x y : Int) (ms : List MV) (a m : Nat) : Prop where
  m1 : 1 ≤ m
  perL : ∀ l ∈ ls, ∀ t, a ≤ t → shN l.1 l.2 (t + m) = shN l.1 l.2 t
  perW : ∀ t, a ≤ t → plN x y ms (t + 1) = plN x y ms t
  dvd : ∀ n, (∀ l ∈ ls, ∀ a' m', Lst (shN l.1 l.2) a' m' → m' ∣ n) → m ∣ n
  fst : ∀ b, b + 1 = a → (∃ l ∈ ls, shN l.1 l.2 (b + m) ≠ shN l.1 l.2 b) ∨ plN x y ms (b + 1) ≠ plN x y ms b
theorem ShR.uniq {ls : List LY} {x y : Int} {ms : List MV} {a m a' m' : Nat} (h : ShR ls x y ms a m) (h' : ShR ls x y ms a' m') : a = a' ∧ m = m' := by
  have e : m = m' := Nat.dvd_antisymm (h.dvd m' fun l hl b n hb => hb.dvd m' a' (h'.perL l hl)) (h'.dvd m fun l hl b n hb => hb.dvd m a (h.perL l hl))
  subst e
  refine ⟨?_, rfl⟩
  rcases Nat.lt_trichotomy a a' with z | z | z
  · rcases h'.fst (a' - 1) (by omega) with ⟨l, hl, hn⟩ | hn
    · exact absurd (h.perL l hl (a' - 1) (by omega)) hn
    · exact absurd (h.perW (a' - 1) (by omega)) hn
  · exact z
  · rcases h.fst (a - 1) (by omega) with ⟨l, hl, hn⟩ | hn
    · exact absurd (h'.perL l hl (a - 1) (by omega)) hn
    · exact absurd (h'.perW (a - 1) (by omega)) hn
theorem Paired.mem2 {α β : Type} {F : α → β → Prop} {l₁ : List α} {l₂ : List β} (p : Paired F l₁ l₂) {y : β} (h : y ∈ l₂) : ∃ x ∈ l₁, F x y := by
  obtain ⟨i, hi⟩ := List.mem_iff_getElem?.mp h
  obtain ⟨x, hx, f⟩ := Paired.at2 p hi
  exact ⟨x, List.mem_of_getElem? hx, f⟩
theorem Paired.mem1 {α β : Type} {F : α → β → Prop} {l₁ : List α} {l₂ : List β} (p : Paired F l₁ l₂) {x : α} (h : x ∈ l₁) : ∃ y ∈ l₂, F x y := by
  obtain ⟨i, hi⟩ := List.mem_iff_getElem?.mp h
  obtain ⟨y, hy, f⟩ := Paired.at p hi
  exact ⟨y, List.mem_of_getElem? hy, f⟩
abbrev RdOf (r : Nat × Nat) (l : LY) : Prop := Lst (shN l.1 l.2) r.1 r.2 ∧ r.1 ≤ 192 ∧ r.2 ≤ 192
theorem shR_mk {ls : List LY} {rd : List (Nat × Nat)} {x y : Int} {ms : List MV} {a b m : Nat} (hp : Paired RdOf rd ls) (hw : WinR x y ms b) (ha : ∀ r ∈ rd, r.1 ≤ a) (hb : b ≤ a) (hm : a = b ∨ ∃ r ∈ rd, r.1 = a) (m1 : 1 ≤ m)
    (hd : ∀ r ∈ rd, r.2 ∣ m) (hl : ∀ n, (∀ r ∈ rd, r.2 ∣ n) → m ∣ n) : ShR ls x y ms a m := by
  refine ⟨m1, fun l hl t ht => ?_, fun t ht => hw.per t (by omega), fun n hn => hl n fun r hr => ?_, fun c hc => ?_⟩
  · obtain ⟨r, hr, f, _⟩ := Paired.mem2 hp hl
    obtain ⟨k, rfl⟩ := hd r hr
    exact per_mul f.per k t (by have := ha r hr; omega)
  · obtain ⟨l, hl', f, _⟩ := Paired.mem1 hp hr
    exact hn l hl' r.1 r.2 f
  · rcases hm with e | ⟨r, hr, e⟩
    · exact .inr (hw.fst c (by omega))
    · obtain ⟨l, hl', f, _⟩ := Paired.mem1 hp hr
      refine .inl ⟨l, hl', fun z => f.fst c (by omega) ?_⟩
      obtain ⟨k, hk⟩ := hd r hr
      obtain ⟨j, rfl⟩ : ∃ j, k = j + 1 := ⟨k - 1, by
        rcases Nat.eq_zero_or_pos k with z | z
        · rw [z] at hk
          omega
        · omega⟩
      have e2 := per_mul f.per j (c + r.2) (by have := f.m1; omega)
      rw [show c + r.2 + r.2 * j = c + m by rw [hk, Nat.mul_succ]; omega, z] at e2
      exact e2.symm
theorem ShR.pic_eq {ls : List LY} {x y : Int} {ms : List MV} {a m : Nat} (h : ShR ls x y ms a m) {t : Nat} (ht : a ≤ t) (k : Nat) : pic ls x y ms ((t + m * k : Nat) : Int) = pic ls x y ms (t : Int) := by
  refine Prod.ext ?_ ?_
  · exact List.map_congr_left fun l hl => per_mul (h.perL l hl) k t ht
  · have := per_mul (f := fun t => (0 : Int)) (A := 0) (m := 1) (fun _ _ => rfl)
    have e : ∀ n, plN x y ms (t + n) = plN x y ms t := fun n => by
      induction n with
      | zero => rfl
      | succ n ih => rw [← Nat.add_assoc, h.perW _ (by omega), ih]
    exact e (m * k)
theorem ShR.pic_ne {ls : List LY} {x y : Int} {ms : List MV} {a m : Nat} (h : ShR ls x y ms a m) {b : Nat} (hb : b + 1 = a) : pic ls x y ms (b : Int) ≠ pic ls x y ms ((b + m : Nat) : Int) := fun e => by
  rcases h.fst b hb with ⟨l, hl, hn⟩ | hn
  · exact hn (List.map_inj_left.mp (congrArg Prod.fst e) l hl).symm
  · refine hn ?_
    have e1 : plN x y ms b = plN x y ms (b + m) := congrArg Prod.snd e
    have e2 : ∀ n, plN x y ms (b + 1 + n) = plN x y ms (b + 1) := fun n => by
      induction n with
      | zero => rfl
      | succ n ih => rw [← Nat.add_assoc, h.perW _ (by omega), ih]
    have m1 := h.m1
    have e3 := e2 (m - 1)
    rw [show b + 1 + (m - 1) = b + m by omega] at e3
    rw [e1, e3]
theorem winR_of {x y : Int} {ms : List MV} {L b : Nat} (vm : ∀ m ∈ ms, VMove m) (hL : (L : Int) = mtot ms) (hb : b ≤ L) (hp : ∀ t, b ≤ t → t < L → plN x y ms (t + 1) = plN x y ms t) (hf : ∀ c, c + 1 = b → plN x y ms (c + 1) ≠ plN x y ms c) : WinR x y ms b := by
  refine ⟨fun t ht => ?_, hf⟩
  rcases Nat.lt_or_ge t L with z | z
  · exact hp t ht z
  · exact plc_far ms x y _ _ vm (by omega) (by omega)
/-- the step of the law's own reckoning of a common multiple -/
theorem lcm_step {s z k : Nat} (s1 : 1 ≤ s) (z1 : 1 ≤ z) (k1 : 1 ≤ k) (hd : z ∣ s * k) (hmin : ∀ j, 1 ≤ j → j < k → ¬ z ∣ s * j) : s * k = Nat.lcm s z := by
  obtain ⟨j, hj⟩ := Nat.dvd_lcm_left s z
  have lp : 0 < Nat.lcm s z := Nat.lcm_pos (by omega) (by omega)
  have j1 : 1 ≤ j := by
    rcases Nat.eq_zero_or_pos j with e | e
    · rw [e] at hj
      omega
    · exact e
  have h1 : Nat.lcm s z ∣ s * k := Nat.lcm_dvd (Nat.dvd_mul_right s k) hd
  have h2 : k ≤ j := Nat.le_of_not_lt fun lt => hmin j j1 lt (by rw [← hj]; exact Nat.dvd_lcm_right s z)
  have h3 := Nat.le_of_dvd (Nat.mul_pos (by omega) (by omega)) h1
  have h4 : s * k ≤ s * j := Nat.mul_le_mul_left s h2
  omega
theorem lcm_le {s z : Nat} (h : 0 < Nat.gcd s z) : Nat.lcm s z ≤ s * z := by
  unfold Nat.lcm
  exact Nat.div_le_self _ _

/-! ### defs called where an error is handled -/
/-- f, called while the error at a (class cls, dict d) is handled, keeps sp -/
structure FnE (P : Program) (w : World) (K : PySem.W.Frag) (mg : Str → Option Value) (base : Heap) (k : Nat) (f : Addr) (fd : FuncData) (ps : List Str) (sp : Addr → Value → Option Addr → Sp) : Prop where
  len : ∀ a cls d vs H Q E, sp a cls d vs H Q E → vs.length = ps.length
  run : ∀ (A : Around) (outer : List Env) (s : Shared) (H : Hp) (args : Args) (us : List Value) (vs : List V) (Q : VK) (E : XK) (a : Addr) (oe : Obj) (cls : Value) (d : Option Addr), L2H.RoomH k A → Zc cls d oe → (∃ z, oe.data = .fields z) → L2H.PinOk outer H s (a, oe) →
    Env0 P w K mg base A outer s H → BindsTo s fd args (ps.zip us) → Vals vs us → sp a cls d vs H Q E → codeAny (model P w) A (.call (.ref f) args) (CR CX0 outer P w H s Q E) s
section
variable {P : Program} {w : World} {K : PySem.W.Frag} {mg : Str → Option Value} {base : Heap}
theorem fun_okE {x qual : Str} {st : Stmt} {f : Addr} {fd : FuncData} {N ps : List Str} {k : Nat} {sp : Addr → Value → Option Addr → Sp} (F : Fun K x qual st f fd) (S : FnScope N ps (defScope st)) (ln : ∀ a cls d vs H Q E, sp a cls d vs H Q E → vs.length = ps.length)
    (hbody : ∀ (cdv : Value) (A : Around) (outer : List Env) (s : Shared) (H : Hp) (vs : List V) (Q : VK) (E : XK) (a : Addr) (oe : Obj) (cls : Value) (d : Option Addr), Zc cls d oe → (∃ z, oe.data = .fields z) → L2H.RoomH k (A.deeper (envOfC qual (defScope st) s.heap.objs.size f cdv)) → sp a cls d vs H Q E →
      ∃ t, PSs (L2H.cxH CX0 P w K mg base N qual (defScope st) f cdv A outer s H E (a, oe)) (defBody st) t ∧ t { nx := fun _ H' => Q .non H', rt := Q } (L2.start N vs) H) : FnE P w K mg base (k + 1) f fd ps sp := by
  obtain ⟨cdv, D⟩ := defAt_of F
  refine ⟨ln, fun A outer s H args us vs Q E a oe cls d hr hz hfs hpin e0 hb r hsp => D.call S hr.depth e0 hb fun s1 begun => ?_⟩
  obtain ⟨t, ht, hq⟩ := hbody cdv A outer s H vs Q E a oe cls d hz hfs (hr.deeper _) hsp
  exact thn (ht.run [] s1 _ H _ (L2H.inv_startH S hpin e0 (ln _ _ _ _ _ _ _ hsp) r begun) hq) fun _ _ h => given_by rfl h
end
section
variable {X : Cx}
/-- what is pinned in the context may be pinned in a body that it calls -/
theorem pinned {pins : List (Addr × Obj)} {σ : L2.St} {H : Hp} {s : Shared} {p : Addr × Obj} (I : Inv X pins σ H s) (hpn : p ∈ X.pn) : L2H.PinOk X.stack H s p := by
  obtain ⟨get, free, low, far, flat⟩ := I.pin p (List.mem_append_left pins hpn)
  refine ⟨get, free, fun on => ?_, flat⟩
  rcases List.mem_cons.mp (I.stkSub p.1 on) with z | z
  · exact low z
  · exact far z
/-- a call of a global name: T tells what is asked of its arguments -/
theorem pe_named {f : Addr} {x : Str} {q pos : Pos} {e : Expr} {es : List Expr} {t : TA} {T : List V → Hp → VK → Prop} (hg : Gl X x) (hm : X.mg x = some (.ref f)) (hk : PySem.W.keepIn X.K (.ref f) = true) (ha : PA X (e :: es) t)
    (run : ∀ (pins : List (Addr × Obj)) (s : Shared) (σ : L2.St) (H : Hp) (us : List Value) (vs : List V) (Q : VK), Inv X pins σ H s → Vals vs us → T vs H Q → wpAny (model X.prog X.w) X.A (call (.ref f) us) (EP X pins σ Q) X.xe s)
    (plain : (x == ("__debug__" : Str)) = false) (first : starEach (e :: es) X.env = (false, eval e X.env) :: starEach es X.env) (noStar : (backTo pos (starEach es X.env)).any (·.1) = false) :
    PE X (.Call (.Name x q) (e :: es) [] pos) (fun σ H Q => t σ H fun vs H1 => T vs H1 Q) :=
  ⟨fun pins s σ H Q I h => wpAny_Call_Name_kw (ld_glob I hg hm (PySem.W.callWith_K (h₀ := X.base) I.ok.mod.kin hk
    (thn (ha.run pos pins s σ H _ I h) fun us s1 ⟨vs, H1, I1, r, due⟩ => ⟨I1.kIn, run pins s1 σ H1 us vs Q I1 r due⟩) first noStar) plain)⟩
/-- f(e, ..), the error at a being handled -/
theorem pe_callE {k : Nat} {f a : Addr} {oe : Obj} {cls : Value} {d : Option Addr} {fd : FuncData} {ps : List Str} {sp : Addr → Value → Option Addr → Sp} {x : Str} {q pos : Pos} {e : Expr} {es : List Expr} {t : TA} (F : FnE X.prog X.w X.K X.mg X.base k f fd ps sp) (hr : L2H.RoomH k X.A) (hpn : (a, oe) ∈ X.pn)
    (hz : Zc cls d oe) (hfs : ∃ z, oe.data = .fields z) (hg : Gl X x) (hm : X.mg x = some (.ref f)) (hk : PySem.W.keepIn X.K (.ref f) = true) (hb : Binds X.K fd ps []) (ha : PA X (e :: es) t)
    (hdb : (x == ("__debug__" : Str)) = false := by decide) (he : starEach (e :: es) X.env = (false, eval e X.env) :: starEach es X.env := by rfl) (hpl : (backTo pos (starEach es X.env)).any (·.1) = false := by rfl) :
    PE X (.Call (.Name x q) (e :: es) [] pos) (fun σ H Q => t σ H fun vs H1 => sp a cls d vs H1 Q E0) := by
  refine pe_named (T := fun vs H Q => sp a cls d vs H Q E0) hg hm hk ha (fun pins s σ H us vs Q I r due => ?_) hdb he hpl
  have binds : BindsTo s fd ⟨us, []⟩ (ps.zip us) := by
    simpa only [List.append_nil] using hb s us I.kIn (by rw [List.append_nil, ← r.length]; exact F.len _ _ _ _ _ _ _ due)
  refine wpAny_call (codeAny_mono (F.run X.A X.stack s H ⟨us, []⟩ us vs Q E0 a oe cls d hr hz hfs (pinned I hpn) I.env0 binds r due) fun res s' left => ?_)
  match res, left with
  | .ok (.ret _), left => exact I.after left
  | .ok .next, left | .ok .brk, left | .ok .cont, left | .error _, left => exact False.elim left
/-- isinstance(e, c), e a handled error -/
def rIsP (K : PySem.W.Frag) (D a : Addr) (d : Option Addr) : List V → Hp → VK → Prop := fun xs H Q => ∃ (c : V) (cv : Value) (b : Bool), xs = [.ref a, c] ∧ (∀ u, RelV c u → u = cv) ∧ PySem.W.kitOne K (.ref D) cv = some b ∧
  (∀ dd, d = some dd → ∃ fs, H dd = some (.xd fs)) ∧ Q (.bl b) H
theorem call_isP {a D : Addr} {oe : Obj} {d : Option Addr} (hpn : (a, oe) ∈ X.pn) (C : ExcC X.K D) (hz : Zc (.ref D) d oe) (hfs : ∃ z, oe.data = .fields z) : CallR X (.builtin "isinstance") (rIsP X.K D a d) := by
  intro pins s σ H xs us Q I r h
  obtain ⟨c, cv, b, rfl, hcv, e, hd, q⟩ := h
  obtain ⟨u1, u2, rfl, r1, r2⟩ := vals2 r
  have ec := hcv _ r2
  subst ec
  cases (show u1 = Value.ref a from r1)
  obtain ⟨hget, _⟩ := I.pin (a, oe) (List.mem_append_left _ hpn)
  obtain ⟨z, hv⟩ := hfs
  have hno : PySem.W.notCls oe = true := by
    unfold PySem.W.notCls
    rw [hv]
  obtain ⟨od, J⟩ : ∃ od, PySem.W.InstAt s.heap a oe D od := by
    cases d with
    | none => exact ⟨none, hget, hz.1, hno, by rw [hz.2]; trivial⟩
    | some dd =>
      obtain ⟨fs, hfs⟩ := hd dd rfl
      obtain ⟨mA, hns, hr⟩ := (show ObjOk X.prog X.w H s.heap dd (.xd fs) from I.hok dd _ hfs)
      obtain ⟨od, ho, hl⟩ := lookIn_ns hns
      exact ⟨some od, hget, hz.1, hno, by rw [hz.2]; exact ho⟩
  have hcl : (PySem.W.clsIn X.K D).isSome = true := by
    obtain ⟨cd, hc, _⟩ := PySem.W.any_some C.hd
    rw [hc]
    rfl
  exact PySem.W.kia_one (PySem.W.kitx_exc hcl C.hg C.hk C.hs C.ha C.hn C.ht C.hm) I.kIn J e (fun z => nomatch z) fun tk => ⟨.bl b, H, I.tok tk, rfl, q⟩
end

/-! ### what the written part says of the refusals -/
def excCB (K : PySem.W.Frag) (D : Addr) : Bool :=
  decide (PySem.W.findIn K (.ref D) "__getattribute__" = some (some (.builtin "BaseException.__getattribute__"))) && (decide (PySem.W.findIn K (.ref D) "__getattr__" = some none) && (decide (PySem.W.subIn K (.ref D) (.type "BaseException") = some true) &&
    (PySem.W.hasDictIn K D && (decide (PySem.W.findIn K (.ref D) "__class__" = some (some (.builtin "object.__class__"))) && (decide (PySem.W.specialIn K (.builtin "object.__class__") "__get__" = some (some (.builtin "getset_descriptor.__get__"))) &&
      (decide (PySem.W.takesIn K (.builtin "object.__class__") = some true) && decide (PySem.W.mroIn K D (.type "object") = some true)))))))
theorem excC_of {K : PySem.W.Frag} {D : Addr} (h : excCB K D = true) : ExcC K D := by
  unfold excCB at h
  simp only [Bool.and_eq_true, decide_eq_true_eq] at h
  obtain ⟨h1, h2, h3, h4, h5, h6, h7, h8⟩ := h
  exact ⟨h1, h2, h3, h4, h5, h6, h7, h8⟩
def excTB (K : PySem.W.Frag) (c : Nat → Addr) (LE : Addr) : Bool :=
  (List.range 16).all fun i => excCB K (c i) && (decide (PySem.W.kitOne K (.ref (c i)) (.type "ValueError") = some true) && (decide (PySem.W.exmOne K (.ref (c i)) (.ref LE) = some true) &&
    ((decide (14 ≤ i) || PySem.W.excIn K (c i) PySem.HandSPX.veTail "ValueError.__new__") && (PySem.W.keepIn K (.ref (c i)) && (decide (PySem.W.typeIn K (.ref (c i)) = some (.type "type")) &&
      (List.range 16).all fun j => decide (PySem.W.kitOne K (.ref (c i)) (.ref (c j)) = some (decide (i = j))))))))
/-- the sixteen refusals stand at c 0 .. c 15, LanternError at LE -/
structure ExcT (K : PySem.W.Frag) (c : Nat → Addr) (LE : Addr) : Prop where
  e : ∀ i, i < 16 → ExcC K (c i)
  kv : ∀ i, i < 16 → PySem.W.kitOne K (.ref (c i)) (.type "ValueError") = some true
  ex : ∀ i, i < 16 → PySem.W.exmOne K (.ref (c i)) (.ref LE) = some true
  nw : ∀ i, i < 14 → PySem.W.excIn K (c i) PySem.HandSPX.veTail "ValueError.__new__" = true
  kp : ∀ i, i < 16 → PySem.W.keepIn K (.ref (c i)) = true
  ty : ∀ i, i < 16 → PySem.W.typeIn K (.ref (c i)) = some (.type "type")
  ko : ∀ i, i < 16 → ∀ j, j < 16 → PySem.W.kitOne K (.ref (c i)) (.ref (c j)) = some (decide (i = j))
theorem excT_of {K : PySem.W.Frag} {c : Nat → Addr} {LE : Addr} (h : excTB K c LE = true) : ExcT K c LE := by
  have key : ∀ i, i < 16 → excCB K (c i) = true ∧ PySem.W.kitOne K (.ref (c i)) (.type "ValueError") = some true ∧ PySem.W.exmOne K (.ref (c i)) (.ref LE) = some true ∧ (14 ≤ i ∨ PySem.W.excIn K (c i) PySem.HandSPX.veTail "ValueError.__new__" = true) ∧ PySem.W.keepIn K (.ref (c i)) = true ∧
      PySem.W.typeIn K (.ref (c i)) = some (.type "type") ∧ ∀ j, j < 16 → PySem.W.kitOne K (.ref (c i)) (.ref (c j)) = some (decide (i = j)) := fun i hi => by
    have z := List.all_eq_true.mp h i (List.mem_range.mpr hi)
    simp only [Bool.and_eq_true, Bool.or_eq_true, decide_eq_true_eq] at z
    obtain ⟨z1, z2, z3, z4, z5, z6, z7⟩ := z
    exact ⟨z1, z2, z3, z4, z5, z6, fun j hj => of_decide_eq_true (List.all_eq_true.mp z7 j (List.mem_range.mpr hj))⟩
  exact ⟨fun i hi => excC_of (key i hi).1, fun i hi => (key i hi).2.1, fun i hi => (key i hi).2.2.1, fun i hi => (key i (by omega)).2.2.2.1.elim (fun z => absurd z (by omega)) id, fun i hi => (key i hi).2.2.2.2.1, fun i hi => (key i hi).2.2.2.2.2.1, fun i hi => (key i hi).2.2.2.2.2.2⟩
theorem ExcT.rs {X : Cx} {c : Nat → Addr} {LE : Addr} (T : ExcT X.K c LE) {i : Nat} (hi : i < 16) : Raises X (.ref (c i)) := raises_own (T.e i hi).hs (T.ty i hi)
/-! ### xs.count(True) -/
def rCntB (K : PySem.W.Frag) : V → List V → Hp → VK → Prop := fun x xs H Q => ∃ (p : Addr) (bs : List Bool), x = .ref p ∧ xs = [.bl true] ∧ SqL K H p (bs.map V.bl) ∧ Q (.int (bs.count true : Nat)) H
theorem bl_flat : ∀ bs : List Bool, (bs.map V.bl).all flatV = true
  | [] => rfl
  | b :: r => by
    rw [List.map_cons, List.all_cons, bl_flat r]
    rfl
theorem cnt_bl : ∀ {bs : List Bool} {us : List Value}, Vals (bs.map V.bl) us → us.countP (eqU (.bl true)) = bs.count true
  | [], _, .nil => rfl
  | b :: r, _, .cons (b := u) (l₂ := us) ru rt => by
    have e : eqU (.bl true) u = eqV (.bl b) (.bl true) := eqU_of ru rfl
    rw [List.countP_cons, cnt_bl rt, List.count_cons, e]
    cases b <;> rfl
theorem mt_bcount {X : Cx} : MtR X "list.count" (rCntB X.K) := by
  intro pins s σ H x xs v us Q I rx rxs h
  obtain ⟨p, bs, rfl, rfl, hs, q⟩ := h
  cases rx
  obtain ⟨u, rfl, ru⟩ := rxs.one
  obtain ⟨its, rv, ⟨⟨cls, dd, data, sl⟩, n, ho, hc, hdn, hd⟩, hlen⟩ := I.list hs
  simp only at hc hd
  subst hc hd
  refine call_meets PySem.F.slot_list_count ⟨_, ho, rfl⟩ PySem.F.entry_list_count
    (PySem.F.args_list_count_2 _ _) (SeqAt.list_countAt p its.toArray n dd sl u (eqU (.bl true)))
    ⟨ho, fun y hy => mem_eqAt ru rfl rv (bl_flat bs) y (by simpa using hy), ?_⟩
  refine ⟨.int (bs.count true : Nat), H, I.tok _, ⟨s.toks, ?_⟩, q⟩
  show Value.int ((its.toArray.toList.countP (eqU (.bl true)) : Nat) : Int) s.toks = Value.int ((bs.count true : Nat) : Int) s.toks
  rw [List.toList_toArray, cnt_bl rv]
/-! ### what is told of a call -/
def bits (i : Nat) : List Bool := (List.range 16).map fun j => decide (i = j)
def HasXd (d : Option Addr) (H : Hp) : Prop := ∀ dd, d = some dd → ∃ fs, H dd = some (.xd fs)
def spCls (c : Nat → Addr) : Addr → Value → Option Addr → Sp := fun a cls d vs H Q _ => ∃ i, i < 16 ∧ vs = [.ref a] ∧ cls = .ref (c i) ∧ HasXd d H ∧ ∀ H' p, Same H H' → H p = none → H' p = some (.lst ((bits i).map V.bl)) → Q (.ref p) H'
/-- what is wished of a refusal that met catches: told are 'refused' and its number, 'many' and both fields, 'leaned' and the numbers -/
def EMet (c : Nat → Addr) (Q : VK) : XK := fun cls d H => ∃ i, i < 16 ∧ cls = .ref (c i) ∧ HasXd d H ∧
  (i < 14 → ∀ H' p, Same H H' → H p = none → H' p = some (.tup [.str "refused", .int (i : Nat)]) → Q (.ref p) H') ∧
  (i = 14 → ∃ dd fs m n, d = some dd ∧ H dd = some (.xd fs) ∧ fs.lookup ("many" : Str) = some m ∧ fs.lookup ("most" : Str) = some n ∧ ∀ H' p q, Same H H' → H p = none → H' q = some (.tup [m, n]) → H' p = some (.tup [.str "many", .ref q]) → Q (.ref p) H') ∧
  (i = 15 → ∃ dd fs m, d = some dd ∧ H dd = some (.xd fs) ∧ fs.lookup ("numbers" : Str) = some m ∧ ∀ H' p, Same H H' → H p = none → H' p = some (.tup [.str "leaned", m]) → Q (.ref p) H')
/-- what met makes of the lambda's reading -/
def TMet (c : Nat → Addr) : (XK → Hp → VK → Prop) → Hp → VK → Prop := fun tl H Q =>
  tl (EMet c Q) H fun v H1 => 2 ≤ sizeLine ∧ ∀ p, H1 p = none → Q (.ref p) (upd H1 p (.tup [.str "told", v]))

def clsN : List Str := ["NoLayer", "NoWindow", "NoSheet", "NoMoment", "NoRow", "NoNumber", "NoDrawings", "Unlike", "Endless", "Squeezed", "NoPaper", "NoDeed", "NoText", "NoWords", "TooMany", "Leaned"]
structure ExcN (K : PySem.W.Frag) (mg : Str → Option Value) (c : Nat → Addr) (LE : Addr) : Prop extends ExcT K c LE where
  g : ∀ i n, clsN[i]? = some n → mg n = some (.ref (c i))
  gL : mg "LanternError" = some (.ref LE)
  n1 : PySem.W.findIn K (.ref (c 14)) "many" = some none
  n2 : PySem.W.findIn K (.ref (c 14)) "most" = some none
  n3 : PySem.W.findIn K (.ref (c 15)) "numbers" = some none
theorem ExcN.xf {K : PySem.W.Frag} {mg : Str → Option Value} {c : Nat → Addr} {LE : Addr} (T : ExcN K mg c LE) {i : Nat} (hi : i < 16) : XfC K (c i) := ⟨(T.e i hi).hg, (T.e i hi).hk, (T.e i hi).hs, (T.e i hi).hd⟩
structure ClE (P : Program) (w : World) (K : PySem.W.Frag) (mg : Str → Option Value) (base : Heap) (k : Nat) (x : Str) (ps : List Str) (sp : Addr → Value → Option Addr → Sp) : Prop where
  ex : ∃ (f : Addr) (fd : FuncData), FnE P w K mg base k f fd ps sp ∧ PySem.W.keepIn K (.ref f) = true ∧ Binds K fd ps [] ∧ mg x = some (.ref f)
/-- a def that may refuse -/
structure ClX (P : Program) (w : World) (K : PySem.W.Frag) (mg : Str → Option Value) (base : Heap) (k : Nat) (x : Str) (ps : List Str) (sp : Sp) : Prop where
  ex : ∃ (f : Addr) (fd : FuncData), FnOk P w K mg base (L2.CX P w) k f fd ps sp ∧ PySem.W.keepIn K (.ref f) = true ∧ Binds K fd ps [] ∧ mg x = some (.ref f)
section
variable {X : Cx}
theorem pe_gref {x : Str} {pos : Pos} {C : Addr} (hg : Gl X x) (h : X.mg x = some (.ref C)) (hd : (x == ("__debug__" : Str)) = false := by decide) : PE X (.Name x pos) (tC (.ref C)) := pe_glob hg h rfl hd
/-- a built-in's method, the written part told by its letter -/
theorem pe_bmK {K : PySem.W.Frag} {T : String} {name : Str} {id : String} {r : V → List V → Hp → VK → Prop} {o e : Expr} {es : List Expr} {to : TE} {t : TA} {apos cpos : Pos} (pa : PlainAttrs T) (slot : Slot T name id) (hty : typeOf (.builtin id) = pure (.type "method_descriptor")) (hm : MtR X id r) (ho : PE X o to) (ha : PA X (e :: es) t) (hK : X.K = K := by rfl)
    (hbase : attributeBase o name X.env (eval o X.env) = eval o X.env := by rfl)
    (hfew : ((backTo cpos (starEach (e :: es) X.env)).all (fun x => !x.1) && (backToKw cpos (keywordEach [] X.env)).all (fun x => x.1.isSome) && decide ((e :: es).length + ([] : List Keyword).length + (if ([] : List Keyword).isEmpty then 0 else 1) < 30)) = true := by rfl)
    (hline : (apos.endLine == cpos.line) = true := by rfl) (hs : starEach (e :: es) X.env = (false, eval e X.env) :: starEach es X.env := by rfl)
    (hplain : (backTo cpos (starEach es X.env)).any (·.1) = false := by rfl) : PE X (.Call (.Attribute o name apos) (e :: es) [] cpos) (tBM K T r to t) := by
  subst hK
  exact pe_bm pa slot hty hm ho ha hbase hfew hline hs hplain
theorem pe_ownE {k : Nat} {x : Str} {ps : List Str} {sp : Addr → Value → Option Addr → Sp} {a : Addr} {oe : Obj} {cls : Value} {d : Option Addr} {e : Expr} {es : List Expr} {t : TA} {p pos : Pos} (C : ClE X.prog X.w X.K X.mg X.base k x ps sp) (hr : L2H.RoomH k X.A) (hpn : (a, oe) ∈ X.pn) (hz : Zc cls d oe)
    (hfs : ∃ z, oe.data = .fields z) (hg : Gl X x) (ha : PA X (e :: es) t)
    (hdb : (x == ("__debug__" : Str)) = false := by decide) (he : starEach (e :: es) X.env = (false, eval e X.env) :: starEach es X.env := by rfl) (hpl : (backTo pos (starEach es X.env)).any (·.1) = false := by rfl) :
    PE X (.Call (.Name x p) (e :: es) [] pos) (fun σ H Q => t σ H fun vs H1 => sp a cls d vs H1 Q E0) := by
  obtain ⟨f, fd, F, hk, hb, hm⟩ := C.ex
  exact pe_callE F hr hpn hz hfs hg hm hk hb ha hdb he hpl
/-- f(e, ..), f may refuse: E is wished of what it lets out -/
theorem pe_ownX {k : Nat} {x : Str} {ps : List Str} {sp : Sp} {W : WX} {e : Expr} {es : List Expr} {t : TA} {p pos : Pos} (C : ClX X.prog X.w X.K X.mg X.base k x ps sp) (hr : Room k X.A) (tk : Takes X W) (hg : Gl X x) (ha : PA X (e :: es) t)
    (hdb : (x == ("__debug__" : Str)) = false := by decide) (he : starEach (e :: es) X.env = (false, eval e X.env) :: starEach es X.env := by rfl) (hpl : (backTo pos (starEach es X.env)).any (·.1) = false := by rfl) :
    PE X (.Call (.Name x p) (e :: es) [] pos) (tCallS sp (WE W) t) := by
  obtain ⟨f, fd, F, hk, hb, hm⟩ := C.ex
  exact pe_callS F hr hg hm hk hb (fun σ => passAt tk σ) ha hdb he hpl
def rIsQ (K : PySem.W.Frag) (c : Nat → Addr) (a : Addr) (cls : Value) (d : Option Addr) : List V → Hp → VK → Prop := fun xs H Q => ∃ i, i < 16 ∧ cls = .ref (c i) ∧ rIsP K (c i) a d xs H Q
theorem call_isQ {K : PySem.W.Frag} {c : Nat → Addr} {LE a : Addr} {oe : Obj} {cls : Value} {d : Option Addr} (T : ExcT K c LE) (hpn : (a, oe) ∈ X.pn) (hz : Zc cls d oe) (hfs : ∃ z, oe.data = .fields z) (hK : X.K = K := by rfl) : CallR X (.builtin "isinstance") (rIsQ K c a cls d) := by
  subst hK
  intro pins s σ H xs us Q I r h
  obtain ⟨i, hi, rfl, h⟩ := h
  exact call_isP hpn (T.e i hi) hz hfs pins s σ H xs us Q I r h
/-- what a met def must have: its place, its text -/
structure MetF (X : Cx) (x a : Str) (TT : (XK → Hp → VK → Prop) → Hp → VK → Prop) : Prop where
  ex : ∃ (g : Addr) (pg : Arguments) (bg : List Stmt) (sg : Scope) (kV doc pm cdv ct oc : Value) (an od : Option Addr) (osl : Array (Option Value)) (Ng : List Str), X.mg x = some (.ref g) ∧ PySem.W.keepIn X.K (.ref g) = true ∧
    X.K.lookup g = some ⟨oc, od, .func (PySem.W.fnOf x x pg bg sg .none kV doc pm an cdv ct), osl⟩ ∧ PySem.W.codeIn X.K cdv x = true ∧ L2.Binds X.K (PySem.W.fnOf x x pg bg sg .none kV doc pm an cdv ct) [a] [] ∧ FnScope Ng [a] sg ∧ Ng[0]? = some a ∧ Vis sg a ∧
    LamX.GivesTo X Ng x sg g cdv bg a (X.env.qual ++ "<lambda>") TT
/-- x(lambda: body) -/
theorem pe_met {T : List (Addr × Str)} {TT : (XK → Hp → VK → Prop) → Hp → VK → Prop} {x a : Str} {c P : Addr} {k : Nat} {params : Arguments} {body : Expr} {scope : Scope} {t : XK → TE} {p lpos pos : Pos} (M : MetF X x a TT) (hg : Gl X x)
    (TB : LamX.TabB X.base X.mg c P) (hcode : X.env.code = .ref c) (hmT : (P, X.env.qual ++ "<lambda>") ∈ T) (hu : ∀ p ∈ T, p.1 = P → p.2 = X.env.qual ++ "<lambda>") (hr : Room (k + 2) X.A) (L : LamX.LamS X.env.scope scope)
    (hbody : ∀ (A : Around) (outer : List Env) (s : Shared) (H : Hp) (E : XK) (f c' : Addr), Room k (A.deeper (LamX.lamEnv X scope s.heap.objs.size f c')) → PE (LamX.lamCx X A outer s H E scope f c') body (t E))
    (hdef : defaultsOf params X.env = ([], []) := by rfl)
    (hbind : ∀ (q : Str) (cl : List (Str × Addr)) (pm cv ctv : Value), bindArgs (PySem.W.kla_fn "<lambda>" q params body scope cl pm cv ctv) ⟨[], []⟩ = pure [] := by intros; rfl)
    (hdb : (x == ("__debug__" : Str)) = false := by decide) (hd : (a == ("__debug__" : Str)) = false := by decide) (hcd : (a == ("__classdict__" : Str)) = false := by decide) :
    PE X (.Call (.Name x p) [.Lambda params body scope lpos] [] pos) (LamX.tLam T TT t) := by
  obtain ⟨g, pg, bg, sg, kV, doc, pm, cdv, ct, oc, an, od, osl, Ng, hm, hk, lk, hcg, hb, Sg, hNg, hva, hG⟩ := M.ex
  exact LamX.pe_lamcall hg hm hk lk hcg hb Sg hNg hva hG TB hcode hmT hu hr L hdef hbind hbody hdb hd hcd
end
/-! ### the end of a law that makes lambdas -/
def TabsIn (q : Program) (K : PySem.W.Frag) (h : Heap) : Prop := ∀ (x : Str) (c P : Addr), ((recsOf q).find? fun e => e.name == x).isSome = true → PySem.W.tabIn K x = some (c, P) → PySem.W.CodeHd h c P ∧ h.get? P = some { cls := .none, data := .fields #[] }
theorem walk_ofL {l : PySem.W.OpenLaw} {n k : Nat} {q : Program} {loose : List Str} {XP : (Str → Option Value) → Heap → Prop} {YP : World → Heap → Prop} {d : DefRec} {K : Params → PySem.W.Frag} {x : Str}
    (hn : l.most = some n) (hn2 : n ≤ sizeLine) (hdf : d.params.defaults = []) (hr : Room k callerA) (hY : ∀ (w : World) (h : Heap), YP w h → (K w.params).In h)
    (F : ∀ (w : World) (mg : Str → Option Value) (fa : Addr) (h : Heap), (K w.params).In h → h.Ns mainGlobals mg → mg d.name = some (.ref fa) → TabsIn q (K w.params) h → LamX.LawAtS l w (K w.params) CX0 k n x mg fa h) :
    PySem.W.WalkO q loose XP YP l.row.toRowW d [] (fun f vs => PySem.call f vs) := by
  refine Att.attach_callB hn hdf
    fun w s₀ s₁ mg mb fa o pm cd doc a vs ns G Y ho hd hcd hmg hobj hints hlen hbits hg => ?_
  have hK := hY w _ Y
  have tabs : TabsIn q (K w.params) s₁.heap := fun y c P hf ht => by
    obtain ⟨dL, hfd⟩ := Option.isSome_iff_exists.mp hf
    exact PySem.W.tab_of G.T hK hfd ht
  obtain ⟨fd, cs, sp, hT, nT, C, hb, hsp, hF⟩ := F w mg fa _ hK G.T.g hmg tabs
  exact LamX.law_callTs hK G.T.g G.T.b G.T.builtins G.T.nolimit hg hT nT C G.T.bmain hobj hints
    (Nat.le_trans hlen hn2) hr hF hb (fun H hH hS => hsp H a ns hlen hbits hH hS) fun H e s' z => z

def qLam (x : Str) : Str := x ++ ".<locals>." ++ "<lambda>"
/-- as Fun, its code object told -/
structure FunC (K : PySem.W.Frag) (x qual : Str) (st : Stmt) (f : Addr) (fd : FuncData) (cc : Addr) : Prop where
  ex : ∃ (oc : Value) (od : Option Addr) (kV doc pm : Value) (an : Option Addr) (ct : Value) (osl : Array (Option Value)),
    fd = PySem.W.fnOf x qual (defArgs st) (defBody st) (defScope st) .none kV doc pm an (.ref cc) ct ∧ K.lookup f = some ⟨oc, od, .func fd, osl⟩ ∧ PySem.W.codeIn K (.ref cc) qual = true
theorem funC_mk {K : PySem.W.Frag} {x qual : Str} {st : Stmt} {f cc : Addr} {oc : Value} {od an : Option Addr} {osl : Array (Option Value)} {kV doc pm ct : Value} (l : K.lookup f = some ⟨oc, od, .func (PySem.W.fnOf x qual (defArgs st) (defBody st) (defScope st) .none kV doc pm an (.ref cc) ct), osl⟩)
    (c : PySem.W.codeIn K (.ref cc) qual = true) : FunC K x qual st f (PySem.W.fnOf x qual (defArgs st) (defBody st) (defScope st) .none kV doc pm an (.ref cc) ct) cc := ⟨⟨oc, od, kV, doc, pm, an, ct, osl, rfl, l, c⟩⟩
/-- what a maker of lambdas has: its table at PP among the tables TS -/
structure Mkr (base : Heap) (mg : Str → Option Value) (cc PP : Addr) (x : Str) (TS : List (Addr × Str)) : Prop where
  tb : LamX.TabB base mg cc PP
  hm : (PP, qLam x) ∈ TS
  hu : ∀ p ∈ TS, p.1 = PP → p.2 = qLam x
section
variable {P : Program} {w : World} {K : PySem.W.Frag} {mg : Str → Option Value} {base : Heap}
theorem fun_okL {x qual : Str} {st : Stmt} {f cc : Addr} {fd : FuncData} {N ps : List Str} {k : Nat} {sp : Sp} (F : FunC K x qual st f fd cc) (S : FnScope N ps (defScope st)) (ln : ∀ vs H Q E, sp vs H Q E → vs.length = ps.length)
    (hbody : ∀ (A : Around) (outer : List Env) (s : Shared) (H : Hp) (vs : List V) (Q : VK) (E : XK), Room k (A.deeper (envOfC qual (defScope st) s.heap.objs.size f (.ref cc))) → sp vs H Q E →
      ∃ t, PSs (cxOf CX0 P w K mg base N qual (defScope st) f (.ref cc) A outer s H E).nox (defBody st) t ∧ t { nx := fun _ H' => Q .non H', rt := Q } (L2.start N vs) H) : FnOk P w K mg base CX0 (k + 1) f fd ps sp := by
  obtain ⟨oc, od, kV, doc, pm, an, ct, osl, rfl, lk, hcd⟩ := F.ex
  refine fn_of lk hcd S ln fun A outer s H vs Q E hr hsp => ?_
  obtain ⟨t, ht, hq⟩ := hbody A outer s H vs Q E hr hsp
  exact ⟨t, ht.nox, hq⟩
end
/-! ### the state of the later laws; what stands but the state and the tables -/
def IsSx (H : Hp) (st : Addr) : Prop := ∃ (a : Int) (b : Bool), H st = some (.lst [.int a, .bl b]) ∧ 0 ≤ a ∧ (b = false → a < 2147483647)
def Gx (st : Addr) (H H' : Hp) : Prop := (∀ b o, b ≠ st → (∀ ps, o ≠ .tbl ps) → H b = some o → H' b = some o) ∧ (IsSx H st → IsSx H' st) ∧ ∀ T, LamX.Tabs T H → LamX.Tabs T H'
theorem Gx.refl {st : Addr} {H : Hp} : Gx st H H := ⟨fun _ _ _ _ h => h, id, fun _ h => h⟩
theorem Gx.trans {st : Addr} {H H1 H2 : Hp} (a : Gx st H H1) (b : Gx st H1 H2) : Gx st H H2 := ⟨fun c o n z h => b.1 c o n z (a.1 c o n z h), fun h => b.2.1 (a.2.1 h), fun T h => b.2.2 T (a.2.2 T h)⟩
theorem gx_same {st : Addr} {H H' : Hp} (s : Same H H') : Gx st H H' := ⟨fun b o _ _ h => s b o h, fun ⟨a, b, h, r⟩ => ⟨a, b, s _ _ h, r⟩, fun T h => h.ext s⟩
theorem lst_tbl {xs : List V} : ∀ ps, HO.lst xs ≠ .tbl ps := fun ps z => by cases z
theorem tup_tbl {xs : List V} : ∀ ps, HO.tup xs ≠ .tbl ps := fun ps z => by cases z
theorem tabs_lst {T : List (Addr × Str)} {H : Hp} {D : Addr} {xs ys : List V} (e : H D = some (.lst xs)) (h : LamX.Tabs T H) : LamX.Tabs T (upd H D (.lst ys)) := fun p hp => by
  obtain ⟨ps, h1, h2, h3⟩ := h p hp
  refine ⟨ps, ?_, h2, fun pos cv hc => ?_⟩
  · rw [upd_ne (ne_of h1 e (by intro z; cases z))]
    exact h1
  · obtain ⟨c0, e1, e2⟩ := h3 pos cv hc
    refine ⟨c0, e1, ?_⟩
    rw [upd_ne (ne_of e2 e (by intro z; unfold LamX.CodeO at z; cases z))]
    exact e2
theorem gx_ext {st : Addr} {H H' : Hp} (e : LamX.ExtN H H') (t : ∀ T, LamX.Tabs T H → LamX.Tabs T H') : Gx st H H' := ⟨fun b o _ z h => e b o h z, fun ⟨a, b, h, r⟩ => ⟨a, b, e _ _ h lst_tbl, r⟩, t⟩
theorem Gx.sqT {st : Addr} {K : PySem.W.Frag} {H H' : Hp} {a : Addr} {xs : List V} (g : Gx st H H') (s : IsSx H st) (h : SqT K H a xs) : SqT K H' a xs := by
  obtain ⟨u, v, hs, _⟩ := s
  rcases h with (h | ⟨o, h⟩) | h
  · exact .inl (.inl (g.1 _ _ (ne_of h hs (by intro z; cases z)) tup_tbl h))
  · exact .inl (.inr ⟨o, g.1 _ _ (ne_of h hs (by intro z; cases z)) (fun ps z => by cases z) h⟩)
  · exact .inr h
theorem Gx.tk {st : Addr} {K : PySem.W.Frag} {H H' : Hp} (g : Gx st H H') (s : IsSx H st) : TKeep K H H' := fun _ _ h => g.sqT s h
/-- what stood before the law's state was made -/
theorem Gx.sqL {st : Addr} {K : PySem.W.Frag} {H H' : Hp} {a : Addr} {xs : List V} (g : Gx st H H') (n : a ≠ st) (h : SqL K H a xs) : SqL K H' a xs := by
  rcases h with (h | ⟨o, h⟩) | h
  · exact .inl (.inl (g.1 _ _ n lst_tbl h))
  · exact .inl (.inr ⟨o, g.1 _ _ n (fun ps z => by cases z) h⟩)
  · exact .inr h
theorem sx_ne {H : Hp} {st p : Addr} (s : IsSx H st) (h : H p = none) : p ≠ st := by
  obtain ⟨a, b, e, _⟩ := s
  exact fun z => by rw [z, e] at h; cases h
theorem gx_set {st : Addr} {H : Hp} {a : Int} {b : Bool} {xs : List V} (e : H st = some (.lst xs)) (h0 : 0 ≤ a) (h1 : b = false → a < 2147483647) : Gx st H (upd H st (.lst [.int a, .bl b])) :=
  ⟨fun c o n _ h => by rw [upd_ne n]; exact h, fun _ => ⟨a, b, upd_same, h0, h1⟩, fun T h => tabs_lst e h⟩
theorem gx_upd {st D : Addr} {H0 H : Hp} {xs : List V} (g : Gx st H0 H) (n0 : H0 D = none) (nD : D ≠ st) (eD : H D = some (.lst xs)) (ys : List V) : Gx st H0 (upd H D (.lst ys)) :=
  ⟨fun b o n z h => by rw [upd_ne (ne_of_none h n0)]; exact g.1 b o n z h, fun s => by
    obtain ⟨a, b, e, r⟩ := g.2.1 s
    exact ⟨a, b, by rw [upd_ne (Ne.symm nD)]; exact e, r⟩, fun T h => tabs_lst eD (g.2.2 T h)⟩
/-- the same with the law's own tables alone -/
def Gw (TS : List (Addr × Str)) (st : Addr) (H H' : Hp) : Prop := (∀ b o, b ≠ st → (∀ ps, o ≠ .tbl ps) → H b = some o → H' b = some o) ∧ (IsSx H st → IsSx H' st) ∧ (LamX.Tabs TS H → LamX.Tabs TS H')
theorem Gw.refl {TS : List (Addr × Str)} {st : Addr} {H : Hp} : Gw TS st H H := ⟨fun _ _ _ _ h => h, id, id⟩
theorem Gw.trans {TS : List (Addr × Str)} {st : Addr} {H H1 H2 : Hp} (a : Gw TS st H H1) (b : Gw TS st H1 H2) : Gw TS st H H2 := ⟨fun c o n z h => b.1 c o n z (a.1 c o n z h), fun h => b.2.1 (a.2.1 h), fun h => b.2.2 (a.2.2 h)⟩
theorem Gx.l {TS : List (Addr × Str)} {st : Addr} {H H' : Hp} (g : Gx st H H') : Gw TS st H H' := ⟨g.1, g.2.1, g.2.2 TS⟩
theorem gw_same {TS : List (Addr × Str)} {st : Addr} {H H' : Hp} (s : Same H H') : Gw TS st H H' := (gx_same s).l
theorem gw_ext {TS : List (Addr × Str)} {st : Addr} {H H' : Hp} (e : LamX.ExtN H H') (t : LamX.Tabs TS H') : Gw TS st H H' := ⟨fun b o _ z h => e b o h z, fun ⟨a, b, h, r⟩ => ⟨a, b, e _ _ h lst_tbl, r⟩, fun _ => t⟩
theorem Gw.tk {TS : List (Addr × Str)} {st : Addr} {K : PySem.W.Frag} {H H' : Hp} (g : Gw TS st H H') (s : IsSx H st) : TKeep K H H' := fun a xs h => by
  obtain ⟨u, v, hs, _⟩ := s
  rcases h with (h | ⟨o, h⟩) | h
  · exact .inl (.inl (g.1 _ _ (ne_of h hs (by intro z; cases z)) tup_tbl h))
  · exact .inl (.inr ⟨o, g.1 _ _ (ne_of h hs (by intro z; cases z)) (fun ps z => by cases z) h⟩)
  · exact .inr h
theorem ExtN.tk {K : PySem.W.Frag} {H H' : Hp} (e : LamX.ExtN H H') : TKeep K H H' := fun a xs h => by
  rcases h with (h | ⟨o, h⟩) | h
  · exact .inl (.inl (e _ _ h tup_tbl))
  · exact .inl (.inr ⟨o, e _ _ h (fun ps z => by cases z)⟩)
  · exact .inr h
/-- what stands in a law between two of its states -/
structure Go (TS : List (Addr × Str)) (H H' : Hp) : Prop where
  e : LamX.ExtN H H'
  t : LamX.Tabs TS H'
theorem Go.sqL {TS : List (Addr × Str)} {K : PySem.W.Frag} {H H' : Hp} {a : Addr} {xs : List V} (g : Go TS H H') (h : SqL K H a xs) : SqL K H' a xs := by
  rcases h with (h | ⟨o, h⟩) | h
  · exact .inl (.inl (g.e _ _ h lst_tbl))
  · exact .inl (.inr ⟨o, g.e _ _ h (fun ps z => by cases z)⟩)
  · exact .inr h
theorem Gw.go {TS : List (Addr × Str)} {st : Addr} {H0 H H1 H2 : Hp} (g : Gw TS st H1 H2) (o : Go TS H0 H) (s : Same H H1) (n : H st = none) : Go TS H0 H2 :=
  ⟨fun b u h z => g.1 b u (ne_of_none (o.e b u h z) n) z (s _ _ (o.e b u h z)), g.2.2 (o.t.ext s)⟩

/-! ### refusals with fields -/
def clsB (s : Stmt) (i : Nat) : Stmt := match s with
  | .ClassDef _ _ _ b _ _ _ _ _ _ _ => b.getD i (.Pass ⟨0, 0, 0, 0⟩)
  | _ => .Pass ⟨0, 0, 0, 0⟩
/-- the class at C is made by its own __init__, which keeps sp -/
structure IniT (P : Program) (w : World) (K : PySem.W.Frag) (mg : Str → Option Value) (base : Heap) (C : Addr) (n : Nat) (sp : Sp) : Prop where
  ex : ∃ (fI : Addr) (fd : FuncData) (ps : List Str), OexC K C ∧ PySem.W.findIn K (.ref C) "__init__" = some (some (.ref fI)) ∧ PySem.W.typeIn K (.ref fI) = some (.type "function") ∧ FnOk P w K mg base CX0 1 fI fd ps sp ∧ Binds K fd ps []
theorem pmk_init {X : Cx} {C : Addr} {n : Nat} {sp : Sp} {x : Str} {e : Expr} {es : List Expr} {ta : TA} {p pos : Pos} (I : IniT X.prog X.w X.K X.mg X.base C n sp) (hr : Room 2 X.A) (hg : Gl X x) (hm : X.mg x = some (.ref C)) (ha : PA X (e :: es) ta)
    (hdb : (x == ("__debug__" : Str)) = false := by decide) (he : starEach (e :: es) X.env = (false, eval e X.env) :: starEach es X.env := by rfl) (hpl : (backTo pos (starEach es X.env)).any (·.1) = false := by rfl) :
    PMk X (.Call (.Name x p) (e :: es) [] pos) (tMkO C sp [] ta) := by
  obtain ⟨fI, fd, ps, o, i, t, F, b⟩ := I.ex
  exact pmk_oex o i t F hr b .nil pass0 hg hm ha hdb he hpl
/-- a wish may lean on how many slots there are -/
theorem takes_len {X : Cx} {W : WX} (tk : Takes X W) : Takes X (fun cls d σ H => σ.length = X.N.length → W cls d σ H) := fun u s' ⟨a, B, sI, pins, σ, H, cls, d, e, I, nb, up, sky, na, os, ag, hw⟩ =>
  tk u s' ⟨a, B, sI, pins, σ, H, cls, d, e, I, nb, up, sky, na, os, ag, hw I.len⟩
theorem HasXd.sm {d : Option Addr} {H H' : Hp} (h : HasXd d H) (s : Same H H') : HasXd d H' := fun dd e => by
  obtain ⟨fs, hf⟩ := h dd e
  exact ⟨fs, s _ _ hf⟩
theorem bits_count (i : Nat) (h : i < 16) : (bits i).count true = 1 := by
  have : ∀ i, i < 16 → (bits i).count true = 1 := by decide
  exact this i h
theorem bits_at (i j : Nat) (h : j < 16) : ((bits i).map V.bl)[j]? = some (.bl (decide (i = j))) := by
  unfold bits
  rw [List.map_map, List.getElem?_map, List.getElem?_range h]
  rfl
theorem run_ex {X : Cx} {st : List Stmt} {pins : List (Addr × Obj)} {s : Shared} {σ : L2.St} {H : Hp} {D : Ends} (h : ∃ t, PSs X st t ∧ t D σ H) (I : Inv X pins σ H s) :
    wpAny (model X.prog X.w) X.A (execs st X.env) (SP X pins D) X.xe s := by
  obtain ⟨t, h1, h2⟩ := h
  exact h1.run pins s σ H D I h2

theorem sl_any {K : PySem.W.Frag} {H : Hp} {a : Addr} {xs : List V} {lo hi : Option Int} {R : VK} (hS : SqT K H a xs) (h : ∀ H' p, Same H H' → SqT K H' p (cutV xs lo hi) → R (.ref p) H') : rSlA K (.ref a) lo hi H R :=
  ⟨a, xs, rfl, hS, fun w => h H a (Same.refl _) (by rw [cut_whole w]; exact hS), fun _ p np => h _ p (same_upd np) (.inl (.inl upd_same))⟩
theorem cat_any {K : PySem.W.Frag} {H : Hp} {a b : Addr} {xs ys : List V} {R : VK} (ha : SqT K H a xs) (hb : SqT K H b ys) (hz : xs.length + ys.length ≤ 1000) (h : ∀ H' p, Same H H' → SqT K H' p (xs ++ ys) → R (.ref p) H') : rCatA K (.ref a) (.ref b) H R :=
  ⟨a, b, xs, ys, rfl, rfl, ha, hb, Nat.le_of_lt (small1000 hz), fun e => h H b (Same.refl _) (by rw [e]; exact hb), fun _ e => h H a (Same.refl _) (by rw [e, List.append_nil]; exact ha), fun _ _ p np => h _ p (same_upd np) (.inl (.inl upd_same))⟩
theorem Sd.st {k : Nat} {x : Str} (h : PyData.strOk x = true) : Sd k (.str x) := ⟨h, Nat.zero_le _⟩
theorem sd_mv (m : MV) : Sd 1 (mvD m) := Sd.tup fun e he => by
  rcases mem3 he with rfl | rfl | rfl <;> exact Sd.int _
theorem sd_bk (o : Option Int) : Sd 0 (bkD o) := by
  cases o with
  | none => exact Sd.none
  | some i => exact Sd.int i
theorem sd_ly (l : LY) : Sd 3 (lyD l) := Sd.tup fun e he => by
  rcases mem2 he with rfl | rfl
  · exact Sd.tup fun z hz => by
      obtain ⟨r, _, rfl⟩ := List.mem_map.mp hz
      exact sd_rw r
  · exact (sd_bk _).more (by omega)
theorem sd_win (x y : Int) (ms : List MV) : Sd 3 (winD x y ms) := Sd.tup fun e he => by
  rcases mem3 he with rfl | rfl | rfl
  · exact Sd.int _
  · exact Sd.int _
  · exact Sd.tup fun z hz => by
      obtain ⟨m, _, rfl⟩ := List.mem_map.mp hz
      exact sd_mv m
theorem sd_sh (ls : List LY) (x y : Int) (ms : List MV) : Sd 5 (shD ls x y ms) := Sd.tup fun e he => by
  rcases mem2 he with rfl | rfl
  · exact Sd.tup fun z hz => by
      obtain ⟨l, _, rfl⟩ := List.mem_map.mp hz
      exact sd_ly l
  · exact (sd_win x y ms).more (by omega)
/-- what met tells, as data -/
def toldD (d : PyData) : PyData := .tuple [.str "told", d]
def refD (i : Int) : PyData := .tuple [.str "refused", .int i]
def manyD (m n : Int) : PyData := .tuple [.str "many", .tuple [.int m, .int n]]
theorem sd_told {k : Nat} {d : PyData} (h : Sd k d) : Sd (k + 1) (toldD d) := Sd.tup fun e he => by
  rcases mem2 he with rfl | rfl
  · exact Sd.st (by decide +kernel)
  · exact h
theorem sd_ref (i : Int) : Sd 1 (refD i) := Sd.tup fun e he => by
  rcases mem2 he with rfl | rfl
  · exact Sd.st (by decide +kernel)
  · exact Sd.int i
theorem sd_many (m n : Int) : Sd 2 (manyD m n) := Sd.tup fun e he => by
  rcases mem2 he with rfl | rfl
  · exact Sd.st (by decide +kernel)
  · exact Sd.tup fun z hz => by rcases mem2 hz with rfl | rfl <;> exact Sd.int _
theorem told_dp {K : PySem.W.Frag} {H : Hp} {p : Addr} {v : V} {d : PyData} (h : SqT K H p [.str "told", v]) (hv : Dp K H v d) : Dp K H (.ref p) (toldD d) := .tup h (.cons (.str _) (.cons hv .nil))
theorem ref_dp {K : PySem.W.Frag} {H : Hp} {p : Addr} {i : Int} (h : SqT K H p [.str "refused", .int i]) : Dp K H (.ref p) (refD i) := .tup h (.cons (.str _) (.cons (.int i) .nil))
theorem many_dp {K : PySem.W.Frag} {H : Hp} {p q : Addr} {m n : Int} (h : SqT K H p [.str "many", .ref q]) (hq : SqT K H q [.int m, .int n]) : Dp K H (.ref p) (manyD m n) := .tup h (.cons (.str _) (.cons (.tup hq (.cons (.int m) (.cons (.int n) .nil))) .nil))
/-- != of two things of the same data -/
theorem ne_eqd {K : PySem.W.Frag} {H : Hp} {x y : V} {d : PyData} {Q : VK} (hx : Dp K H x d) (hy : Dp K H y d) (sd : ∃ k, Sd k d ∧ k ≤ 64) (q : Q (.bl false) H) : rNeD K x y H Q := by
  obtain ⟨k, s, hk⟩ := sd
  exact ne_same hx hy s hk q
/-- data that stands as long as the tuples do -/
def Dk (K : PySem.W.Frag) (H : Hp) (v : V) (d : PyData) : Prop := ∀ H', TKeep K H H' → Dp K H' v d
theorem Dk.keep {K : PySem.W.Frag} {H H' : Hp} {v : V} {d : PyData} (h : Dk K H v d) (k : TKeep K H H') : Dk K H' v d := fun H2 k2 => h H2 fun a xs z => k2 _ _ (k _ _ z)
theorem Dk.dp {K : PySem.W.Frag} {H : Hp} {v : V} {d : PyData} (h : Dk K H v d) : Dp K H v d := h H fun _ _ z => z
theorem ShAt.dk {K : PySem.W.Frag} {H : Hp} {v : V} {ls : List LY} {x y : Int} {ms : List MV} (h : ShAt K H v ls x y ms) : Dk K H v (shD ls x y ms) := fun H' k => (h.keep k).dp
theorem LyAt.dk {K : PySem.W.Frag} {H : Hp} {v : V} {l : LY} (h : LyAt K H v l) : Dk K H v (lyD l) := fun H' k => (LyAt.keep k h).dp
theorem told_dk {K : PySem.W.Frag} {H : Hp} {p : Addr} {v : V} {d : PyData} (h : SqT K H p [.str "told", v]) (hv : Dk K H v d) : Dk K H (.ref p) (toldD d) := fun H' k => told_dp (k _ _ h) (hv H' k)
theorem ref_dk {K : PySem.W.Frag} {H : Hp} {p : Addr} {i : Int} (h : SqT K H p [.str "refused", .int i]) : Dk K H (.ref p) (refD i) := fun H' k => ref_dp (k _ _ h)
theorem many_dk {K : PySem.W.Frag} {H : Hp} {p q : Addr} {m n : Int} (h : SqT K H p [.str "many", .ref q]) (hq : SqT K H q [.int m, .int n]) : Dk K H (.ref p) (manyD m n) := fun H' k => many_dp (k _ _ h) (k _ _ hq)
theorem pi_listK {X : Cx} {K : PySem.W.Frag} {tg l : Expr} {tl : TE} (hl : PE X l tl) (hK : X.K = K := by rfl) : PI X tg l (iList K tl) := by
  subst hK
  exact pi_list hl
theorem pi_tupK {X : Cx} {K : PySem.W.Frag} {tg l : Expr} {tl : TE} (hl : PE X l tl) (hK : X.K = K := by rfl) : PI X tg l (iTup K tl) := by
  subst hK
  exact pi_tup hl
/-- is not, of two truths -/
theorem op_notB {X : Cx} : OpR X (compareOp .IsNot) (fun x y H Q => ∃ a b, x = .bl a ∧ y = .bl b ∧ Q (.bl (!decide (a = b))) H) := by
  intro pins s σ H x y v u Q I rx ry h
  obtain ⟨a, b, rfl, rfl, q⟩ := h
  cases rx
  cases ry
  show wpAny _ _ ((isSame (Value.bool a) (Value.bool b)) >>= fun z => pure (Value.bool (!z))) _ _ s
  exact wpAny_bind (wpAny_isSame_plain rfl (wpAny_pure (fin_bl I q (by cases a <;> cases b <;> rfl))))

/-! ### a try whose body always refuses, the caught error kept in a name beyond the clause -/
/-- the context with one more thing that stands still -/
abbrev pnd (X : Cx) (p : Addr × Obj) : Cx := { X with pn := p :: X.pn }
theorem pnd_ok {X : Cx} {p : Addr × Obj} (ok : X.Ok) : (pnd X p).Ok := ok.toTry (p :: X.pn) X.xe
theorem inv_pnd {X : Cx} {p : Addr × Obj} {pins : List (Addr × Obj)} {σ : L2.St} {H : Hp} {s : Shared} (I : Inv X (p :: pins) σ H s) : Inv (pnd X p) pins σ H s :=
  ⟨pnd_ok I.ok, I.os, I.bare, I.base, I.loc, I.cell, I.free, I.freeC, fun q hq => I.pin q (by
    rcases List.mem_append.mp hq with h | h
    · rcases List.mem_cons.mp h with e | h
      · exact List.mem_append_right _ (by rw [e]; exact List.mem_cons_self)
      · exact List.mem_append_left _ h
    · exact List.mem_append_right _ (List.mem_cons_of_mem _ h)), I.hok, I.len⟩
theorem inv_unpnd {X : Cx} {p : Addr × Obj} {pins : List (Addr × Obj)} {σ : L2.St} {H : Hp} {s : Shared} (ok : X.Ok) (I : Inv (pnd X p) pins σ H s) : Inv X pins σ H s :=
  ⟨ok, I.os, I.bare, I.base, I.loc, I.cell, I.free, I.freeC, fun q hq => I.pin q (by
    rcases List.mem_append.mp hq with h | h
    · exact List.mem_append_left _ (List.mem_cons_of_mem _ h)
    · exact List.mem_append_right _ h), I.hok, I.len⟩
/-- behind the clause the caught one still stands -/
theorem inv_behind {X : Cx} {a : Addr} {oe : Obj} {pins pn' : List (Addr × Obj)} {σ : L2.St} {H : Hp} {s : Shared} (ok : X.Ok) (I : Inv (X.suite a ((a, oe) :: (X.pn ++ pins))) pn' σ H s) : Inv X ((a, oe) :: pins) σ H s :=
  ⟨ok, I.os, I.bare, I.base, I.loc, I.cell, I.free, I.freeC, fun q hq => I.pin q (List.mem_append_left _ (by
    rcases List.mem_append.mp hq with h | h
    · exact List.mem_cons_of_mem _ (List.mem_append_left _ h)
    · rcases List.mem_cons.mp h with e | h
      · rw [e]
        exact List.mem_cons_self
      · exact List.mem_cons_of_mem _ (List.mem_append_right _ h))), I.hok, I.len⟩
/-- no way goes on but by what is caught -/
def noEnds : Ends := { nx := fun _ _ => False, rt := fun _ _ => False, bk := fun _ _ => False, ct := fun _ _ => False }
/-- what is wished of a refusal: the clause takes it, its suite ends, and the rest is read with it -/
def wKeep (K : PySem.W.Frag) (c : Value) (i : Nat) (ts tr : Addr → Value → Option Addr → TS) (D : Ends) : WX := fun cls d σ H =>
  PySem.W.exmOne K cls c = some true ∧ ∀ a, H a = none → ts a cls d { noEnds with nx := fun σ' H' => tr a cls d D (σ'.set i none) H' } (σ.set i (some (.ref a))) H
section
variable {X : Cx} {x n : Str} {c : Value} {i : Nat} {body suite rest : List Stmt} {b₀ : Stmt} {np pos pos' : Pos} {tb : WX → TS} {ts tr : Addr → Value → Option Addr → TS}
theorem pss_keep (hs : X.stack = X.env :: X.outer) (hf : X.env.frame = some X.env.locals) (hN : X.N.Nodup) (hi : X.N[i]? = some n) (hln : X.env.kindOf n = some .local) (hc : Names X x c)
    (hb : ∀ (W : WX) (pn : List (Addr × Obj)) (xe : Value → Shared → Prop), Takes (X.tr pn xe) W → PSs (X.tr pn xe) body (tb W))
    (hsu : ∀ (a : Addr) (oe : Obj) (cls : Value) (d : Option Addr) (pn : List (Addr × Obj)), Zc cls d oe → (∃ vs, oe.data = .fields vs) → PSs (X.suite a ((a, oe) :: pn)) (b₀ :: suite) (ts a cls d))
    (hre : ∀ (a : Addr) (oe : Obj) (cls : Value) (d : Option Addr), Zc cls d oe → (∃ vs, oe.data = .fields vs) → PSs (pnd X (a, oe)) rest (tr a cls d)) :
    PSs X (.Try body [.ExceptHandler (some (.Name x np)) (some n) (b₀ :: suite) pos'] [] [] pos :: rest) (fun D σ H => tb (wKeep X.K c i ts tr D) noEnds σ H) := by
  refine ⟨fun pins s σ H D I h => wpAny_execs_cons (wpAny_Try_except ?_)⟩
  have ok := I.ok
  have frm : X.A.frames = some (X.env :: X.outer) := ok.frames.trans (congrArg some hs)
  refine wpAny_mono ((hb (wKeep X.K c i ts tr D) (X.pn ++ pins) _ fun u s' xx => ?_).run [] s σ H noEnds (I.toTry _) h) (fun f s1 z => ?_) (fun _ _ z => z)
  · obtain ⟨a, B, sI, _, σ1, H1, cls, d, rfl, J0, nb, up, sky, na, os, ag, take, go⟩ := xx
    have J : Inv X pins σ1 H1 sI := J0.ofTry ok
    rw [show (X.tr (X.pn ++ pins) _).stack = X.env :: X.outer from hs] at sky
    refine Sky.land Zc.steady frm hf sky fun hA flA upA => ?_
    have off : ∀ {hh : Heap}, HandSPX.FlyingZ B (X.env :: X.outer) a (Zc cls d) hh → a ≠ X.env.locals ∧ a ∉ X.fs ∧ ∃ oe, hh.get? a = some oe ∧ Zc cls d oe ∧ ∃ vs, oe.data = .fields vs := fun {hh} fl => by
      obtain ⟨oe, vs, e1, e2, e3⟩ := fl.there
      have nf : a ∉ frs (X.env :: X.outer) := fun m => by
        obtain ⟨_, o2, q1, q2⟩ := fl.2.2.1.mem m
        cases e1.symm.trans q1
        exact q2 _ e3
      refine ⟨fun q => nf (List.mem_filterMap.mpr ⟨X.env, List.mem_cons_self, hf.trans (congrArg some q.symm)⟩), fun m => nf ?_, oe, e1, e2, vs, e3⟩
      obtain ⟨en, m1, m2⟩ := List.mem_filterMap.mp m
      exact List.mem_filterMap.mpr ⟨en, List.mem_cons_of_mem _ m1, m2⟩
    obtain ⟨nL, nF, oA, eA, zA, vA, dA⟩ := off flA
    have JA : Inv X pins σ1 H1 { s' with heap := hA } := J.landed nb flA.1 (up.trans upA) os ag
    have SA := JA.suite eA dA na nL nF
    have tells : PySem.W.Looks (model X.prog X.w) hA (typeOf (.ref a)) cls := fun A Q E s k q => wpAny_typeOf_ref (k _ _ eA) (by rw [zA.1]; exact q)
    refine wpAny_handleBy_cons (codeAny_handlers_test ?_) (fun q => nomatch q)
    have named : ∀ {Q E : Value → Shared → Prop}, Q c { s' with heap := hA } → wpAny (model X.prog X.w) (X.A.mark (some (.ref a))) (eval (.Name x np) X.env) Q E { s' with heap := hA } := fun {Q E} q => by
      obtain ⟨g1, g2, g3⟩ := hc
      rcases g3 with m | ⟨m, b1, b2⟩
      · exact ld_glob (X := X.suite a ((a, oA) :: (X.pn ++ pins))) SA g1 m q g2
      · exact ld_blt (X := X.suite a ((a, oA) :: (X.pn ++ pins))) SA g1 m b1 q b2 g2
    refine named ((PySem.W.exm_one (M := model X.prog X.w) JA.kIn tells take).here ?_)
    refine codeAny_handlers_suite_as (HandSPX.lands_againZ flA fun hB flB upB => ?_)
    obtain ⟨_, _, oB, eB, zB, vB, dB⟩ := off flB
    have SB := (J.landed (s' := { s' with heap := hB }) nb flB.1 ((up.trans upA).trans upB) os ag).suite eB dB na nL nF
    refine store_ok (X := X.suite a ((a, oB) :: (X.pn ++ pins))) (v := .ref a) SB hN hi (.inl hln) rfl (fun sC SC => ?_) (.inr hln)
    refine wpAny_mono ((hsu a oB cls d (X.pn ++ pins) zB ⟨vB, dB⟩).run [] sC _ H1 _ SC (go a na)) (fun f sD z => ?_) (fun _ _ z => False.elim z)
    cases f with
    | next =>
      obtain ⟨σD, HD, ID, q⟩ := z
      refine gone_ok (inv_behind ok ID) hN hi hln fun sE IE => ?_
      refine wpAny_mono ((hre a oB cls d zB ⟨vB, dB⟩).run pins sE _ HD D (inv_pnd IE) q) (fun f sF z => ?_) (fun _ _ z => z)
      cases f with
      | next => exact z.imp fun _ z => z.imp fun _ z => ⟨inv_unpnd ok z.1, z.2⟩
      | brk => exact z.imp fun _ z => z.imp fun _ z => ⟨inv_unpnd ok z.1, z.2⟩
      | cont => exact z.imp fun _ z => z.imp fun _ z => ⟨inv_unpnd ok z.1, z.2⟩
      | ret u => exact z.imp fun _ z => z.imp fun _ z => z.imp fun _ z => ⟨inv_unpnd ok z.1, z.2⟩
    | brk => exact z.elim fun _ z => z.elim fun _ z => z.2.elim
    | cont => exact z.elim fun _ z => z.elim fun _ z => z.2.elim
    | ret u => exact z.elim fun _ z => z.elim fun _ z => z.elim fun _ z => z.2.2.elim
  · cases f with
    | next => exact z.elim fun _ z => z.elim fun _ z => z.2.elim
    | brk => exact z.elim fun _ z => z.elim fun _ z => z.2.elim
    | cont => exact z.elim fun _ z => z.elim fun _ z => z.2.elim
    | ret u => exact z.elim fun _ z => z.elim fun _ z => z.elim fun _ z => z.2.2.elim
end

/-! ### the end of a law that makes lambdas and calls repr -/
section
variable {P : Program} {w : World} {K : PySem.W.Frag} {mg : Str → Option Value}
theorem fun_okLG {base : Heap} {x qual : Str} {st : Stmt} {f cc : Addr} {fd : FuncData} {N ps : List Str} {k : Nat} {sp : Sp} (F : FunC K x qual st f fd cc) (S : FnScope N ps (defScope st)) (ln : ∀ vs H Q E, sp vs H Q E → vs.length = ps.length)
    (hbody : ∀ (A : Around) (outer : List Env) (s : Shared) (H : Hp) (vs : List V) (Q : VK) (E : XK), A.guards = some [] → Room k (A.deeper (envOfC qual (defScope st) s.heap.objs.size f (.ref cc))) → sp vs H Q E →
      ∃ t, PSs (cxOf CX0 P w K mg base N qual (defScope st) f (.ref cc) A outer s H E).nox (defBody st) t ∧ t { nx := fun _ H' => Q .non H', rt := Q } (L2.start N vs) H) : FnG P w K mg base (k + 1) f fd ps sp := by
  obtain ⟨oc, od, kV, doc, pm, an, ct, osl, e, l, c⟩ := F.ex
  have D : DefAt K x qual st f fd (.ref cc) := ⟨⟨kV, doc, pm, an, ct, e⟩, ⟨oc, od, osl, l⟩, c⟩
  refine ⟨ln, fun A outer s H args us vs Q E hgu hr e0 hb r hsp => D.call S hr.depth e0 hb fun s1 begun => ?_⟩
  obtain ⟨t, ht, hq⟩ := hbody A outer s H vs Q E hgu (hr.deeper _) hsp
  exact thn (ht.nox.run [] s1 _ H _ (inv_start S hr.hd e0 (ln _ _ _ _ hsp) r begun) hq) fun _ _ h => given_by rfl h
/-- the law's call from such a promise, the tables of its code objects told -/
theorem law_callGT {mb : Str → Option Value} {k : Nat} {fa a : Addr} {cs : List (Addr × Addr)} {fd : FuncData} {x : Str} {sp : Sp} {s₁ : Shared} {vs : List Value} {ns : List Int}
    (KX : K.In s₁.heap) (hns : s₁.heap.Ns mainGlobals mg) (hb : s₁.heap.Ns builtinsNs mb) (hbb : ∀ x : Str, x ≠ "__name__" → mb x = bootBuiltins x) (hlim : s₁.heap.NoLimit) (hge : s₁.gens = #[])
    (hT : ∀ p ∈ cs, s₁.heap.get? p.2 = some { cls := .none, data := .fields #[] }) (nT : ∀ p ∈ cs, K.lookup p.2 = none) (hC : ∀ p ∈ cs, PySem.W.CodeHd s₁.heap p.1 p.2)
    (hbm : ∃ (bm : Addr) (ob : Obj), mg "__builtins__" = some (.ref bm) ∧ bm ≠ builtinsNs ∧ s₁.heap.get? bm = some ob ∧ ob.cls = .type "module" ∧ ob.dict = some builtinsNs ∧ ob.data = .plain)
    (ha : s₁.heap.get? a = some { cls := .type "list", data := .seq vs.toArray }) (hi : IntsAre vs ns) (hl : ns.length ≤ sizeLine) (hr : Room k callerA)
    (F : ∀ base : Heap, K.In base → base.Ns mainGlobals mg → (∀ p ∈ cs, LamX.TabB base mg p.1 p.2) → FnG P w K mg base k fa fd [x] sp)
    (hbind : ∀ (s : Shared) (u : Value), BindsTo s fd ⟨[u], []⟩ [(x, u)])
    (hsp : ∀ H : Hp, (∀ p ∈ cs, H p.2 = some (.tbl #[])) → SqL K H a (ns.map V.int) → sp [.ref a] H (fun v _ => v = .bl true) fun _ _ _ => False) :
    codeAny (model P w) callerA (.call (.ref fa) ⟨[.ref a], []⟩)
      (fun r s' => r = .ok (.ret (.bool true)) ∧ OldK s₁.heap s'.heap ∧ s'.os = s₁.os ∧ AllBare s'.gens) s₁ := by
  have rv := vals_ints hi
  have lv := hi.length
  have tab : ∀ {b : Addr}, (∃ p ∈ cs, p.2 = b) → s₁.heap.get? b = some { cls := .none, data := .fields #[] } := fun {b} ⟨p, hp, e⟩ => e ▸ hT p hp
  have atab : ¬ ∃ p ∈ cs, p.2 = a := fun z => by
    have e := (tab z).symm.trans ha
    cases e
  have hex : ∃ H : Hp, (∀ b, (∃ p ∈ cs, p.2 = b) → H b = some (.tbl #[])) ∧ (K.lookup a = none → H a = some (.frz { cls := .type "list", data := .seq vs.toArray } (.lst (ns.map V.int)))) ∧
      ∀ b u, H b = some u → ((∃ p ∈ cs, p.2 = b) ∧ u = .tbl #[]) ∨ (b = a ∧ K.lookup a = none ∧ u = .frz { cls := .type "list", data := .seq vs.toArray } (.lst (ns.map V.int))) := by
    refine ⟨fun b => (open Classical in if ∃ p ∈ cs, p.2 = b then some (.tbl #[]) else if b = a ∧ K.lookup a = none then some (.frz { cls := .type "list", data := .seq vs.toArray } (.lst (ns.map V.int))) else none), fun b z => if_pos z, fun z => (if_neg atab).trans (if_pos ⟨rfl, z⟩), fun b u e => ?_⟩
    by_cases c1 : ∃ p ∈ cs, p.2 = b
    · exact .inl ⟨c1, (Option.some.inj ((if_pos c1).symm.trans e)).symm⟩
    · have e := (if_neg c1).symm.trans e
      by_cases c2 : b = a ∧ K.lookup a = none
      · exact .inr ⟨c2.1, c2.2, (Option.some.inj ((if_pos c2).symm.trans e)).symm⟩
      · cases (if_neg c2).symm.trans e
  obtain ⟨H, hHt, hHa, some_of⟩ := hex
  have none_of : ∀ {b o}, s₁.heap.get? b = some o → (∀ q n, o.data ≠ .seq q n) → o.data ≠ .fields #[] → H b = none := by
    intro b o e d1 d2
    cases c : H b with
    | none => rfl
    | some u =>
      rcases some_of b u c with ⟨z, _⟩ | ⟨z, _, _⟩
      · cases (tab z).symm.trans e
        exact absurd rfl d2
      · rw [z, ha] at e
        cases e
        exact absurd rfl (d1 _ _)
  have hS : SqL K H a (ns.map V.int) := by
    cases hk : K.lookup a with
    | none => exact .inl (.inr ⟨_, hHa hk⟩)
    | some o =>
      have e := KX a o hk
      rw [ha] at e
      cases e
      refine .inr ⟨_, vs.toArray, _, hk, rfl, rfl, rfl, ?_, by simpa using rv⟩
      rw [List.size_toArray, lv]
      exact hl
  have hok : HOk P w H s₁.heap := by
    intro b u e
    rcases some_of b u e with ⟨z, rfl⟩ | ⟨rfl, _, rfl⟩
    · exact tab z
    · refine ⟨ha, ?_, vs, _, rv, ha⟩
      rw [List.length_map]
      exact hl
  have nsB : ∀ {b : Addr} {m : Str → Option Value}, s₁.heap.Ns b m → (hidT s₁.heap H).Ns b m := by
    rintro b m ⟨o, es, ep, e, d, r⟩
    exact ⟨o, es, ep, hidT_get e (none_of e (fun q n z => by rw [d] at z; cases z) (fun z => by rw [d] at z; cases z)), d, r⟩
  have kB : K.In (hidT s₁.heap H) := by
    intro b o e
    refine hidT_get (KX b o e) ?_
    cases c : H b with
    | none => rfl
    | some u =>
      rcases some_of b u c with ⟨⟨p, hp, rfl⟩, _⟩ | ⟨rfl, k0, _⟩
      · rw [nT p hp] at e
        cases e
      · rw [k0] at e
        cases e
  have md : Mod K mg (hidT s₁.heap H) := by
    obtain ⟨mc, h1, h2⟩ := hlim
    exact ⟨kB, nsB hns, ⟨mb, nsB hb, hbb⟩, ⟨mc, nsB h1, h2⟩⟩
  have mainD : ∀ {b o}, s₁.heap.get? b = some o → (∀ es ep, o.data ≠ .dict es ep) → mainGlobals ≠ b := fun {b o} e d z => by
    obtain ⟨o', es, ep, e', d', _⟩ := hns
    rw [z, e] at e'
    cases e'
    exact d es ep d'
  have TB : ∀ p ∈ cs, LamX.TabB (hidT s₁.heap H) mg p.1 p.2 := fun p hp => by
    refine ⟨?_, ?_, mainD (hT p hp) (fun es ep z => nomatch z)⟩
    · obtain ⟨o, us, file, tf, flags, tg, inF, text, tt, e1, e2, e3, e4, e5⟩ := hC p hp
      refine ⟨o, us, file, tf, flags, tg, inF, text, tt, hidT_get e1 (none_of e1 (fun q n z => ?_) fun z => ?_), e2, e3, e4, e5⟩
      · rw [e3] at z
        cases z
      · rw [e3] at z
        cases z
        cases e4
    · obtain ⟨bm, ob, b1, b2, b3, b4, b5, b6⟩ := hbm
      refine ⟨bm, ob, b1, b2, (mainD b3 (fun es ep z => by rw [b6] at z; cases z)).symm, fun z => ?_, hidT_get b3 (none_of b3 (fun q n z => by rw [b6] at z; cases z) (fun z => by rw [b6] at z; cases z)), b4, b5, b6⟩
      rw [z, hT p hp] at b3
      cases b3
      cases b6
  have e0 : Env0 P w K mg (hidT s₁.heap H) callerA [] s₁ H := by
    refine ⟨rfl, md, fun b o e => of_hidT e, Nat.le_of_eq (hidT_size _ _), trivial, ?_, hok, .of_eq hge⟩
    intro b hb
    exact absurd (show b ∈ ([] : List Addr) from hb) (by simp)
  have go := (F _ kB (nsB hns) TB).run callerA [] s₁ H ⟨[.ref a], []⟩ [.ref a] [.ref a] _ _ rfl hr e0
    (hbind s₁ (.ref a)) (.cons rfl .nil) (hsp H (fun p hp => hHt p.2 ⟨p, hp, rfl⟩) hS)
  refine codeAny_mono go fun r s' h => ?_
  cases r with
  | error e => exact h.elim
  | ok fl =>
    cases fl with
    | ret u =>
      obtain ⟨v, H', os, bare, un, hok', r', qv⟩ := h
      have qv' : v = .bl true := qv
      subst qv'
      obtain rfl : u = Value.bool true := r'
      have each : ∀ b o, s₁.heap.get? b = some o → s'.heap.get? b = some o ∨ ((∃ p ∈ cs, p.2 = b) ∧ ∃ more : Array Value, s'.heap.get? b = some { cls := .none, data := .fields more }) := fun b o e => by
        cases c : H b with
        | none =>
          refine .inl (un.keep b o e c ?_ (by simp))
          intro z
          exact absurd (show b ∈ ([] : List Addr) from z) (by simp)
        | some u =>
          rcases some_of b u c with ⟨z, rfl⟩ | ⟨_, _, rfl⟩
          · obtain ⟨more, q⟩ := un.tbls b #[] c
            exact .inr ⟨z, _, hok' b _ q⟩
          · have c2 := un.frzs b _ _ c
            obtain ⟨e1, _⟩ := hok b _ c
            obtain ⟨e2, _⟩ := hok' b _ c2
            rw [e] at e1
            cases e1
            exact .inl e2
      refine ⟨rfl, ⟨fun b o e => ?_, fun b o e => ?_⟩, os, bare⟩
      · rcases each b o e with z | ⟨⟨p, hp, rfl⟩, more, z⟩
        · exact .inl z
        · cases e.symm.trans (hT p hp)
          exact .inr (.inl ⟨((hC p hp).tab (hT p hp)).isCodeTable, rfl, #[], more, rfl, by rw [Array.empty_append]; exact z⟩)
      · rcases each b o e with z | ⟨_, more, z⟩
        · exact ⟨_, z⟩
        · exact ⟨_, z⟩
    | next => exact False.elim h
    | brk => exact False.elim h
    | cont => exact False.elim h
end
/-- what is known of such a law at the head's heap -/
def LawAtG (l : PySem.W.OpenLaw) (w : World) (K : PySem.W.Frag) (k n : Nat) (x : Str) (mg : Str → Option Value) (fa : Addr) (h : Heap) : Prop :=
  ∃ (fd : FuncData) (cs : List (Addr × Addr)) (sp : Sp), (∀ p ∈ cs, h.get? p.2 = some { cls := .none, data := .fields #[] }) ∧ (∀ p ∈ cs, K.lookup p.2 = none) ∧ (∀ p ∈ cs, PySem.W.CodeHd h p.1 p.2) ∧ (∀ (s : Shared) (u : Value), BindsTo s fd ⟨[u], []⟩ [(x, u)]) ∧
    (∀ (H : Hp) (a : Addr) (ns : List Int), ns.length ≤ n → (∀ p ∈ cs, H p.2 = some (.tbl #[])) → SqL K H a (ns.map V.int) → sp [.ref a] H (fun v _ => v = .bl true) fun _ _ _ => False) ∧
    ∀ base : Heap, K.In base → base.Ns mainGlobals mg → (∀ p ∈ cs, LamX.TabB base mg p.1 p.2) → FnG l.prog w K mg base k fa fd [x] sp
theorem walk_ofLG {l : PySem.W.OpenLaw} {n k : Nat} {q : Program} {loose : List Str} {XP : (Str → Option Value) → Heap → Prop} {YP : World → Heap → Prop} {d : DefRec} {K : Params → PySem.W.Frag} {x : Str}
    (hn : l.most = some n) (hn2 : n ≤ sizeLine) (hdf : d.params.defaults = []) (hr : Room k callerA) (hY : ∀ (w : World) (h : Heap), YP w h → (K w.params).In h)
    (F : ∀ (w : World) (mg : Str → Option Value) (fa : Addr) (h : Heap), (K w.params).In h → h.Ns mainGlobals mg → mg d.name = some (.ref fa) → TabsIn q (K w.params) h → LawAtG l w (K w.params) k n x mg fa h) :
    PySem.W.WalkO q loose XP YP l.row.toRowW d [] (fun f vs => PySem.call f vs) := by
  refine Att.attach_callB hn hdf
    fun w s₀ s₁ mg mb fa o pm cd doc a vs ns G Y ho hd hcd hmg hobj hints hlen hbits hg => ?_
  have hK := hY w _ Y
  have tabs : TabsIn q (K w.params) s₁.heap := fun y c P hf ht => by
    obtain ⟨dL, hfd⟩ := Option.isSome_iff_exists.mp hf
    exact PySem.W.tab_of G.T hK hfd ht
  obtain ⟨fd, cs, sp, hT, nT, C, hb, hsp, hF⟩ := F w mg fa _ hK G.T.g hmg tabs
  exact law_callGT hK G.T.g G.T.b G.T.builtins G.T.nolimit hg hT nT C G.T.bmain hobj hints
    (Nat.le_trans hlen hn2) hr hF hb fun H hH hS => hsp H a ns hlen hH hS
/-- f(e, ..) where nothing is being shown -/
structure ClG (P : Program) (w : World) (K : PySem.W.Frag) (mg : Str → Option Value) (base : Heap) (k : Nat) (x : Str) (ps : List Str) (sp : Sp) : Prop where
  ex : ∃ (f : Addr) (fd : FuncData), FnG P w K mg base k f fd ps sp ∧ PySem.W.keepIn K (.ref f) = true ∧ Binds K fd ps [] ∧ mg x = some (.ref f)

/-! ### lengths of texts put together -/
theorem js_len {a b : Str} {m n : Nat} (ha : a.length ≤ m) (hb : b.length ≤ n) : (a ++ b).length ≤ m + n := by
  rw [strLen_append]
  omega
theorem js_ok {a : Str} {m : Nat} (ha : a.length ≤ m) (h : m ≤ 1000) : a.length ≤ sizeLine := Nat.le_trans ha (Nat.le_of_lt (small1000 h))
theorem it_len {i : Int} (h : i.natAbs ≤ 1000000000) : (Str.ofString (toString i)).length ≤ 60 ∧ i.natAbs.log2 < 1920 := by
  have hl : i.natAbs.log2 < 41 := by
    rcases Nat.eq_zero_or_pos i.natAbs with e | e
    · rw [e]
      decide
    · exact (Nat.log2_lt (by omega)).mpr (Nat.lt_of_le_of_lt h (by decide))
  have := int_text_length_le (a := i) (k := 41) (by decide) hl
  rw [PySem.ofString_length]
  omega

/-! ### zip of a tuple and a list -/
def ItzM (K : PySem.W.Frag) (a b : Addr) : It :=
  ⟨fun i H => ∃ (xs ys : List V) (x y : V), SqT K H a xs ∧ SqL K H b ys ∧ xs[i]? = some x ∧ ys[i]? = some y,
    fun i H v H' => ∃ T x y, v = .ref T ∧ H T = none ∧ H' = upd H T (.tup [x, y]) ∧ (∀ xs, SqT K H a xs → xs[i]? = some x) ∧ ∀ ys, SqL K H b ys → ys[i]? = some y,
    fun i H => ∃ xs ys : List V, SqT K H a xs ∧ SqL K H b ys ∧ i = min xs.length ys.length⟩
theorem turn_zipM {P : Program} {w : World} {K : PySem.W.Frag} {elts : List Expr} {kk : Nat} {tpos : Pos} {a b z TI TO i1 i2 : Addr} (S : ZipSep2 z TI TO i1 i2 [i1, a] [i2, b]) (na : a ≠ i1) (nb : b ≠ i2) :
    Turn P w K (.Tuple elts kk tpos) (ItzM K a b) [z, TI, TO, i1, i2] z (fun i h => IsZip h z TI TO .none ∧ IsTupOf2 h TI (.ref i1) (.ref i2) ∧ (∃ x y, IsTupOf2 h TO x y) ∧ h.IsTupleIter i1 a i ∧ h.IsListIter i2 b i) where
  mem := List.mem_cons_self ..
  obj := fun i h ⟨hz, hTI, ⟨x, y, hTO⟩, ⟨o1, e1, _, d1⟩, ⟨o2, e2, _, d2⟩⟩ c hc => by
    simp only [List.mem_cons, List.not_mem_nil, or_false] at hc
    rcases hc with rfl | rfl | rfl | rfl | rfl
    · exact ⟨_, hz, fun v z => nomatch z⟩
    · exact ⟨_, hTI, fun v z => nomatch z⟩
    · exact ⟨_, hTO, fun v z => nomatch z⟩
    · exact ⟨o1, e1, fun v z => by rw [d1] at z; cases z⟩
    · exact ⟨o2, e2, fun v z => by rw [d2] at z; cases z⟩
  keep := fun i h h' ⟨hz, hTI, ⟨x, y, hTO⟩, h1, h2⟩ k =>
    ⟨k z (by simp) _ hz, k TI (by simp) _ hTI, ⟨x, y, k TO (by simp) _ hTO⟩,
      h1.at (fun o e => k i1 (by simp) o e), h2.at (fun o e => k i2 (by simp) o e)⟩
  item := by
    intro X eP ew eK hc i pins s σ H E I hf st hg
    subst eP ew eK
    obtain ⟨hz, hTI, hTO, h1, h2⟩ := st
    obtain ⟨xs, ys, x, y, sx, sy, hx, hy⟩ := hg
    obtain ⟨its, rv, p1, _⟩ := I.tuple sx
    obtain ⟨its2, rv2, p2, _⟩ := I.list sy
    obtain ⟨u, hu, ru⟩ := rv.get hx
    obtain ⟨u2, hu2, ru2⟩ := rv2.get hy
    have hd : X.A.in1.handled = none := by simp [I.ok.hd hc]
    have lu := (List.getElem?_eq_some_iff.mp hu).1
    have lu2 := (List.getElem?_eq_some_iff.mp hu2).1
    refine (GoesN.zip2 S (Draws.tuple hd i1 a na its.toArray) (Draws.list hd i2 b nb its2.toArray)).goes i s _ E
      (by simp only [List.size_toArray]; omega) ⟨hz, hTI, hTO, ⟨h1, p1⟩, ⟨h2, p2.isList⟩⟩
      fun v h' tk hY st' hk _ => ?_
    obtain ⟨T, v1, v2, rfl, hT, e1, e2, hpair⟩ := hY
    obtain ⟨hz', hTI', hTO', ⟨h1', _⟩, ⟨h2', _⟩⟩ := st'
    have ev1 : v1 = u := by
      have : its[i]? = some v1 := by simpa using e1
      exact Option.some.inj (this.symm.trans hu)
    have ev2 : v2 = u2 := by
      have : its2[i]? = some v2 := by simpa using e2
      exact Option.some.inj (this.symm.trans hu2)
    subst ev1 ev2
    have new : ObjOk X.prog X.w (upd H T (.tup [x, y])) h' T (.tup [x, y]) :=
      ⟨by show 2 ≤ sizeLine; decide, [v1, v2], .cons ru (.cons ru2 .nil), hpair⟩
    have J : Inv X pins σ (upd H T (.tup [x, y])) { s with heap := h', toks := tk } :=
      I.turnedNew (ch := [z, TI, TO, i1, i2]) (fun c o hb e => hk c o (fun m => hb (by
        simp only [List.mem_cons, List.not_mem_nil, or_false] at m ⊢
        rcases m with m | m | m | m <;> simp [m])) e) hf hT new
    refine ⟨.ref T, _, J, rfl, ⟨T, x, y, rfl, I.hok.fresh hT, rfl, fun l hl => ?_, fun l hl => ?_⟩, ⟨hz', hTI', hTO', h1', h2'⟩, fun c hcm => ?_⟩
    · rw [I.tuple_inj hl sx]
      exact hx
    · rw [I.list_inj hl sy]
      exact hy
    · have hlt : c < s.heap.objs.size := by
        obtain ⟨x0, y0, hTO⟩ := hTO
        obtain ⟨o1, g1, _⟩ := h1
        obtain ⟨o2, g2, _⟩ := h2
        simp only [List.mem_cons, List.not_mem_nil, or_false] at hcm
        rcases hcm with rfl | rfl | rfl | rfl | rfl
        · exact Heap.lt_size hz
        · exact Heap.lt_size hTI
        · exact Heap.lt_size hTO
        · exact Heap.lt_size g1
        · exact Heap.lt_size g2
      rw [upd_ne (Nat.ne_of_lt (Nat.lt_of_lt_of_le hlt hT))]
      exact (hf c hcm).1
  done := by
    intro X eP ew eK hc i pins s σ H E I hf st hg
    subst eP ew eK
    obtain ⟨hz, hTI, hTO, h1, h2⟩ := st
    obtain ⟨xs, ys, sx, sy, hi⟩ := hg
    obtain ⟨its, rv, p1, _⟩ := I.tuple sx
    obtain ⟨its2, rv2, p2, _⟩ := I.list sy
    have hd : X.A.in1.handled = none := by simp [I.ok.hd hc]
    have l1 := rv.length
    have l2 := rv2.length
    have hin : i = min its.toArray.size its2.toArray.size := by
      simp only [List.size_toArray]
      omega
    refine (GoesN.zip2 (elts := elts) (x1 := kk) (pos := tpos) S (Draws.tuple hd i1 a na its.toArray) (Draws.list hd i2 b nb its2.toArray)).stops s _ E
      (by rw [← hin]; exact ⟨hz, hTI, hTO, ⟨h1, p1⟩, ⟨h2, p2.isList⟩⟩) fun h' tk hk _ => ?_
    exact I.turnedL (ch := [z, TI, TO, i1, i2]) (fun c o hb e => hk c o (fun m => hb (by
        simp only [List.mem_cons, List.not_mem_nil, or_false] at m ⊢
        rcases m with m | m | m | m <;> simp [m])) e) hf
  self := fun A i s Q E st h => wpAny_pyIter_zip st.1 h
def iZipM (K : PySem.W.Frag) (ta : TA) : TI := fun σ H R => ta σ H fun vs H1 => ∃ a b xs ys, vs = [.ref a, .ref b] ∧ SqT K H1 a xs ∧ SqL K H1 b ys ∧ R (ItzM K a b) H1
theorem pi_zipM {X : Cx} {e e2 : Expr} {ta : TA} {p pos tpos : Pos} {elts : List Expr} {kk : Nat} (hg : Gl X "zip") (hm : X.mg "zip" = none) (ha : PA X [e, e2] ta)
    (hs : starEach [e, e2] X.env = (false, eval e X.env) :: starEach [e2] X.env := by rfl) (hpl : (backTo pos (starEach [e2] X.env)).any (·.1) = false := by rfl) : PI X (.Tuple elts kk tpos) (.Call (.Name "zip" p) [e, e2] [] pos) (iZipM X.K ta) := by
  refine ⟨fun pins s σ H R I h => Call_ (ld_blt I hg hm PyProof.Rows.boot_zip
    (PyProof.Rows.callWith_type1 (thn (ha.run pos pins s σ H _ I h) fun us s1 hh => ?_) hs hpl))⟩
  obtain ⟨vs, H1, I1, r1, a, b, xs, ys, rfl, sx, sy, q⟩ := hh
  obtain ⟨u1, u2, rfl, r2, r3⟩ := vals2 r1
  cases (show u1 = Value.ref a from r2)
  cases (show u2 = Value.ref b from r3)
  obtain ⟨its, rv, p1, _⟩ := I1.tuple sx
  obtain ⟨its2, rv2, p2, _⟩ := I1.list sy
  obtain ⟨o1, ho1, _⟩ := id p1
  have la : a < s1.heap.objs.size := Heap.lt_size ho1
  have lb : b < s1.heap.objs.size := p2.lt
  refine zip_begins2 (begins_tuple a its.toArray) (begins_list b its2.toArray) p1 p2.isList
    fun h' hz hTI hTO g1 g2 hsz hk => wpAny_pyIter_zip hz ?_
  have I2 : Inv X pins σ H1 { s1 with heap := h' } := I1.kept (t' := s1.toks) hk
  refine ⟨s1.heap.objs.size + 4, [s1.heap.objs.size + 4, s1.heap.objs.size + 2, s1.heap.objs.size + 3, s1.heap.objs.size, s1.heap.objs.size + 1], _, _, H1, rfl, I2,
    turn_zipM (zip_sep2 (fp1 := [a]) (fp2 := [b]) (fun c hc => by rw [List.mem_singleton.mp hc]; exact la) (fun c hc => by rw [List.mem_singleton.mp hc]; exact lb)) (Nat.ne_of_lt la) (Nat.ne_of_lt (Nat.lt_succ_of_lt lb)),
    ⟨hz, hTI, ⟨_, _, hTO⟩, ⟨_, g1, rfl, rfl⟩, ⟨_, g2, rfl, rfl⟩⟩, fun c hcm => ?_, q⟩
  have hle : s1.heap.objs.size ≤ c := by
    simp only [List.mem_cons, List.not_mem_nil, or_false] at hcm
    rcases hcm with rfl | rfl | rfl | rfl | rfl
    · exact Nat.le_add_right _ _
    · exact Nat.le_add_right _ _
    · exact Nat.le_add_right _ _
    · exact Nat.le_refl _
    · exact Nat.le_add_right _ _
  exact (I1.fpOk hle (I1.hok.fresh hle))
theorem zipM_go {K : PySem.W.Frag} {a b : Addr} {xs ys : List V} {i : Nat} {H : Hp} (hl : xs.length = ys.length) (hx : SqT K H a xs) (hy : SqL K H b ys) (hi : i < xs.length) : (ItzM K a b).go i H :=
  ⟨xs, ys, _, _, hx, hy, List.getElem?_eq_getElem hi, List.getElem?_eq_getElem (by omega)⟩
theorem zipM_stop {K : PySem.W.Frag} {a b : Addr} {xs ys : List V} {H : Hp} (hl : xs.length = ys.length) (hx : SqT K H a xs) (hy : SqL K H b ys) : (ItzM K a b).stop xs.length H :=
  ⟨xs, ys, hx, hy, by omega⟩
theorem zipM_yld {K : PySem.W.Frag} {a b : Addr} {xs ys : List V} {i : Nat} {H : Hp} {v : V} {H' : Hp} (hx : SqT K H a xs) (hy : SqL K H b ys) (h : (ItzM K a b).yld i H v H') : ∃ T x y, v = .ref T ∧ H T = none ∧ H' = upd H T (.tup [x, y]) ∧ xs[i]? = some x ∧ ys[i]? = some y := by
  obtain ⟨T, x, y, e1, e2, e3, e4, e5⟩ := h
  exact ⟨T, x, y, e1, e2, e3, e4 _ hx, e5 _ hy⟩
/-- a loop over pairs, whatever gives them -/
theorem for_pairs {J : It} {xs ys : List V} {g : TG} {tb : TS} {D : Ends} {σ : L2.St} {H : Hp} (Pv : Nat → L2.St → Hp → Prop) (h0 : Pv 0 σ H) (go : ∀ i σ H, Pv i σ H → i < xs.length → J.go i H) (st : ∀ σ H, Pv xs.length σ H → J.stop xs.length H)
    (yl : ∀ i σ H v H', Pv i σ H → J.yld i H v H' → ∃ T x y, v = .ref T ∧ H T = none ∧ H' = upd H T (.tup [x, y]) ∧ xs[i]? = some x ∧ ys[i]? = some y)
    (hs : ∀ (i : Nat) (x y : V) (T : Addr) (σ : L2.St) (H : Hp), xs[i]? = some x → ys[i]? = some y → Pv i σ H → H T = none → g (.ref T) σ (upd H T (.tup [x, y])) fun σ2 H2 => tb { D with nx := Pv (i + 1), ct := Pv (i + 1), bk := D.nx } σ2 H2) (hd : ∀ σ H, Pv xs.length σ H → D.nx σ H) :
    ∃ W : Nat → Nat → L2.St → Hp → Prop, (∃ m, W 0 m σ H) ∧ ∀ i m σ H, W i m σ H →
      (J.stop i H ∧ D.nx σ H) ∨ (J.go i H ∧ ∃ N : L2.St → Hp → Prop, (∀ σ' H', N σ' H' → ∃ m', m' < m ∧ W (i + 1) m' σ' H') ∧ ∀ v H', J.yld i H v H' → g v σ H' fun σ2 H2 => tb { D with nx := N, ct := N, bk := D.nx } σ2 H2) := by
  refine ⟨fun i m σ H => m = xs.length - i ∧ i ≤ xs.length ∧ Pv i σ H,
    ⟨xs.length, by omega, Nat.zero_le _, h0⟩, fun i m σ H hW => ?_⟩
  obtain ⟨rfl, hi, hp⟩ := hW
  rcases Nat.lt_or_ge i xs.length with lt | ge
  · refine .inr ⟨go i σ H hp lt, Pv (i + 1), fun σ' H' z => ⟨xs.length - (i + 1), by omega, rfl, by omega, z⟩, fun v H' hv => ?_⟩
    obtain ⟨T, x, y, rfl, nT, rfl, hx, hy⟩ := yl i σ H v H' hp hv
    exact hs i x y T σ H hx hy hp nT
  · have e : i = xs.length := by omega
    subst e
    exact .inl ⟨st σ H hp, hd σ H hp⟩
/-- a comprehension over pairs, whatever gives them -/
theorem lc_pairs {J : It} {xs ys : List V} {g : TG} {tt : TT} {te : TE} {vs : List Nat} {σ : L2.St} {H1 : Hp} {D : Addr} {Qd : Hp → Prop} (Pv : Nat → Hp → Prop) (h0 : Pv 0 (upd H1 D (.lst []))) (go : ∀ i H, Pv i H → i < xs.length → J.go i H) (st : ∀ H, Pv xs.length H → J.stop xs.length H)
    (yl : ∀ i H v H', Pv i H → J.yld i H v H' → ∃ T x y, v = .ref T ∧ H T = none ∧ H' = upd H T (.tup [x, y]) ∧ xs[i]? = some x ∧ ys[i]? = some y)
    (hs : ∀ (i : Nat) (x y : V) (T : Addr) (H : Hp), xs[i]? = some x → ys[i]? = some y → Pv i H → H T = none → g (.ref T) (wipe σ vs) (upd H T (.tup [x, y])) fun σ2 H2 => wipe σ2 vs = wipe σ vs ∧ tt σ2 H2 fun b H3 =>
      if b = true then te σ2 H3 fun z H4 => ∃ acc, H4 D = some (.lst acc) ∧ acc.length < sizeLine ∧ Pv (i + 1) (upd H4 D (.lst (acc ++ [z]))) else Pv (i + 1) H3) (hd : ∀ H, Pv xs.length H → Qd H) :
    ∃ W : Nat → Nat → Hp → Prop, (∃ m, W 0 m (upd H1 D (.lst []))) ∧ ∀ i m H, W i m H →
      (J.stop i H ∧ Qd H) ∨ (J.go i H ∧ ∃ Nx : Hp → Prop, (∀ H', Nx H' → ∃ m', m' < m ∧ W (i + 1) m' H') ∧ ∀ x H', J.yld i H x H' → g x (wipe σ vs) H' fun σ2 H2 => wipe σ2 vs = wipe σ vs ∧ tt σ2 H2 fun b H3 =>
        if b = true then te σ2 H3 fun y H4 => ∃ acc, H4 D = some (.lst acc) ∧ acc.length < sizeLine ∧ Nx (upd H4 D (.lst (acc ++ [y]))) else Nx H3) := by
  refine ⟨fun i m H => m = xs.length - i ∧ i ≤ xs.length ∧ Pv i H,
    ⟨xs.length, by omega, Nat.zero_le _, h0⟩, fun i m H hW => ?_⟩
  obtain ⟨rfl, hi, hp⟩ := hW
  rcases Nat.lt_or_ge i xs.length with lt | ge
  · refine .inr ⟨go i H hp lt, Pv (i + 1), fun H' z => ⟨xs.length - (i + 1), by omega, rfl, by omega, z⟩, fun v H' hv => ?_⟩
    obtain ⟨T, x, y, rfl, nT, rfl, hx, hy⟩ := yl i H v H' hp hv
    exact hs i x y T H hx hy hp nT
  · have e : i = xs.length := by omega
    subst e
    exact .inl ⟨st H hp, hd H hp⟩

/-! ### things of whatever kind, as data -/
mutual
inductive Dg (K : PySem.W.Frag) (fx : Hp) (H : Hp) : Bool → V → PyData → Prop
  | non {b : Bool} : Dg K fx H b .non .none
  | bl {b : Bool} (x : Bool) : Dg K fx H b (.bl x) (.bool x)
  | int {b : Bool} (i : Int) : Dg K fx H b (.int i) (.int i)
  | str {b : Bool} (x : Str) : Dg K fx H b (.str x) (.str x)
  | tup {b : Bool} {a : Addr} {xs : List V} {ds : List PyData} : SqT K H a xs → DgAll K fx H b xs ds → Dg K fx H b (.ref a) (.tuple ds)
  | lst {a : Addr} {xs : List V} {ds : List PyData} : fx a = none → H a = some (.lst xs) → DgAll K fx H true xs ds → Dg K fx H true (.ref a) (.list ds)
  | dic0 {a : Addr} : fx a = none → H a = some (.dK []) → Dg K fx H false (.ref a) (.dict [])
  | dic1 {a : Addr} {k : Str} {i : Int} : fx a = none → H a = some (.dK [(Sum.inr k, .int i)]) → Dg K fx H false (.ref a) (.dict [(.str k, .int i)])
inductive DgAll (K : PySem.W.Frag) (fx : Hp) (H : Hp) : Bool → List V → List PyData → Prop
  | nil {b : Bool} : DgAll K fx H b [] []
  | cons {b : Bool} {v : V} {vs : List V} {d : PyData} {ds : List PyData} : Dg K fx H b v d → DgAll K fx H b vs ds → DgAll K fx H b (v :: vs) (d :: ds)
end
mutual
theorem Dg.kp {K : PySem.W.Frag} {fx : Hp} {H H' : Hp} (kt : TKeep K H H') (kb : ∀ b o, fx b = none → H b = some o → H' b = some o) : ∀ {b : Bool} {v : V} {d : PyData}, Dg K fx H b v d → Dg K fx H' b v d
  | _, _, _, .non => .non
  | _, _, _, .bl x => .bl x
  | _, _, _, .int i => .int i
  | _, _, _, .str x => .str x
  | _, _, _, .tup h q => .tup (kt _ _ h) (DgAll.kp kt kb q)
  | _, _, _, .lst n h q => .lst n (kb _ _ n h) (DgAll.kp kt kb q)
  | _, _, _, .dic0 n h => .dic0 n (kb _ _ n h)
  | _, _, _, .dic1 n h => .dic1 n (kb _ _ n h)
theorem DgAll.kp {K : PySem.W.Frag} {fx : Hp} {H H' : Hp} (kt : TKeep K H H') (kb : ∀ b o, fx b = none → H b = some o → H' b = some o) : ∀ {b : Bool} {v : List V} {d : List PyData}, DgAll K fx H b v d → DgAll K fx H' b v d
  | _, _, _, .nil => .nil
  | _, _, _, .cons h q => .cons (Dg.kp kt kb h) (DgAll.kp kt kb q)
end
theorem Dg.sm {K : PySem.W.Frag} {fx : Hp} {H H' : Hp} {b : Bool} {v : V} {d : PyData} (s : Same H H') (h : Dg K fx H b v d) : Dg K fx H' b v d := Dg.kp (Same.tk s) (fun a o _ e => s a o e) h
theorem Dg.gr {K : PySem.W.Frag} {fx : Hp} {st : Addr} {H H' : Hp} {b : Bool} {v : V} {d : PyData} (g : Gr st H H') (hs : IsSt H st) (hf : fx st ≠ none) (h : Dg K fx H b v d) : Dg K fx H' b v d := Dg.kp (g.tk hs) (fun b o hb e => g.1 b o (fun z => hf (by rw [← z]; exact hb)) e) h
theorem DgAll.gr {K : PySem.W.Frag} {fx : Hp} {st : Addr} {H H' : Hp} {b : Bool} {v : List V} {d : List PyData} (g : Gr st H H') (hs : IsSt H st) (hf : fx st ≠ none) (h : DgAll K fx H b v d) : DgAll K fx H' b v d := DgAll.kp (g.tk hs) (fun b o hb e => g.1 b o (fun z => hf (by rw [← z]; exact hb)) e) h
theorem Gr.free {st p : Addr} {H H' : Hp} (g : Gr st H H') (hs : IsSt H st) (np : H' p = none) : H p = none := by
  cases e : H p with
  | none => rfl
  | some o =>
    by_cases z : p = st
    · subst z
      obtain ⟨x, y, hx, _⟩ := g.2 hs
      rw [hx] at np
      cases np
    · rw [g.1 p o z e] at np
      cases np
theorem st_some {st : Addr} {H : Hp} (hs : IsSt H st) : H st ≠ none := by
  obtain ⟨x, y, hx, _⟩ := hs
  rw [hx]
  exact fun z => nomatch z
/-- a wider world knows more old places -/
theorem dg_dummy : True := trivial
theorem DgAll.sm {K : PySem.W.Frag} {fx : Hp} {H H' : Hp} {b : Bool} {v : List V} {d : List PyData} (s : Same H H') (h : DgAll K fx H b v d) : DgAll K fx H' b v d := DgAll.kp (Same.tk s) (fun a o _ e => s a o e) h
mutual
theorem Dg.wk {K : PySem.W.Frag} {fx fy H : Hp} (w : ∀ a, fx a = none → fy a = none) : ∀ {b : Bool} {v : V} {d : PyData}, Dg K fx H b v d → Dg K fy H b v d
  | _, _, _, .non => .non
  | _, _, _, .bl x => .bl x
  | _, _, _, .int i => .int i
  | _, _, _, .str x => .str x
  | _, _, _, .tup h q => .tup h (DgAll.wk w q)
  | _, _, _, .lst n h q => .lst (w _ n) h (DgAll.wk w q)
  | _, _, _, .dic0 n h => .dic0 (w _ n) h
  | _, _, _, .dic1 n h => .dic1 (w _ n) h
theorem DgAll.wk {K : PySem.W.Frag} {fx fy H : Hp} (w : ∀ a, fx a = none → fy a = none) : ∀ {b : Bool} {v : List V} {d : List PyData}, DgAll K fx H b v d → DgAll K fy H b v d
  | _, _, _, .nil => .nil
  | _, _, _, .cons h q => .cons (Dg.wk w h) (DgAll.wk w q)
end
theorem DgAll.len {K : PySem.W.Frag} {fx : Hp} {H : Hp} : ∀ {b : Bool} {vs : List V} {ds : List PyData}, DgAll K fx H b vs ds → vs.length = ds.length
  | _, _, _, .nil => rfl
  | _, _, _, .cons _ t => by rw [List.length_cons, List.length_cons, DgAll.len t]
theorem DgAll.at {K : PySem.W.Frag} {fx : Hp} {H : Hp} : ∀ {b : Bool} {vs : List V} {ds : List PyData} {i : Nat} {v : V}, DgAll K fx H b vs ds → vs[i]? = some v → ∃ d, ds[i]? = some d ∧ Dg K fx H b v d
  | _, _, _, i, v, .nil, h => by simp at h
  | _, _, _, 0, v, .cons a t, h => by
    have e : _ = v := Option.some.inj h
    subst e
    exact ⟨_, rfl, a⟩
  | _, _, _, i + 1, v, .cons a t, h => DgAll.at (i := i) t h
theorem DgAll.app {K : PySem.W.Frag} {fx : Hp} {H : Hp} {b : Bool} {ws : List V} {es : List PyData} (q : DgAll K fx H b ws es) : ∀ {vs : List V} {ds : List PyData}, DgAll K fx H b vs ds → DgAll K fx H b (vs ++ ws) (ds ++ es)
  | _, _, .nil => q
  | _, _, .cons a t => .cons a (DgAll.app q t)
theorem DgAll.tk {K : PySem.W.Frag} {fx : Hp} {H : Hp} {b : Bool} : ∀ (n : Nat) {vs : List V} {ds : List PyData}, DgAll K fx H b vs ds → DgAll K fx H b (vs.take n) (ds.take n)
  | 0, _, _, _ => .nil
  | _ + 1, _, _, .nil => .nil
  | n + 1, _, _, .cons a t => .cons a (DgAll.tk n t)
theorem DgAll.dr {K : PySem.W.Frag} {fx : Hp} {H : Hp} {b : Bool} : ∀ (n : Nat) {vs : List V} {ds : List PyData}, DgAll K fx H b vs ds → DgAll K fx H b (vs.drop n) (ds.drop n)
  | 0, _, _, q => q
  | _ + 1, _, _, .nil => .nil
  | n + 1, _, _, .cons _ t => DgAll.dr n t
/-! kinds -/
def tyn : PyData → String
  | .none => "NoneType"
  | .bool _ => "bool"
  | .int _ => "int"
  | .str _ => "str"
  | .list _ => "list"
  | .tuple _ => "tuple"
  | .dict _ => "dict"
def isB : PyData → Bool
  | .bool _ => true
  | _ => false
def isI : PyData → Bool
  | .bool _ => true
  | .int _ => true
  | _ => false
def isT : PyData → Bool
  | .tuple _ => true
  | _ => false
theorem Dg.ty {K : PySem.W.Frag} {fx : Hp} {H : Hp} {b : Bool} {v : V} {d : PyData} (h : Dg K fx H b v d) : TyX K H v (.type (tyn d)) := by
  cases h with
  | non => exact .base .non
  | bl x => exact .base (.bl x)
  | int i => exact .base (.int i)
  | str x => exact .base (.str x)
  | tup h q => exact tyT h
  | lst n h q => exact .base (.lst h)
  | dic0 n h => exact .base (.dK h)
  | dic1 n h => exact .base (.dK h)
theorem kB (d : PyData) : kitB (tyn d) "bool" = some (isB d) := by cases d <;> simp only [tyn, isB] <;> decide +kernel
theorem kI (d : PyData) : kitB (tyn d) "int" = some (isI d) := by cases d <;> simp only [tyn, isI] <;> decide +kernel
theorem kT (d : PyData) : kitB (tyn d) "tuple" = some (isT d) := by cases d <;> simp only [tyn, isT] <;> decide +kernel
def isW (d : PyData) (l m : Int) : Bool := match d with
  | .int n => decide (l ≤ n ∧ n ≤ m)
  | _ => false
def isTup (d : PyData) (l m : Int) : Bool := match d with
  | .tuple ds => decide (l ≤ (ds.length : Int) ∧ (ds.length : Int) ≤ m)
  | _ => false
def isRowD (d : PyData) : Bool := match d with
  | .tuple [a, b] => isW a 0 9 && isW b 1 24
  | _ => false
def bkOk (b : PyData) (n : Int) : Bool := match b with
  | .none => true
  | b => isW b 0 n
def isLayD (d : PyData) : Bool := match d with
  | .tuple [.tuple rs, b] => decide (rs.length ≤ 8) && rs.all isRowD && bkOk b ((rs.length : Int) - 1)
  | _ => false
def isSpotD (x y : PyData) : Bool := isW x (-20) 20 && isW y (-20) 20
def isMoveD (d : PyData) : Bool := match d with
  | .tuple [x, y, n] => isSpotD x y && isW n 0 24
  | _ => false
def isWinD (d : PyData) : Bool := match d with
  | .tuple [x, y, .tuple ms] => isSpotD x y && decide (ms.length ≤ 8) && ms.all isMoveD
  | _ => false
def isShD (d : PyData) : Bool := match d with
  | .tuple [.tuple ls, w] => decide (1 ≤ ls.length ∧ ls.length ≤ 4) && ls.all isLayD && isWinD w
  | _ => false
theorem three_of {α : Type} {xs : List α} (h : xs.length = 3) : ∃ a b c, xs = [a, b, c] := by
  match xs, h with
  | [a, b, c], _ => exact ⟨a, b, c, rfl⟩
theorem mv_no {d : PyData} (h : isTup d 3 3 = false) : isMoveD d = false := by
  unfold isMoveD
  split
  · simp [isTup] at h
  · rfl
theorem win_no {d : PyData} (h : isTup d 3 3 = false) : isWinD d = false := by
  unfold isWinD
  split
  · simp [isTup] at h
  · rfl
theorem win_no2 {x y m : PyData} (h : isTup m 0 8 = false) : isWinD (.tuple [x, y, m]) = false := by
  cases m with
  | tuple ms =>
    have h' : decide ((0 : Int) ≤ (ms.length : Int) ∧ (ms.length : Int) ≤ 8) = false := h
    have : ¬ ms.length ≤ 8 := fun z => by
      rw [decide_eq_true (show (0 : Int) ≤ (ms.length : Int) ∧ (ms.length : Int) ≤ 8 from ⟨by omega, by omega⟩)] at h'
      cases h'
    show (isSpotD x y && decide (ms.length ≤ 8) && ms.all isMoveD) = false
    rw [decide_eq_false this, Bool.and_false]
    rfl
  | _ => rfl
theorem win_eq {x y : PyData} {ms : List PyData} (h : ms.length ≤ 8) : isWinD (.tuple [x, y, .tuple ms]) = (isSpotD x y && ms.all isMoveD) := by
  show (isSpotD x y && decide (ms.length ≤ 8) && ms.all isMoveD) = _
  rw [decide_eq_true h, Bool.and_true]
theorem sh_no {d : PyData} (h : isTup d 2 2 = false) : isShD d = false := by
  unfold isShD
  split
  · simp [isTup] at h
  · rfl
theorem sh_no2 {l w : PyData} (h : isTup l 1 4 = false) : isShD (.tuple [l, w]) = false := by
  cases l with
  | tuple ls =>
    have h' : decide ((1 : Int) ≤ (ls.length : Int) ∧ (ls.length : Int) ≤ 4) = false := h
    have : ¬ (1 ≤ ls.length ∧ ls.length ≤ 4) := fun z => by
      rw [decide_eq_true (show (1 : Int) ≤ (ls.length : Int) ∧ (ls.length : Int) ≤ 4 from ⟨by omega, by omega⟩)] at h'
      cases h'
    show (decide (1 ≤ ls.length ∧ ls.length ≤ 4) && ls.all isLayD && isWinD w) = false
    rw [decide_eq_false this]
    rfl
  | _ => rfl
theorem sh_eq {ls : List PyData} {w : PyData} (h : 1 ≤ ls.length ∧ ls.length ≤ 4) : isShD (.tuple [.tuple ls, w]) = (ls.all isLayD && isWinD w) := by
  show (decide (1 ≤ ls.length ∧ ls.length ≤ 4) && ls.all isLayD && isWinD w) = _
  rw [decide_eq_true h, Bool.true_and]
/-! ### repr of things of whatever kind -/
section
variable {X : Cx} {pins : List (Addr × Obj)} {σ : L2.St} {H : Hp} {s : Shared}
theorem dic_reads (I : Inv X pins σ H s) {a : Addr} {kvs : List (Key × V)} (h : H a = some (.dK kvs)) : a ≠ sysModules ∧ ∃ o es ep vs, s.heap.get? a = some o ∧ o.cls = .type "dict" ∧ o.data = .dict es ep ∧ KV kvs vs ∧ Pairs (mixKind X.prog X.w) es.toList vs := by
  obtain ⟨_, hn, vs, kv, o, es, ep, h1, h2, h3, _, h5, _⟩ := (show ObjOk X.prog X.w H s.heap a (.dK kvs) from I.hok a _ h)
  exact ⟨fun e => by rw [e] at hn; simp at hn, o, es, ep, vs, h1, h2.1, h3, kv, h5⟩
mutual
theorem Dg.reads (I : Inv X pins σ H s) {fx : Hp} : ∀ {b : Bool} {v : V} {d : PyData} {u : Value}, Dg X.K fx H b v d → RelV v u → ∃ as, Reads s.heap u d as ∧ (b = true → d.hasDict = false) ∧ (b = false → sysModules ∉ as)
  | _, _, _, _, .non, r => by
    cases r
    exact ⟨_, Reads.none, fun _ => rfl, fun _ h => nomatch h⟩
  | _, _, _, _, .bl x, r => by
    cases r
    exact ⟨_, Reads.bool x, fun _ => rfl, fun _ h => nomatch h⟩
  | _, _, _, _, .int i, r => by
    obtain ⟨t, rfl⟩ := r
    exact ⟨_, Reads.int i t, fun _ => rfl, fun _ h => nomatch h⟩
  | _, _, _, _, .str x, r => by
    obtain ⟨t, rfl⟩ := r
    exact ⟨_, Reads.str x t, fun _ => rfl, fun _ h => nomatch h⟩
  | _, _, _, _, .tup h q, r => by
    cases r
    obtain ⟨its, rv, ⟨o, ho, hc, n, hd⟩, _⟩ := I.tuple h
    obtain ⟨as, hr, h1, h2⟩ := DgAll.reads I q rv
    exact ⟨_, Reads.tuple ho hc hd hr, h1, h2⟩
  | _, _, _, _, .lst _ h q, r => by
    cases r
    obtain ⟨its, rv, ⟨o, n, ho, hc, _, hd⟩, _⟩ := I.list (.inl (.inl h))
    obtain ⟨as, hr, h1, h2⟩ := DgAll.reads I q rv
    exact ⟨_, Reads.list ho hc hd hr, h1, fun z => nomatch z⟩
  | _, _, _, _, .dic0 (a := a) _ h, r => by
    cases r
    obtain ⟨hn, o, es, ep, vs, h1, h2, h3, kv, pr⟩ := dic_reads I h
    cases kv
    have e0 : es.toList = [] := by
      cases h' : es.toList with
      | nil => rfl
      | cons x r =>
        rw [h'] at pr
        cases pr
    refine ⟨a :: [] ++ [], Reads.dict h1 h2 h3 ?_ ?_, fun z => (Bool.false_ne_true z).elim, fun _ hm => hn ?_⟩
    · rw [e0]
      exact .nil
    · rw [e0]
      exact .nil
    · exact (List.mem_singleton.mp (by simpa using hm)).symm
  | _, _, _, _, .dic1 (a := a) (k := k) (i := i) _ h, r => by
    cases r
    obtain ⟨hn, o, es, ep, vs, h1, h2, h3, kv, pr⟩ := dic_reads I h
    obtain ⟨u, t, rfl, e1, e2⟩ : ∃ (u : Value) (t : Tok), vs = [(Sum.inr k, u)] ∧ u = .int i t ∧ True := by
      cases kv with
      | cons hh tt =>
        cases tt
        rename_i q
        obtain ⟨q1, q2⟩ := q
        obtain ⟨f1, t, f2⟩ := hh
        dsimp only at f1 f2
        subst f1 f2
        exact ⟨_, t, rfl, rfl, trivial⟩
    subst e1
    obtain ⟨e, hee, hk, hv⟩ : ∃ e : DictEntry, es.toList = [e] ∧ keyIs (Sum.inr k) e.key = true ∧ e.val = .int i t := by
      cases h' : es.toList with
      | nil =>
        rw [h'] at pr
        cases pr
      | cons x r =>
        rw [h'] at pr
        cases pr with
        | cons p1 p2 p3 =>
          cases p3
          exact ⟨x, rfl, p1, p2⟩
    obtain ⟨tk, hkk⟩ := keyIs_rel hk
    refine ⟨a :: ([] ++ []) ++ ([] ++ []), Reads.dict h1 h2 h3 ?_ ?_, fun z => (Bool.false_ne_true z).elim, fun _ hm => hn ?_⟩
    · rw [hee]
      show ReadsAll _ [e.key] [.str k] _
      rw [hkk]
      exact .cons (.str k tk) .nil
    · rw [hee]
      show ReadsAll _ [e.val] [.int i] _
      rw [hv]
      exact .cons (.int i t) .nil
    · exact (List.mem_singleton.mp (by simpa using hm)).symm
theorem DgAll.reads (I : Inv X pins σ H s) {fx : Hp} : ∀ {b : Bool} {vs : List V} {ds : List PyData} {us : List Value}, DgAll X.K fx H b vs ds → Vals vs us → ∃ as, ReadsAll s.heap us ds as ∧ (b = true → PyData.hasDictAll ds = false) ∧ (b = false → sysModules ∉ as)
  | _, _, _, _, .nil, r => by
    cases r
    exact ⟨_, ReadsAll.nil, fun _ => rfl, fun _ h => nomatch h⟩
  | _, _, _, _, .cons h q, r => by
    cases r with
    | cons r1 r2 =>
      obtain ⟨as, a1, a2, a3⟩ := Dg.reads I h r1
      obtain ⟨bs, b1, b2, b3⟩ := DgAll.reads I q r2
      refine ⟨_, ReadsAll.cons a1 b1, fun z => ?_, fun z hm => ?_⟩
      · show (_ || _) = false
        rw [a2 z, b2 z]
        rfl
      · rcases List.mem_append.mp hm with m | m
        · exact a3 z m
        · exact b3 z m
end
end
structure RQ (k w : Nat) (d : PyData) : Prop where
  sh : d.showable = true
  dp : d.depth ≤ k
  lv : d.leavesShort 40 = true
  wt : d.weight ≤ w
theorem RQ.fits {k w : Nat} {d : PyData} (h : RQ k w d) (hw : w ≤ 300000) : d.shown.length ≤ sizeLine := by
  have := PyData.shown_le 40 (by decide) d h.lv
  have := h.wt
  have e : sizeLine = 16777216 := by decide
  omega
theorem RQ.more {k w k' w' : Nat} {d : PyData} (h : RQ k w d) (h1 : k ≤ k') (h2 : w ≤ w') : RQ k' w' d := ⟨h.sh, Nat.le_trans h.dp h1, h.lv, Nat.le_trans h.wt h2⟩
theorem RQ.non : RQ 0 100 .none := ⟨rfl, Nat.le_refl _, rfl, Nat.zero_le _⟩
theorem RQ.bl (b : Bool) : RQ 0 100 (.bool b) := ⟨rfl, Nat.le_refl _, rfl, Nat.zero_le _⟩
theorem RQ.int {i : Int} (h : i.natAbs < 10 ^ 30) : RQ 0 100 (.int i) := by
  have hl : i.natAbs.log2 < 100 := by
    rcases Nat.eq_zero_or_pos i.natAbs with e | e
    · rw [e]
      decide
    · exact (Nat.log2_lt (by omega)).mpr (Nat.lt_trans h (by decide))
  refine ⟨decide_eq_true (by omega), Nat.le_refl _, decide_eq_true ?_, ?_⟩
  · show (Str.ofString (toString i)).length ≤ 40
    have := int_text_length_le10 (a := i) (k := 30) (by decide) h
    rw [show (Str.ofString (toString i)).length = (toString i).length from PyProof.Rows.ofString_len _]
    omega
  · show (if i == 0 then 0 else i.natAbs.log2 + 1) ≤ 100
    split <;> omega
theorem rq_all {k w : Nat} : ∀ {ds : List PyData}, (∀ e ∈ ds, RQ k w e) → PyData.showableAll ds = true ∧ PyData.depthAll ds ≤ k ∧ PyData.leavesShortAll 40 ds = true ∧ PyData.weightAll ds ≤ ds.length * (w + 1)
  | [], _ => ⟨rfl, Nat.zero_le _, rfl, Nat.zero_le _⟩
  | d :: t, h => by
    obtain ⟨a, c, e, f⟩ := rq_all (ds := t) fun x hx => h x (List.mem_cons_of_mem _ hx)
    have h1 := h d (List.mem_cons_self ..)
    refine ⟨?_, ?_, ?_, ?_⟩
    · show (d.showable && PyData.showableAll t) = true
      rw [h1.sh, a]
      rfl
    · show max d.depth (PyData.depthAll t) ≤ k
      exact Nat.max_le.mpr ⟨h1.dp, c⟩
    · show (d.leavesShort 40 && PyData.leavesShortAll 40 t) = true
      rw [h1.lv, e]
      rfl
    · show d.weight + 1 + PyData.weightAll t ≤ (t.length + 1) * (w + 1)
      have := h1.wt
      rw [Nat.add_mul, Nat.one_mul]
      omega
theorem RQ.tup {k w n : Nat} {ds : List PyData} (h : ∀ e ∈ ds, RQ k w e) (hn : ds.length * (w + 1) ≤ n) : RQ (k + 1) n (.tuple ds) := by
  obtain ⟨a, c, e, f⟩ := rq_all h
  exact ⟨a, Nat.succ_le_succ c, e, Nat.le_trans f hn⟩
theorem RQ.lst {k w n : Nat} {ds : List PyData} (h : ∀ e ∈ ds, RQ k w e) (hn : ds.length * (w + 1) ≤ n) : RQ (k + 1) n (.list ds) := by
  obtain ⟨a, c, e, f⟩ := rq_all h
  exact ⟨a, Nat.succ_le_succ c, e, Nat.le_trans f hn⟩
def rReprG (K : PySem.W.Frag) : List V → Hp → VK → Prop := fun xs H Q => ∃ (fx : Hp) (b : Bool) (v : V) (d : PyData) (S : Str), xs = [v] ∧ Dg K fx H b v d ∧ d.showable = true ∧ d.depth ≤ 30 ∧ d.shown.length ≤ sizeLine ∧ d.shown = S ∧ Q (.str S) H
theorem call_reprG {X : Cx} (hg : X.A.guards = some []) (hu : X.A.units + 64 < cLine) : CallR X (.builtin "repr") (rReprG X.K) := by
  intro pins s σ H xs us Q I r h
  obtain ⟨fx, b, v, d, S, rfl, hd, hs, hdep, hsz, hS, q⟩ := h
  subst hS
  obtain ⟨u, rfl, rx⟩ := vals1 r
  have big : ∀ a, v = .ref a → wpAny (model X.prog X.w) X.A (call (.builtin "repr") [u]) (EP X pins σ Q) X.xe s := by
    rintro a rfl
    cases (show u = Value.ref a from rx)
    obtain ⟨as, rd, h1, h2⟩ := Dg.reads I hd rfl
    refine repr_of_reads' rd hs (fun z hm => ?_) hg (by omega) (fun _ _ e => e) (fun h' u tk hk => ?_) hsz
    · cases b with
      | true =>
        rw [h1 rfl] at z
        cases z
      | false => exact h2 rfl hm
    · exact ⟨.str d.shown, H, I.kept hk, ⟨_, rfl⟩, q⟩
  cases hd with
  | non =>
    cases (show u = Value.none from rx)
    exact P.repr_of_none ⟨.str _, H, I.tok _, ⟨_, rfl⟩, q⟩
  | bl x =>
    cases (show u = Value.bool x from rx)
    refine P.repr_of_bool ⟨.str _, H, I.tok _, ⟨_, rfl⟩, ?_⟩
    cases x <;> exact q
  | int i =>
    obtain ⟨t, rfl⟩ := (show ∃ t, u = Value.int i t from rx)
    exact P.repr_of_int (of_decide_eq_true hs) ⟨.str _, H, I.tok _, ⟨_, rfl⟩, q⟩
  | str x =>
    obtain ⟨t, rfl⟩ := (show ∃ t, u = Value.str x t from rx)
    exact P.repr_of_str ⟨.str _, H, I.tok _, ⟨_, rfl⟩, q⟩ hsz
  | tup h q' => exact big _ rfl
  | lst n h q' => exact big _ rfl
  | dic0 n h => exact big _ rfl
  | dic1 n h => exact big _ rfl
/-! ### a tuple times nought, times one -/
theorem mul_one_meets (l : Addr) (items : Array Value) (n : Nat) (dd : Option Addr) (sl : Array (Option Value)) (u : Tok) :
    Meets (Builtin.«tuple.__mul__» ⟨[.ref l, .int 1 u], []⟩)
      (fun _ R s => s.heap.get? l = some { cls := .type "tuple", dict := dd, data := .seq items n, slots := sl } ∧ R (.ok (.ret (Value.ref l))) s) :=
  .of_wp fun prog w A R s h => by
    obtain ⟨hp, g, d, tk, os⟩ := s
    obtain ⟨hl, h⟩ := h
    have f1 := AutoSeq1.idx_int
    have c1 : (items.isEmpty || (1 : Int) == 1) = true := by simp
    wp_walk using wpAny_loadPart' hl
    repeat (first
      | (refine wpAny_ite_false (decide_eq_false (by decide)) ?_; wp_walk using wpAny_loadPart' hl)
      | (refine wpAny_ite_true (decide_eq_true c1) ?_; wp_walk using wpAny_loadPart' hl))
    exact ⟨_, rfl, h⟩
theorem mul_none_meets (l : Addr) (items : Array Value) (n : Nat) (dd : Option Addr) (sl : Array (Option Value)) (u : Tok) (hi : items.isEmpty = false) :
    Meets (Builtin.«tuple.__mul__» ⟨[.ref l, .int 0 u], []⟩)
      (fun _ R s => s.heap.get? l = some { cls := .type "tuple", dict := dd, data := .seq items n, slots := sl } ∧
        R (.ok (.ret (Value.ref s.heap.objs.size))) { s with heap := s.heap.push { cls := Value.type "tuple", data := Data.seq #[] }, toks := s.toks }) :=
  .of_wp fun prog w A R s h => by
    obtain ⟨hp, g, d, tk, os⟩ := s
    obtain ⟨hl, h⟩ := h
    have f1 := AutoSeq1.idx_int
    have c1 : ¬ (items.isEmpty || (0 : Int) == 1) = true := by rw [hi]; decide
    have c2 : (decide ((0 : Int) ≤ 0) || items.isEmpty) = true := by simp
    wp_walk using wpAny_loadPart' hl
    repeat (first
      | (refine wpAny_ite_false (decide_eq_false (by decide)) ?_; wp_walk using wpAny_loadPart' hl)
      | (refine wpAny_ite_false (decide_eq_false c1) ?_; wp_walk using wpAny_loadPart' hl)
      | (refine wpAny_ite_true (decide_eq_true c2) ?_; wp_walk using wpAny_loadPart' hl))
    exact ⟨_, rfl, h⟩
def rRepA (K : PySem.W.Frag) : R2 := fun x y H Q => ∃ l k xs, x = .ref l ∧ y = .int k ∧ SqT K H l xs ∧ xs ≠ [] ∧ xs.length ≤ 1000 ∧ 0 ≤ k ∧ k ≤ 1000 ∧ ∀ H' p, Same H H' → SqT K H' p (List.replicate k.toNat xs).flatten → Q (.ref p) H'
theorem op_repA {X : Cx} : OpR X (binaryOp .Mult) (rRepA X.K) := by
  intro pins s σ H x y v u Q I rx ry h
  obtain ⟨l, k, xs, rfl, rfl, hT, hne, hz, h0, h1, q⟩ := h
  by_cases h2 : 2 ≤ k
  · exact op_repT pins s σ H _ _ v u Q I rx ry ⟨l, k, xs, rfl, rfl, hT, hne, h2, h1, hz, fun p np => q _ p (same_upd np) (.inl (.inl upd_same))⟩
  · cases rx
    obtain ⟨t, rfl⟩ := ry
    obtain ⟨its, r, ⟨⟨cls, dd, data, sl⟩, ho, hc, n, hd⟩, hs⟩ := I.tuple hT
    simp only at hc hd
    subst hc hd
    rcases (by omega : k = 0 ∨ k = 1) with rfl | rfl
    · have hi : its.toArray.isEmpty = false := by
        cases its with
        | nil =>
          cases r
          exact absurd rfl hne
        | cons a b => rfl
      refine wpAny_binaryOp_repeat_ref (T := "tuple") (U := "int") (by decide) ⟨_, ho, rfl⟩ (fun s' => typeIs_int s' 0 t) noFill_tuple_mul
        F.fills_int_mul F.slot_int_rmul repeat_tuple F.slot_int_index.lookup (call_meets F.slot_int_rmul (typeIs_int s 0 t) F.entry_int_rmul (F.args_int_rmul_2 _ _)
          (int_rmul_tuple 0 t l its.toArray n dd sl) ⟨ho, rfl, ⟨_, ho, rfl⟩, call_meets F.slot_tuple_mul ⟨_, ho, rfl⟩ F.entry_tuple_mul (F.args_tuple_mul_2 _ _) (mul_none_meets l its.toArray n dd sl t hi) ⟨ho, ?_⟩⟩)
      have np := I.hok.fresh (Nat.le_refl s.heap.objs.size)
      refine ⟨.ref s.heap.objs.size, _, I.laid (t' := s.toks) (o := .tup []) (fun b ob e => Heap.get?_push_of_some _ e) (Nat.le_refl _) ?_, rfl, q _ _ (same_upd np) (.inl (.inl upd_same))⟩
      exact ⟨Nat.zero_le _, [], .nil, IsTup.new _ _⟩
    · refine wpAny_binaryOp_repeat_ref (T := "tuple") (U := "int") (by decide) ⟨_, ho, rfl⟩ (fun s' => typeIs_int s' 1 t) noFill_tuple_mul
        F.fills_int_mul F.slot_int_rmul repeat_tuple F.slot_int_index.lookup (call_meets F.slot_int_rmul (typeIs_int s 1 t) F.entry_int_rmul (F.args_int_rmul_2 _ _)
          (int_rmul_tuple 1 t l its.toArray n dd sl) ⟨ho, rfl, ⟨_, ho, rfl⟩, call_meets F.slot_tuple_mul ⟨_, ho, rfl⟩ F.entry_tuple_mul (F.args_tuple_mul_2 _ _) (mul_one_meets l its.toArray n dd sl t) ⟨ho, ?_⟩⟩)
      refine ⟨.ref l, H, I, rfl, q _ _ (Same.refl _) ?_⟩
      show SqT X.K H l (List.replicate 1 xs).flatten
      rw [show (List.replicate 1 xs).flatten = xs by simp]
      exact hT
theorem mkT {K : PySem.W.Frag} {fx : Hp} {p : Addr} {H : Hp} {b : Bool} {vs : List V} {ds : List PyData} (np : H p = none) (h : DgAll K fx H b vs ds) : Dg K fx (upd H p (.tup vs)) b (.ref p) (.tuple ds) := .tup (.inl (.inl upd_same)) (h.sm (same_upd np))
theorem mkL {K : PySem.W.Frag} {fx : Hp} {p : Addr} {H : Hp} {vs : List V} {ds : List PyData} (hf : fx p = none) (np : H p = none) (h : DgAll K fx H true vs ds) : Dg K fx (upd H p (.lst vs)) true (.ref p) (.list ds) := .lst hf upd_same (h.sm (same_upd np))
theorem RowAt.dg {K : PySem.W.Frag} {fx : Hp} {H : Hp} {b : Bool} {v : V} {r : RW} : RowAt K H v r → Dg K fx H b v (rwD r) := by
  rintro ⟨p, rfl, h⟩
  exact .tup h (.cons (.int _) (.cons (.int _) .nil))
theorem rows_dg {K : PySem.W.Frag} {fx : Hp} {H : Hp} {b : Bool} : ∀ {vs : List V} {rs : List RW}, Paired (RowAt K H) vs rs → DgAll K fx H b vs (rs.map rwD)
  | _, _, .nil => .nil
  | _, _, .cons r t => .cons r.dg (rows_dg t)
theorem bk_dg {K : PySem.W.Frag} {fx : Hp} {H : Hp} {b : Bool} (o : Option Int) : Dg K fx H b (bkV o) (bkD o) := by
  cases o with
  | none => exact .non
  | some i => exact .int i
theorem rq_row {r : RW} (h : VRow r) : RQ 2 1000 (rwD r) := by
  obtain ⟨h1, h2, h3, h4⟩ := h
  refine (RQ.tup (k := 0) (w := 100) (n := 202) (fun e he => ?_) (by show 2 * 101 ≤ 202; decide)).more (by decide) (by decide)
  have : e = .int r.1 ∨ e = .int r.2 := by simpa using he
  rcases this with rfl | rfl <;> exact RQ.int (Nat.lt_of_le_of_lt (show _ ≤ 100 by omega) (by decide))
theorem rq_bk {rs : List RW} {bk : Option Int} (v8 : rs.length ≤ 8) (h : VBack rs bk) : RQ 0 100 (bkD bk) := by
  cases bk with
  | none => exact RQ.non
  | some i =>
    have := h i rfl
    exact RQ.int (Nat.lt_of_le_of_lt (show _ ≤ 100 by omega) (by decide))
theorem rq_small {i : Int} (h : -1000 ≤ i ∧ i ≤ 1000) : RQ 0 100 (.int i) := RQ.int (Nat.lt_of_le_of_lt (show _ ≤ 1000 by omega) (by decide))
/-- what is told of rows and a back -/
theorem rq_top {ds : List PyData} {e : PyData} (h : ∀ x ∈ ds, RQ 2 1000 x) (hl : ds.length ≤ 10) (he : RQ 0 100 e) : RQ 5 40000 (.tuple [.tuple ds, e]) := by
  refine (RQ.tup (k := 3) (w := 10010) (n := 40000) (fun x hx => ?_) (by show 2 * 10011 ≤ 40000; decide)).more (by decide) (by decide)
  have : x = .tuple ds ∨ x = e := by simpa using hx
  rcases this with rfl | rfl
  · exact RQ.tup (k := 2) (w := 1000) h (by omega)
  · exact he.more (by decide) (by decide)
theorem MoveAt.dg {K : PySem.W.Frag} {fx : Hp} {H : Hp} {b : Bool} {v : V} {m : MV} : MoveAt K H v m → Dg K fx H b v (mvD m) := by
  rintro ⟨p, rfl, h⟩
  exact .tup h (.cons (.int _) (.cons (.int _) (.cons (.int _) .nil)))
theorem moves_dg {K : PySem.W.Frag} {fx : Hp} {H : Hp} {b : Bool} : ∀ {vs : List V} {ms : List MV}, Paired (MoveAt K H) vs ms → DgAll K fx H b vs (ms.map mvD)
  | _, _, .nil => .nil
  | _, _, .cons r t => .cons r.dg (moves_dg t)
theorem WinAt.dg {K : PySem.W.Frag} {fx : Hp} {H : Hp} {b : Bool} {v : V} {x y : Int} {ms : List MV} : WinAt K H v x y ms → Dg K fx H b v (winD x y ms) := by
  rintro ⟨p, mv, rfl, h, pm, vs, rfl, hq, pd⟩
  exact .tup h (.cons (.int _) (.cons (.int _) (.cons (.tup hq (moves_dg pd)) .nil)))
theorem LyAt.dg {K : PySem.W.Frag} {fx : Hp} {H : Hp} {b : Bool} {v : V} {l : LY} : LyAt K H v l → Dg K fx H b v (lyD l) := by
  rintro ⟨p, rv, rfl, h, pr, vs, rfl, hq, pd⟩
  exact .tup h (.cons (.tup hq (rows_dg pd)) (.cons (bk_dg _) .nil))
theorem lays_dg {K : PySem.W.Frag} {fx : Hp} {H : Hp} {b : Bool} : ∀ {vs : List V} {ls : List LY}, Paired (LyAt K H) vs ls → DgAll K fx H b vs (ls.map lyD)
  | _, _, .nil => .nil
  | _, _, .cons r t => .cons r.dg (lays_dg t)
theorem rq_mv {m : MV} (h : VMove m) : RQ 2 1000 (mvD m) := by
  obtain ⟨h1, h2, h3, h4⟩ := h
  refine (RQ.tup (k := 0) (w := 100) (n := 303) (fun e he => ?_) (by show 3 * 101 ≤ 303; decide)).more (by decide) (by decide)
  have : e = .int m.1 ∨ e = .int m.2.1 ∨ e = .int m.2.2 := by simpa using he
  rcases this with rfl | rfl | rfl <;> exact rq_small ⟨by omega, by omega⟩
theorem rq_ly {l : LY} (h : VLy l) : RQ 4 19000 (lyD l) := by
  obtain ⟨⟨h8, hr⟩, hb⟩ := h
  refine (RQ.tup (k := 3) (w := 9000) (n := 19000) (fun x hx => ?_) (by show 2 * 9001 ≤ 19000; decide)).more (by decide) (by decide)
  have : x = .tuple (l.1.map rwD) ∨ x = bkD l.2 := by simpa using hx
  rcases this with rfl | rfl
  · refine (RQ.tup (k := 2) (w := 1000) (n := 9000) (fun x hx => ?_) ?_)
    · obtain ⟨r, hm, rfl⟩ := List.mem_map.mp hx
      exact rq_row (hr r hm)
    · rw [List.length_map]
      omega
  · exact (rq_bk h8 hb).more (by decide) (by decide)
/-- three of a window, the last the moves -/
theorem rq_win {ds : List PyData} {e f : PyData} (h : ∀ x ∈ ds, RQ 2 1000 x) (hl : ds.length ≤ 10) (he : RQ 2 1000 e) (hf : RQ 2 1000 f) : RQ 5 40000 (.tuple [e, f, .tuple ds]) := by
  refine (RQ.tup (k := 3) (w := 10010) (n := 40000) (fun x hx => ?_) (by show 3 * 10011 ≤ 40000; decide)).more (by decide) (by decide)
  have : x = e ∨ x = f ∨ x = .tuple ds := by simpa using hx
  rcases this with rfl | rfl | rfl
  · exact he.more (by decide) (by decide)
  · exact hf.more (by decide) (by decide)
  · exact RQ.tup (k := 2) (w := 1000) h (by omega)
theorem lay_true {l : LY} (h : VLy l) : isLayD (lyD l) = true := by
  obtain ⟨⟨h8, hr⟩, hb⟩ := h
  show (decide ((l.1.map rwD).length ≤ 8) && (l.1.map rwD).all isRowD && bkOk (bkD l.2) (((l.1.map rwD).length : Int) - 1)) = true
  rw [List.length_map, decide_eq_true h8, Bool.true_and, Bool.and_eq_true]
  constructor
  · rw [List.all_eq_true]
    intro x hx
    obtain ⟨r, hm, rfl⟩ := List.mem_map.mp hx
    obtain ⟨h1, h2, h3, h4⟩ := hr r hm
    show (decide (0 ≤ r.1 ∧ r.1 ≤ 9) && decide (1 ≤ r.2 ∧ r.2 ≤ 24)) = true
    rw [decide_eq_true ⟨h1, h2⟩, decide_eq_true ⟨h3, h4⟩]
    rfl
  · cases e : l.2 with
    | none => rfl
    | some i =>
      have := hb i e
      show decide (0 ≤ i ∧ i ≤ (l.1.length : Int) - 1) = true
      exact decide_eq_true ⟨by omega, by omega⟩
theorem win_true {x y : Int} {ms : List MV} (h : VWin x y ms) : isWinD (winD x y ms) = true := by
  obtain ⟨hx, hy, h8, hm⟩ := h
  show (isSpotD (.int x) (.int y) && decide ((ms.map mvD).length ≤ 8) && (ms.map mvD).all isMoveD) = true
  rw [List.length_map, decide_eq_true h8]
  have e1 : isSpotD (.int x) (.int y) = true := by
    show (decide (-20 ≤ x ∧ x ≤ 20) && decide (-20 ≤ y ∧ y ≤ 20)) = true
    rw [decide_eq_true hx, decide_eq_true hy]
    rfl
  rw [e1, Bool.true_and, Bool.true_and, List.all_eq_true]
  intro d hd
  obtain ⟨m, hmm, rfl⟩ := List.mem_map.mp hd
  obtain ⟨h1, h2, h3, h4⟩ := hm m hmm
  show ((decide (-20 ≤ m.1 ∧ m.1 ≤ 20) && decide (-20 ≤ m.2.1 ∧ m.2.1 ≤ 20)) && decide (0 ≤ m.2.2 ∧ m.2.2 ≤ 24)) = true
  rw [decide_eq_true h1, decide_eq_true h2, decide_eq_true ⟨h3, h4⟩]
  rfl
theorem lays_true {ls : List LY} (h : ∀ l ∈ ls, VLy l) : (ls.map lyD).all isLayD = true := by
  rw [List.all_eq_true]
  intro d hd
  obtain ⟨l, hl, rfl⟩ := List.mem_map.mp hd
  exact lay_true (h l hl)

/-! ### methods of the program's own classes, also such as refuse -/
def MForm (X : Cx) (o : Expr) (m : Str) (es : List Expr) (apos pos : Pos) (pl : Sem Bool) : Prop :=
  eval (.Call (.Attribute o m apos) es [] pos) X.env = (do let ov ← eval o X.env; standAt apos.atName; let (f, first) ← holding [ov] (getMethod ov m pl); callWith pos f first (backTo pos (starEach es X.env)) (backToKw pos (keywordEach [] X.env)))
structure Ml (P : Program) (w : World) (K : PySem.W.Frag) (mg : Str → Option Value) (base : Heap) (k : Nat) (C : Addr) (m : Str) (ps : List Str) (sp : Sp) : Prop where
  ex : ∃ (f : Addr) (fd : FuncData), FnOk P w K mg base CX0 k f fd ps sp ∧ Binds K fd ps [] ∧ Meth K C m f
structure MlX (P : Program) (w : World) (K : PySem.W.Frag) (mg : Str → Option Value) (base : Heap) (k : Nat) (C : Addr) (m : Str) (ps : List Str) (sp : Sp) : Prop where
  ex : ∃ (f : Addr) (fd : FuncData), FnOk P w K mg base (L2.CX P w) k f fd ps sp ∧ Binds K fd ps [] ∧ Meth K C m f
structure Mi (P : Program) (w : World) (K : PySem.W.Frag) (mg : Str → Option Value) (base : Heap) (k : Nat) (C : Addr) (x : Str) (ps : List Str) (sp : Sp) : Prop where
  ex : ∃ (f : Addr) (fd : FuncData), FnOk P w K mg base CX0 k f fd ps sp ∧ Binds K fd ps [] ∧ Mk K C f ∧ mg x = some (.ref C)
def tMthX (C : Addr) (m : Str) (sp : Sp) (E : L2.St → XK) (ta : TE) (t : TA) : TE := fun σ H Q => ta σ H fun x H1 => ∃ a dx fs, x = .ref a ∧ H1 a = some (.ins C dx fs) ∧ fs.lookup m = none ∧ t σ H1 fun vs H2 => sp ((x :: vs) ++ []) H2 Q (E σ)
section
variable {X : Cx} {k : Nat} {C : Addr} {m x : Str} {ps : List Str} {sp : Sp} {W : WX} {o e : Expr} {es : List Expr} {ta : TE} {t : TA} {p apos pos : Pos} {pl : Sem Bool}
theorem pe_mth (D : Ml X.prog X.w X.K X.mg X.base k C m ps sp) (c : Cls X.K C) (hr : Room k X.A) (he : PE X o ta) (ha : PA X (e :: es) t)
    (hst : starEach (e :: es) X.env = (false, eval e X.env) :: starEach es X.env := by rfl) (hpl : (backTo pos (starEach es X.env)).any (·.1) = false := by rfl) (ht : MForm X o m (e :: es) apos pos pl := by rfl) :
    PE X (.Call (.Attribute o m apos) (e :: es) [] pos) (tMeth C m sp [] E0 ta t) := by
  obtain ⟨f, fd, F, hb, hm⟩ := D.ex
  exact pe_meth (pl := pl) he c hm F hr hb .nil pass0 ha hst hpl ht
theorem pe_mth0 (D : Ml X.prog X.w X.K X.mg X.base k C m ps sp) (c : Cls X.K C) (hr : Room k X.A) (he : PE X o ta) (ht : MForm X o m [] apos pos pl := by rfl) :
    PE X (.Call (.Attribute o m apos) [] [] pos) (tMeth C m sp [] E0 ta tNil) := by
  obtain ⟨f, fd, F, hb, hm⟩ := D.ex
  exact pe_meth0 (pl := pl) he c hm F hr hb .nil pass0 ht
theorem pe_mthX (D : MlX X.prog X.w X.K X.mg X.base k C m ps sp) (c : Cls X.K C) (hr : Room k X.A) (tk : Takes X W) (he : PE X o ta) (ha : PA X (e :: es) t)
    (hst : starEach (e :: es) X.env = (false, eval e X.env) :: starEach es X.env := by rfl) (hpl : (backTo pos (starEach es X.env)).any (·.1) = false := by rfl) (ht : MForm X o m (e :: es) apos pos pl := by rfl) :
    PE X (.Call (.Attribute o m apos) (e :: es) [] pos) (tMthX C m sp (WE W) ta t) := by
  obtain ⟨f, fd, F, hb, hm⟩ := D.ex
  refine ⟨fun pins s σ H Q I h => ?_⟩
  refine PySem.W.methodCall_KW (pl := pl) (thn (he.run pins s σ H _ I h) fun u s1 ⟨x, H1, I1, rx, a, dx, fs, ex, ea, l, q⟩ => ?_) ht
  subst ex
  obtain rfl : u = Value.ref a := rx
  refine getmeth_ok I1 ea c hm l ?_
  refine PySem.W.callWith_K (first := [.ref a]) (h₀ := X.base) I.ok.mod.kin hm.kp (thn (ha.run pos pins s1 σ H1 _ I1 q) fun us s2 h2 => ?_) hst hpl
  obtain ⟨vs, H2, I2, r, q2⟩ := h2
  exact ⟨I2.kIn, run_fnSD (us := .ref a :: us) (vs := .ref a :: vs) (dvs := []) (ds := []) (E := WE W) F hr hb .nil (passAt tk σ) I2 (.cons rfl r) q2⟩
theorem pe_mthX0 (D : MlX X.prog X.w X.K X.mg X.base k C m ps sp) (c : Cls X.K C) (hr : Room k X.A) (tk : Takes X W) (he : PE X o ta) (ht : MForm X o m [] apos pos pl := by rfl) :
    PE X (.Call (.Attribute o m apos) [] [] pos) (tMthX C m sp (WE W) ta tNil) := by
  obtain ⟨f, fd, F, hb, hm⟩ := D.ex
  refine ⟨fun pins s σ H Q I h => ?_⟩
  refine PySem.W.methodCall_KW (pl := pl) (thn (he.run pins s σ H _ I h) fun u s1 h1 => ?_) ht
  obtain ⟨x, H1, I1, rx, a, dx, fs, ex, ea, l, q⟩ := h1
  subst ex
  obtain rfl : u = Value.ref a := rx
  refine getmeth_ok I1 ea c hm l ?_
  exact PySem.W.callWith_K0 (first := [.ref a]) I1.kIn hm.kp (run_fnSD (us := [.ref a]) (vs := [.ref a]) (dvs := []) (ds := []) (E := WE W) F hr hb .nil (passAt tk σ) I1 (.cons rfl .nil) q)
theorem pe_new (D : Mi X.prog X.w X.K X.mg X.base k C x ps sp) (hr : Room (k + 1) X.A) (hg : Gl X x) (hdb : (x == ("__debug__" : Str)) = false := by decide) : PE X (.Call (.Name x p) [] [] pos) (tMake C sp [] E0 tNil) := by
  obtain ⟨f, fd, F, hb, hM, hm⟩ := D.ex
  exact pe_make0 hM F hr hg hm hb .nil pass0 hdb
end

/-! ### a written dict, a dict copied, a tuple unpacked with a star -/
section
variable {X : Cx} {d : Addr}
theorem kd_notIn (h : ∃ es n, KDict X.K X.w d es n) : OpR X (compareOp .NotIn) (fun x y H Q => ∃ (z : Str) (r : Option Value), x = .str z ∧ y = .ref d ∧ PySem.W.nsIn X.K d z = some r ∧ Q (.bl (!r.isSome)) H) := by
  obtain ⟨es, n, D⟩ := h
  exact op_notIn_kd D
theorem kd_item (h : ∃ es n, KDict X.K X.w d es n) : IxR X (fun x y H Q => ∃ (z : Str) (u0 : Value) (v0 : V), x = .ref d ∧ y = .str z ∧ PySem.W.nsIn X.K d z = some (some u0) ∧ RelV v0 u0 ∧ Q v0 H) := by
  obtain ⟨es, n, D⟩ := h
  intro value slice pins s σ H x y v u Q I rx ry h hs
  obtain ⟨z, u0, v0, rfl, rfl, e, r, q⟩ := h
  cases rx
  obtain ⟨t, rfl⟩ := ry
  exact subscriptTail_builtinR (x := u0) (kd_type D I) F.slot_dict_getitem.lookup
    (wpAny_getItem_of (Q := fun r s' => r = u0 ∧ EP X pins σ Q r s') (PySem.strKind_is X.prog X.w z t) (PySem.W.mapOf_K (prog := X.prog) I.kIn D.at_ D.lit) (PySem.W.find_K D.at_ e) ⟨rfl, v0, H, I.tok _, r, q⟩) hs
theorem call_dictC : CallR X (.type "dict") (fun xs H Q => ∃ a kvs, xs = [.ref a] ∧ H a = some (.dK kvs) ∧ ∀ p, H p = none → Q (.ref p) (upd H p (.dK kvs))) := by
  intro pins s σ H xs us Q I r h
  obtain ⟨a, kvs, rfl, ha, q⟩ := h
  cases r with
  | cons r1 rs =>
    cases rs
    cases r1
    exact d_copyOf I (.inl ha) fun p s' np I' => ⟨.ref p, _, I', rfl, q p np⟩
theorem walksTail {prog : Program} {w : World} {A : Around} {I : Addr} {fp wr : List Addr} {n : Nat} {P : Nat → Value → Prop} {St : Nat → Heap → Prop} (W : Walks prog w A I fp wr (n + 1) P St) : Walks prog w A I fp wr n (fun i v => P (i + 1) v) (fun i h => St (i + 1) h) where
  sub := W.sub
  frame := fun i => W.frame (i + 1)
  item := fun i s Q E hi => W.item (i + 1) s Q E (by omega)
  done := W.done
  self := fun i => W.self (i + 1)
def gStar (K : PySem.W.Frag) (g1 g2 : TG) : TG := fun v σ H Q => ∃ a x xs, v = .ref a ∧ SqT K H a (x :: xs) ∧ xs.length ≤ 1000 ∧ ∀ p, H p = none → g1 x σ (upd H p (.lst xs)) fun σ1 H1 => g2 (.ref p) σ1 H1 Q
theorem pg_star {t1 t2 : Expr} {p2 pos : Pos} {k : Nat} {g1 g2 : TG} (hc : X.calm = true) (h1 : PG X t1 g1) (h2 : PG X t2 g2)
    (ha : assignEach [t1, .Starred t2 p2] X.env = [(false, assign t1 X.env), (true, assign t2 X.env)] := by rfl) : PG X (.Tuple [t1, .Starred t2 p2] k pos) (gStar X.K g1 g2) := by
  refine ⟨fun pins s σ H v u Q I r hw => ?_⟩
  obtain ⟨a, x, xs, e1, hq, hlen, hw⟩ := hw
  subst e1
  cases r
  obtain ⟨its, rv, ht, hz⟩ := I.tuple hq
  obtain ⟨u0, us, rfl, rx, rxs⟩ : ∃ u0 us, its = u0 :: us ∧ RelV x u0 ∧ Vals xs us := by
    cases rv with
    | cons r1 rs => exact ⟨_, _, rfl, r1, rs⟩
  have hsz : ((u0 :: us).toArray).size = us.length + 1 := by simp
  rw [assign_Tuple]
  refine wpAny_bind (wpAny_standAt ?_)
  unfold unpack
  rw [ha]
  show wpAny _ _ (holding [Value.ref a] (unpackItems (.ref a) 2 (some 1)) >>= fun r => assignInOrder [assign t1 X.env, assign t2 X.env] r) _ _ _
  refine wpAny_bind (wpAny_holding ?_)
  have hlt : a ≠ s.heap.objs.size := by obtain ⟨o, ho, _⟩ := ht; exact Nat.ne_of_lt (Heap.lt_size ho)
  unfold unpackItems
  refine wpAny_bind ?_
  unfold notIterableAtAll
  refine wpAny_bind (wpAny_specialOf ht.typeIs slot_tuple_iter.lookup ?_)
  refine wpAny_pure ?_
  simp only [Bool.false_eq_true, if_false]
  refine wpAny_bind (wpAny_holding (iter_tuple ht ?_))
  have hs0 : ((u0 :: us).toArray.toList.drop 0).take 1 = [u0] := rfl
  refine wpAny_bind (wpAny_holding (draw_tuple hlt 1 0 _ _ ⟨_, Heap.get?_push_size _ rfl, rfl, rfl⟩ (ht.push _) (by rw [hsz]; omega) fun h₁ hit₁ hs₁ => ?_))
  rw [hs0, if_neg (by simp)]
  have W : Walks X.prog X.w X.A.in1 s.heap.objs.size [s.heap.objs.size, a] [s.heap.objs.size] (us.length + 1) (fun i v => ((u0 :: us).toArray)[i]? = some v) (fun i h => h.IsTupleIter s.heap.objs.size a i ∧ h.IsTuple a (u0 :: us).toArray) := by
    have W0 := Walks.tuple (prog := X.prog) (w := X.w) (A := X.A.in1) (I.ok.hd hc) s.heap.objs.size a hlt (u0 :: us).toArray
    rw [hsz] at W0
    exact W0
  have ht₁ : IsTup h₁ a (u0 :: us).toArray := (ht.push _).extBut hs₁.extBut hlt
  refine wpAny_bind (wpAny_holding ?_)
  have hlu : us.length = xs.length := rxs.length.symm
  refine wpAny_collect_iter (T := "tuple_iterator") (.inr (.inr (.inr rfl))) (walksTail W).toS (fun i s st => ?_) ⟨hit₁, ht₁⟩ (fun b hb => ?_) (by simp) (fun s' acc hm hi => ?_) (Nat.le_trans (by omega : us.length ≤ 1000) (by decide))
  · obtain ⟨o, ho, hcl, _⟩ := st.1
    exact ⟨o, ho, hcl⟩
  · have hb' : b = s.heap.objs.size ∨ b = a := by simpa using hb
    rcases hb' with rfl | rfl
    · obtain ⟨o, ho, _⟩ := hit₁
      exact Heap.lt_size ho
    · obtain ⟨o, ho, _⟩ := ht₁
      exact Heap.lt_size ho
  rw [Moved.eq_with hm]
  have eacc : acc.toList = us := by
    obtain ⟨e1, e2⟩ := hi
    refine List.ext_getElem? fun j => ?_
    by_cases hj : j < acc.size
    · have h3 := e2 j acc[j] (by simp [hj])
      have h4 : us[j]? = some acc[j] := by
        have : ((u0 :: us).toArray)[j + 1]? = some acc[j] := h3
        simpa using this
      rw [h4]
      simp [hj]
    · rw [List.getElem?_eq_none (by simpa using hj), List.getElem?_eq_none (by omega)]
  rw [eacc]
  have kp : ∀ b u, s.heap.get? b = some u → s'.heap.get? b = some u := fun b u e => hm.heap b u (by simp; exact Nat.ne_of_lt (Heap.lt_size e)) (hs₁.extBut b u (Nat.ne_of_lt (Heap.lt_size e)) (Heap.get?_push_of_some _ e))
  have I1 : Inv X pins σ H { s with heap := s'.heap, toks := s'.toks } := I.kept kp
  show wpAny _ _ (if us.length < 0 then _ else newList (us.take (us.length - 0)) >>= fun l => pure ([u0] ++ [l] ++ us.drop (us.length - 0))) _ _ _
  rw [if_neg (Nat.not_lt_zero _), Nat.sub_zero, List.take_length, List.drop_length]
  refine wpAny_bind (wpAny_newObj_type ?_)
  refine wpAny_pure ?_
  have I2 : Inv X pins σ (upd H s'.heap.objs.size (.lst xs)) { s with heap := s'.heap.push { cls := .type "list", data := .seq us.toArray }, toks := s'.toks } :=
    I1.laid (t' := s'.toks) (o := .lst xs) (fun b ob q => Heap.get?_push_of_some _ q) (Nat.le_refl _) ⟨Nat.le_trans hlen (by decide), us, 0, rxs, Heap.get?_push_size _ rfl⟩
  have hp : H s'.heap.objs.size = none := I1.hok.fresh (Nat.le_refl _)
  show wpAny _ _ (holding [Value.ref s'.heap.objs.size] (assign t1 X.env u0) >>= fun _ => (holding [] (assign t2 X.env (.ref s'.heap.objs.size)) >>= fun _ => pure ())) _ _ _
  refine wpAny_bind (wpAny_holding (thn (h1.run pins _ σ _ x u0 _ I2 rx (hw _ hp)) fun _ s3 h3 => ?_))
  obtain ⟨σ1, H1, I3, q3⟩ := h3
  refine wpAny_bind (wpAny_holding (thn (h2.run pins s3 σ1 H1 (.ref s'.heap.objs.size) _ Q I3 rfl q3) fun _ s4 h4 => ?_))
  exact wpAny_pure h4
end
theorem pe_fldK {X : Cx} {K : PySem.W.Frag} {e : Expr} {f : Str} {ta : TE} {pos : Pos} (he : PE X e ta) (hb : attributeBase e f X.env (eval e X.env) = eval e X.env) (hK : X.K = K := by rfl) : PE X (.Attribute e f pos) (tFld K ta f) := by
  subst hK
  exact pe_fld he hb

/-! ### tables by whole numbers -/
section
variable {α : Type}
def asV (l : List (Int × α)) (k : Int) : Option α := (l.find? fun kv => decide (kv.1 = k)).map (·.2)
def asPut (l : List (Int × α)) (k : Int) (v : α) : List (Int × α) := if (l.any fun kv => decide (kv.1 = k)) = true then l.map (fun kv => if kv.1 = k then (kv.1, v) else kv) else l ++ [(k, v)]
def asDrop (l : List (Int × α)) (k : Int) : List (Int × α) := l.filter fun kv => decide (kv.1 ≠ k)
/-- a dict whose keys are the numbers, its values as Pv tells -/
def AsP (Pv : V → α → Prop) (kvs : List (Key × V)) (l : List (Int × α)) : Prop := Paired (fun (kv : Key × V) (r : Int × α) => kv.1 = Sum.inl r.1 ∧ Pv kv.2 r.2) kvs l
variable {Pv : V → α → Prop}
theorem inl_iff {a : Key} {r k : Int} (h : a = Sum.inl r) : (a = Sum.inl k) ↔ r = k := by
  subst h
  constructor
  · intro e
    injection e
  · intro e
    rw [e]
theorem AsP.val {kvs : List (Key × V)} {l : List (Int × α)} (h : AsP Pv kvs l) (k : Int) : (asV l k = none ∧ valV kvs (Sum.inl k) = none) ∨ ∃ x v, asV l k = some x ∧ valV kvs (Sum.inl k) = some v ∧ Pv v x := by
  induction h with
  | nil => exact .inl ⟨rfl, rfl⟩
  | @cons kv r kvs l h t ih =>
    by_cases e : r.1 = k
    · right
      refine ⟨r.2, kv.2, ?_, valV_pos ((inl_iff h.1).mpr e), h.2⟩
      unfold asV
      rw [List.find?_cons_of_pos (by simp [e])]
      rfl
    · have e1 : asV (r :: l) k = asV l k := by
        unfold asV
        rw [List.find?_cons_of_neg (by simp [e])]
      rw [e1, valV_neg fun z => e ((inl_iff h.1).mp z)]
      exact ih
theorem AsP.any {kvs : List (Key × V)} {l : List (Int × α)} (h : AsP Pv kvs l) (k : Int) : (kvs.any fun kv => decide (kv.1 = Sum.inl k)) = (l.any fun kv => decide (kv.1 = k)) := by
  induction h with
  | nil => rfl
  | @cons kv r kvs l h t ih =>
    show (decide (kv.1 = Sum.inl k) || _) = (decide (r.1 = k) || _)
    rw [ih]
    congr 1
    exact decide_eq_decide.mpr (inl_iff h.1)
theorem AsP.mapP {kvs : List (Key × V)} {l : List (Int × α)} (h : AsP Pv kvs l) {k : Int} {v : V} {x : α} (hv : Pv v x) : AsP Pv (kvs.map fun kv => if kv.1 = Sum.inl k then (kv.1, v) else kv) (l.map fun kv => if kv.1 = k then (kv.1, x) else kv) := by
  induction h with
  | nil => exact .nil
  | @cons kv r kvs l h t ih =>
    refine .cons ?_ ih
    dsimp only
    by_cases e : r.1 = k
    · rw [if_pos ((inl_iff h.1).mpr e), if_pos e]
      exact ⟨h.1, hv⟩
    · rw [if_neg fun z => e ((inl_iff h.1).mp z), if_neg e]
      exact h
theorem AsP.put {kvs : List (Key × V)} {l : List (Int × α)} (h : AsP Pv kvs l) {k : Int} {v : V} {x : α} (hv : Pv v x) : AsP Pv (putK kvs (Sum.inl k) v) (asPut l k x) := by
  unfold putK asPut
  rw [AsP.any h]
  split
  · exact AsP.mapP h hv
  · exact Paired.snocP h ⟨rfl, hv⟩
theorem AsP.drop {kvs : List (Key × V)} {l : List (Int × α)} (h : AsP Pv kvs l) (k : Int) : AsP Pv (dropK kvs (Sum.inl k)) (asDrop l k) := by
  unfold dropK asDrop
  induction h with
  | nil => exact .nil
  | @cons kv r kvs l h t ih =>
    by_cases e : r.1 = k
    · rw [List.filter_cons_of_neg (by simpa using (inl_iff h.1).mpr e), List.filter_cons_of_neg (by simpa using e)]
      exact ih
    · rw [List.filter_cons_of_pos (by simpa using fun z => e ((inl_iff h.1).mp z)), List.filter_cons_of_pos (by simpa using e)]
      exact .cons h ih
theorem AsP.mono {Pw : V → α → Prop} {kvs : List (Key × V)} {l : List (Int × α)} (f : ∀ v x, Pv v x → Pw v x) (h : AsP Pv kvs l) : AsP Pw kvs l := Paired.mono h fun _ _ z => ⟨z.1, f _ _ z.2⟩
theorem AsP.len {kvs : List (Key × V)} {l : List (Int × α)} (h : AsP Pv kvs l) : kvs.length = l.length := Paired.length h
theorem asPut_len {l : List (Int × α)} {k : Int} {x : α} : (asPut l k x).length ≤ l.length + 1 := by
  unfold asPut
  split
  · rw [List.length_map]; omega
  · rw [List.length_append]; exact Nat.le_refl _
theorem asDrop_len {l : List (Int × α)} {k : Int} : (asDrop l k).length ≤ l.length := List.length_filter_le _ _
end
/-! ### deeds, what they make -/
inductive Dd where
  | layer : Dd
  | row : Int → Int → Int → Dd
  | draw : Int → Int → Dd
  | hold : Int → Int → Dd
  | drop : Int → Dd
  | round : Int → Dd
  | straight : Int → Dd
  | move : Int → Int → Int → Dd
deriving DecidableEq
def Dd.word : Dd → Str
  | .layer => "layer"
  | .row _ _ _ => "row"
  | .draw _ _ => "draw"
  | .hold _ _ => "hold"
  | .drop _ => "drop"
  | .round _ => "round"
  | .straight _ => "straight"
  | .move _ _ _ => "move"
def Dd.nums : Dd → List Int
  | .layer => []
  | .row l d h => [l, d, h]
  | .draw r d => [r, d]
  | .hold r h => [r, h]
  | .drop r => [r]
  | .round r => [r]
  | .straight l => [l]
  | .move x y m => [x, y, m]
def ddV (δ : Dd) : List V := .str δ.word :: δ.nums.map V.int
def ddD (δ : Dd) : PyData := .tuple (.str δ.word :: δ.nums.map .int)
def DeedAt (K : PySem.W.Frag) (H : Hp) (v : V) (δ : Dd) : Prop := ∃ p, v = .ref p ∧ SqT K H p (ddV δ)
theorem DeedAt.keep {K : PySem.W.Frag} {H H' : Hp} {v : V} {δ : Dd} (t : TKeep K H H') (h : DeedAt K H v δ) : DeedAt K H' v δ := by
  obtain ⟨p, e, hp⟩ := h
  exact ⟨p, e, t _ _ hp⟩
abbrev T3 := Int × Int × Int
def T3At (K : PySem.W.Frag) (H : Hp) (v : V) (x : T3) : Prop := ∃ p, v = .ref p ∧ SqT K H p [.int x.1, .int x.2.1, .int x.2.2]
theorem T3At.keep {K : PySem.W.Frag} {H H' : Hp} {v : V} {x : T3} (t : TKeep K H H') (h : T3At K H v x) : T3At K H' v x := by
  obtain ⟨p, e, hp⟩ := h
  exact ⟨p, e, t _ _ hp⟩
structure MS where
  layers : List Int
  rows : List (Int × T3)
  backs : List (Int × Option Int)
  moves : List MV
def MS.nil : MS := ⟨[], [], [], []⟩
def MS.small (S : MS) (n : Nat) : Prop := S.layers.length ≤ n ∧ S.rows.length ≤ n ∧ S.backs.length ≤ n ∧ S.moves.length ≤ n
/-- what becomes of it behind a deed -/
def fol (S : MS) (n : Int) : Dd → MS
  | .layer => { S with layers := S.layers ++ [n] }
  | .row l d h => { S with rows := asPut S.rows n (l, d, h) }
  | .draw r d => match asV S.rows r with | some x => { S with rows := asPut S.rows r (x.1, d, x.2.2) } | none => S
  | .hold r h => match asV S.rows r with | some x => { S with rows := asPut S.rows r (x.1, x.2.1, h) } | none => S
  | .drop r => { S with rows := asDrop S.rows r }
  | .round r => match asV S.rows r with | some x => { S with backs := asPut S.backs x.1 (some r) } | none => S
  | .straight l => { S with backs := asPut S.backs l none }
  | .move x y m => { S with moves := S.moves ++ [(x, y, m)] }
/-- the row that a deed names stands -/
def rowOk (S : MS) : Dd → Prop
  | .draw r _ => (asV S.rows r).isSome = true
  | .hold r _ => (asV S.rows r).isSome = true
  | .drop r => (asV S.rows r).isSome = true
  | .round r => (asV S.rows r).isSome = true
  | _ => True
theorem fol_draw {S : MS} {n r d : Int} {x : T3} (e : asV S.rows r = some x) : fol S n (.draw r d) = { S with rows := asPut S.rows r (x.1, d, x.2.2) } := by
  show (match asV S.rows r with | some x => { S with rows := asPut S.rows r (x.1, d, x.2.2) } | none => S) = _
  rw [e]
theorem fol_hold {S : MS} {n r h : Int} {x : T3} (e : asV S.rows r = some x) : fol S n (.hold r h) = { S with rows := asPut S.rows r (x.1, x.2.1, h) } := by
  show (match asV S.rows r with | some x => { S with rows := asPut S.rows r (x.1, x.2.1, h) } | none => S) = _
  rw [e]
theorem fol_round {S : MS} {n r : Int} {x : T3} (e : asV S.rows r = some x) : fol S n (.round r) = { S with backs := asPut S.backs x.1 (some r) } := by
  show (match asV S.rows r with | some x => { S with backs := asPut S.backs x.1 (some r) } | none => S) = _
  rw [e]
theorem small_of {S S' : MS} {k : Nat} (h : S.small k) (a : S'.layers.length ≤ S.layers.length + 1) (b : S'.rows.length ≤ S.rows.length + 1) (c : S'.backs.length ≤ S.backs.length + 1) (d : S'.moves.length ≤ S.moves.length + 1) : S'.small (k + 1) := by
  obtain ⟨a', b', c', d'⟩ := h
  exact ⟨by omega, by omega, by omega, by omega⟩
theorem fol_small {S : MS} {n : Int} {δ : Dd} {k : Nat} (hr : rowOk S δ) (h : S.small k) : (fol S n δ).small (k + 1) := by
  have z : ∀ {m : Nat}, m ≤ m + 1 := fun {m} => Nat.le_succ m
  cases δ with
  | layer => exact small_of h (by show (S.layers ++ [n]).length ≤ _; rw [List.length_append]; exact Nat.le_refl _) z z z
  | row l d' h' => exact small_of h z asPut_len z z
  | draw r d' =>
    obtain ⟨x, e⟩ := Option.isSome_iff_exists.mp hr
    rw [fol_draw e]
    exact small_of h z asPut_len z z
  | hold r d' =>
    obtain ⟨x, e⟩ := Option.isSome_iff_exists.mp hr
    rw [fol_hold e]
    exact small_of h z asPut_len z z
  | drop r => exact small_of h z (Nat.le_trans asDrop_len z) z z
  | round r =>
    obtain ⟨x, e⟩ := Option.isSome_iff_exists.mp hr
    rw [fol_round e]
    exact small_of h z z asPut_len z
  | straight l => exact small_of h z z asPut_len z
  | move x y m => exact small_of h z z z (by show (S.moves ++ [(x, y, m)]).length ≤ _; rw [List.length_append]; exact Nat.le_refl _)
/-! ### the fields -/
def fM (L R B M : Addr) : List (Str × V) := [("layers", .ref L), ("rows", .ref R), ("backs", .ref B), ("moves", .ref M)]
def fR (D M : Addr) (n : Int) : List (Str × V) := [("deeds", .ref D), ("made", .ref M), ("numbered", .int n)]
theorem fM_layers {L R B M : Addr} : (fM L R B M).lookup ("layers" : Str) = some (.ref L) := rfl
theorem fM_rows {L R B M : Addr} : (fM L R B M).lookup ("rows" : Str) = some (.ref R) := rfl
theorem fM_backs {L R B M : Addr} : (fM L R B M).lookup ("backs" : Str) = some (.ref B) := rfl
theorem fM_moves {L R B M : Addr} : (fM L R B M).lookup ("moves" : Str) = some (.ref M) := rfl
theorem fM_p1 {L R B M X : Addr} : putF "layers" (.ref X) (fM L R B M) = fM X R B M := rfl
theorem fM_p2 {L R B M X : Addr} : putF "rows" (.ref X) (fM L R B M) = fM L X B M := rfl
theorem fM_p3 {L R B M X : Addr} : putF "backs" (.ref X) (fM L R B M) = fM L R X M := rfl
theorem fM_p4 {L R B M X : Addr} : putF "moves" (.ref X) (fM L R B M) = fM L R B X := rfl
theorem fM_new {L R B M : Addr} : putF "moves" (.ref M) (putF "backs" (.ref B) (putF "rows" (.ref R) (putF "layers" (.ref L) []))) = fM L R B M := rfl
theorem fR_deeds {D M : Addr} {n : Int} : (fR D M n).lookup ("deeds" : Str) = some (.ref D) := rfl
theorem fR_made {D M : Addr} {n : Int} : (fR D M n).lookup ("made" : Str) = some (.ref M) := rfl
theorem fR_numbered {D M : Addr} {n : Int} : (fR D M n).lookup ("numbered" : Str) = some (.int n) := rfl
theorem fR_new {D M : Addr} {n : Int} : putF "numbered" (.int n) (putF "made" (.ref M) (putF "deeds" (.ref D) [])) = fR D M n := rfl
theorem fR_p1 {D M X : Addr} {n : Int} : putF "deeds" (.ref X) (fR D M n) = fR X M n := rfl
theorem fR_p2 {D M X : Addr} {n : Int} : putF "made" (.ref X) (fR D M n) = fR D X n := rfl
theorem fR_p3 {D M : Addr} {n m : Int} : putF "numbered" (.int m) (fR D M n) = fR D M m := rfl
theorem at0 {α : Type} {c : α} {r : List α} : atI (c :: r) 0 = some c := by
  simp [atI, ixN]
theorem at_n {α : Type} {xs : List α} {v : α} (k : Nat) (h : xs[k]? = some v) : atI xs (k : Int) = some v := by
  unfold atI ixN
  have : k < xs.length := (List.getElem?_eq_some_iff.mp h).1
  rw [if_pos (by omega), if_pos (by omega)]
  show xs[(k : Int).toNat]? = _
  rw [Int.toNat_natCast]
  exact h
theorem at_last {α : Type} {xs : List α} {v : α} (h : xs.getLast? = some v) : atI xs (-1) = some v := by
  have ne : xs ≠ [] := fun e => by rw [e] at h; cases h
  have hp := List.length_pos_iff.mpr ne
  rw [List.getLast?_eq_getElem?] at h
  unfold atI ixN
  rw [if_neg (by decide), if_pos (by omega)]
  show xs[((-1 : Int) + (xs.length : Int)).toNat]? = some v
  rw [show ((-1 : Int) + (xs.length : Int)).toNat = xs.length - 1 by omega]
  exact h

/-! ### y = {k: v for ..} -/
theorem sw_dict {kx vx : Expr} {gs : List Comprehension} {scope : Scope} {pos py : Pos} {y : Str} {l : Nat} {env : Env} (hk : env.scope.kind = .function) (hy : env.scope.names.lookup y = some .local) (hl : (py.line == pos.line) = true)
    (hno : (scope.names.any fun z => z.1 == y && (z.2 == .local || z.2 == .cell)) = false) : swapsWith (.DictComp kx vx gs scope pos) (some (.Name y py)) l env = pure true := by
  have ky : env.kindOf y = some .local := hy
  have kb : env.blockKind = .function := by
    unfold Env.blockKind
    simp [hk]
  simp only [swapsWith]
  simp only [ky, kb, hno, Expr.pos, hl]
  simp
section
variable {X : Cx}
theorem ps_setDc {i : Nat} {y : Str} {py : Pos} {kx vx tg iter : Expr} {ifs : List Expr} {scope : Scope} {own : List (Str × Nat)} {pos spos : Pos} {wi : TI} {g : TG} {tt : TT} {tk tv : TE} (hc : X.calm = true) (hN : X.N.Nodup) (hy : X.N[i]? = some y) (hyl : X.env.scope.names.lookup y = some .local)
    (hsw : swapsWith (.DictComp kx vx [⟨tg, iter, ifs, 0⟩] scope pos) (some (.Name y py)) spos.line X.env = pure true) (hi : PI X tg iter wi) (ok : BlkOk X.N X.env.scope scope own)
    (hg : ∀ s H C cl fp, PG (X.blk s H scope (compEnvC scope cl C X.env) fp) tg g) (ht : ∀ s H C cl fp, PTs (X.blk s H scope (compEnvC scope cl C X.env) fp) ifs tt)
    (hkx : ∀ s H C cl fp, PE (X.blk s H scope (compEnvC scope cl C X.env) fp) kx tk) (hvx : ∀ s H C cl fp, PE (X.blk s H scope (compEnvC scope cl C X.env) fp) vx tv) (hs : ∀ x, foldedSetIterable iter X.env x = pure x := by intro _; rfl) :
    PS X (.Assign [.Name y py] (.DictComp kx vx [⟨tg, iter, ifs, 0⟩] scope pos) spos) (tAsg (tDc wi g tt tk tv (own.map (·.2))) (gName i)) := by
  refine ⟨fun pins s σ H D I hh => ?_⟩
  rw [exec_Assign_Name_used _ _ _ _ hsw]
  refine wpAny_bind (wpAny_standAt (wpAny_bind ?_))
  show wpAny _ X.A (do let _ ← comprehension (.DictComp kx vx [⟨tg, iter, ifs, 0⟩] scope pos) scope X.env (firstIterPos [⟨tg, iter, ifs, 0⟩] pos) newDict false (eval iter X.env) (some (assign (.Name y py) X.env))) _ _ s
  have h1 : tDc wi g tt tk tv (own.map (·.2)) σ H (fun x H1 => gName i x σ H1 D.nx) := hh
  refine wpAny_bind (thn (dc_core (Qf := fun _ s' => SP X pins D .next s') hc hN I hi ok hg ht hkx hvx hs h1 fun L C s' m H' I' q hn f => ?_) fun _ s' hq => wpAny_pure (wpAny_pure hq))
  show wpAny _ _ (assign (.Name y py) X.env (.ref L)) _ _ _
  refine wpAny_assign_Name (store_ok2 (v := V.ref L) I' hN hy (.inl hyl) rfl (fun s2 I2 hx => ?_) (.inr hyl))
  obtain ⟨a, sb, ha⟩ := hx
  obtain ⟨f0, f1, f2, f3, f4, f5⟩ := f
  have hCa : C ≠ a := by
    rcases ha with z | z
    · rw [z]
      exact f1
    · intro e
      exact f4 y a z e.symm
  refine ⟨m, hn.sameBut sb hCa, fun h3 sb3 => ⟨_, H', I2.turned (t' := s2.toks) (fun b o hb e => (sb3.2 b hb).trans e) f0 f1 f3 f4 f5, q⟩⟩
end

/-! ### the text -/
def topS (i : Nat) : Stmt := PySem.Challenge.pw_lanternrows_k51_undone_out_of_the_midst.main.body.getD i (.Pass ⟨0, 0, 0, 0⟩)
abbrev s_is_whole_from : Stmt := topS 19
theorem sc_is_whole_from : FnScope ["thing", "least"] ["thing", "least"] (defScope s_is_whole_from) := ⟨rfl, rfl, rfl, by decide +kernel, rfl, by decide +kernel, by decide +kernel⟩
abbrev s_is_whole : Stmt := topS 20
theorem sc_is_whole : FnScope ["thing", "least", "most"] ["thing", "least", "most"] (defScope s_is_whole) := ⟨rfl, rfl, rfl, by decide +kernel, rfl, by decide +kernel, by decide +kernel⟩
abbrev s_need_at_most : Stmt := topS 21
theorem sc_need_at_most : FnScope ["many", "most"] ["many", "most"] (defScope s_need_at_most) := ⟨rfl, rfl, rfl, by decide +kernel, rfl, by decide +kernel, by decide +kernel⟩
abbrev s_is_drawing : Stmt := topS 30
theorem sc_is_drawing : FnScope ["thing"] ["thing"] (defScope s_is_drawing) := ⟨rfl, rfl, rfl, by decide +kernel, rfl, by decide +kernel, by decide +kernel⟩
abbrev s_is_hold : Stmt := topS 31
theorem sc_is_hold : FnScope ["thing"] ["thing"] (defScope s_is_hold) := ⟨rfl, rfl, rfl, by decide +kernel, rfl, by decide +kernel, by decide +kernel⟩
abbrev s_is_way : Stmt := topS 32
theorem sc_is_way : FnScope ["thing"] ["thing"] (defScope s_is_way) := ⟨rfl, rfl, rfl, by decide +kernel, rfl, by decide +kernel, by decide +kernel⟩
abbrev s_is_many : Stmt := topS 33
theorem sc_is_many : FnScope ["thing"] ["thing"] (defScope s_is_many) := ⟨rfl, rfl, rfl, by decide +kernel, rfl, by decide +kernel, by decide +kernel⟩
abbrev s_is_plain_part : Stmt := topS 36
theorem sc_is_plain_part : FnScope ["part", "thing"] ["part", "thing"] (defScope s_is_plain_part) := ⟨rfl, rfl, rfl, by decide +kernel, rfl, by decide +kernel, by decide +kernel⟩
abbrev s_named : Stmt := topS 37
theorem sc_named : FnScope ["deed"] ["deed"] (defScope s_named) := ⟨rfl, rfl, rfl, by decide +kernel, rfl, by decide +kernel, by decide +kernel⟩
abbrev s_Made__init : Stmt := clsB (topS 38) 0
theorem sc_Made__init : FnScope ["self"] ["self"] (defScope s_Made__init) := ⟨rfl, rfl, rfl, by decide +kernel, rfl, by decide +kernel, by decide +kernel⟩
abbrev s_Made__twin : Stmt := clsB (topS 38) 1
theorem sc_Made__twin : FnScope ["self", "other"] ["self"] (defScope s_Made__twin) := ⟨rfl, rfl, rfl, by decide +kernel, rfl, by decide +kernel, by decide +kernel⟩
abbrev s_Made__fits : Stmt := clsB (topS 38) 2
theorem sc_Made__fits : FnScope ["self", "part", "thing"] ["self", "part", "thing"] (defScope s_Made__fits) := ⟨rfl, rfl, rfl, by decide +kernel, rfl, by decide +kernel, by decide +kernel⟩
abbrev s_Made__takes : Stmt := clsB (topS 38) 3
theorem sc_Made__takes : FnScope ["self", "thing", "word", "told", "part", "given"] ["self", "thing"] (defScope s_Made__takes) := ⟨rfl, rfl, rfl, by decide +kernel, rfl, by decide +kernel, by decide +kernel⟩
abbrev s_Made__follow : Stmt := clsB (topS 38) 4
theorem sc_Made__follow : FnScope ["self", "number", "deed", "word"] ["self", "number", "deed"] (defScope s_Made__follow) := ⟨rfl, rfl, rfl, by decide +kernel, rfl, by decide +kernel, by decide +kernel⟩
abbrev s_Made__follow_row : Stmt := clsB (topS 38) 5
theorem sc_Made__follow_row : FnScope ["self", "word", "row", "new", "layer", "drawing", "hold"] ["self", "word", "row", "new"] (defScope s_Made__follow_row) := ⟨rfl, rfl, rfl, by decide +kernel, rfl, by decide +kernel, by decide +kernel⟩
abbrev s_Made__rows_in : Stmt := clsB (topS 38) 6
theorem sc_Made__rows_in : FnScope ["self", "layer", "row"] ["self", "layer"] (defScope s_Made__rows_in) := ⟨rfl, rfl, rfl, by decide +kernel, rfl, by decide +kernel, by decide +kernel⟩
abbrev s_Made__need_room : Stmt := clsB (topS 38) 7
theorem sc_Made__need_room : FnScope ["self", "layer"] ["self"] (defScope s_Made__need_room) := ⟨rfl, rfl, rfl, by decide +kernel, rfl, by decide +kernel, by decide +kernel⟩
abbrev s_Made__layer_made : Stmt := clsB (topS 38) 8
theorem sc_Made__layer_made : FnScope ["self", "layer", "numbers", "back", "rows", "number"] ["self", "layer"] (defScope s_Made__layer_made) := ⟨rfl, rfl, rfl, by decide +kernel, rfl, by decide +kernel, by decide +kernel⟩
abbrev s_Made__sheet_made : Stmt := clsB (topS 38) 9
theorem sc_Made__sheet_made : FnScope ["self", "layer"] ["self"] (defScope s_Made__sheet_made) := ⟨rfl, rfl, rfl, by decide +kernel, rfl, by decide +kernel, by decide +kernel⟩
abbrev s_made_anew : Stmt := topS 39
theorem sc_made_anew : FnScope ["deeds", "made", "number", "deed"] ["deeds"] (defScope s_made_anew) := ⟨rfl, rfl, rfl, by decide +kernel, rfl, by decide +kernel, by decide +kernel⟩
abbrev s_Roll__init : Stmt := clsB (topS 40) 0
theorem sc_Roll__init : FnScope ["self"] ["self"] (defScope s_Roll__init) := ⟨rfl, rfl, rfl, by decide +kernel, rfl, by decide +kernel, by decide +kernel⟩
abbrev s_Roll__need_standing : Stmt := clsB (topS 40) 1
theorem sc_Roll__need_standing : FnScope ["self", "number"] ["self", "number"] (defScope s_Roll__need_standing) := ⟨rfl, rfl, rfl, by decide +kernel, rfl, by decide +kernel, by decide +kernel⟩
abbrev s_Roll__put : Stmt := clsB (topS 40) 2
theorem sc_Roll__put : FnScope ["self", "deed", "number", "made"] ["self", "deed"] (defScope s_Roll__put) := ⟨rfl, rfl, rfl, by decide +kernel, rfl, by decide +kernel, by decide +kernel⟩
abbrev s_Roll__sheet_now : Stmt := clsB (topS 40) 3
theorem sc_Roll__sheet_now : FnScope ["self"] ["self"] (defScope s_Roll__sheet_now) := ⟨rfl, rfl, rfl, by decide +kernel, rfl, by decide +kernel, by decide +kernel⟩
abbrev s_Roll__standing : Stmt := clsB (topS 40) 4
theorem sc_Roll__standing : FnScope ["self"] ["self"] (defScope s_Roll__standing) := ⟨rfl, rfl, rfl, by decide +kernel, rfl, by decide +kernel, by decide +kernel⟩
abbrev s_Roll__leaning : Stmt := clsB (topS 40) 5
theorem sc_Roll__leaning : FnScope ["self", "number", "later", "deed"] ["self", "number"] (defScope s_Roll__leaning) := ⟨rfl, rfl, rfl, by decide +kernel, rfl, by decide +kernel, by decide +kernel⟩
abbrev s_Roll__undo : Stmt := clsB (topS 40) 6
theorem sc_Roll__undo : FnScope ["self", "number", "numbers", "deeds", "made", "other", "deed"] ["self", "number"] (defScope s_Roll__undo) := ⟨rfl, rfl, rfl, by decide +kernel, rfl, by decide +kernel, by decide +kernel⟩
abbrev s__law_cell_at : Stmt := topS 42
theorem sc__law_cell_at : FnScope ["_law_script", "_law_k"] ["_law_script", "_law_k"] (defScope s__law_cell_at) := ⟨rfl, rfl, rfl, by decide +kernel, rfl, by decide +kernel, by decide +kernel⟩
abbrev s__law_state : Stmt := topS 43
theorem sc__law_state : FnScope ["_law_script", "_law_k", "_law_cell"] ["_law_script", "_law_k"] (defScope s__law_state) := ⟨rfl, rfl, rfl, by decide +kernel, rfl, by decide +kernel, by decide +kernel⟩
abbrev s__law_take : Stmt := topS 44
theorem sc__law_take : FnScope ["_law_state_here", "_law_many", "_law_found", "_law_mixed"] ["_law_state_here", "_law_many"] (defScope s__law_take) := ⟨rfl, rfl, rfl, by decide +kernel, rfl, by decide +kernel, by decide +kernel⟩
abbrev s__law_classes : Stmt := topS 45
theorem sc__law_classes : FnScope ["_law_e", "_law_found"] ["_law_e"] (defScope s__law_classes) := ⟨rfl, rfl, rfl, by decide +kernel, rfl, by decide +kernel, by decide +kernel⟩
abbrev s__law_met : Stmt := topS 46
theorem sc__law_met : FnScope ["_law_call", "_law_e", "_law_some"] ["_law_call"] (defScope s__law_met) := ⟨rfl, rfl, rfl, by decide +kernel, rfl, by decide +kernel, by decide +kernel⟩
abbrev s__law_known : Stmt := topS 47
theorem sc__law_known : FnScope ["_law_deeds", "_law_gone", "_law_layers", "_law_number", "_law_deed_here"] ["_law_deeds"] (defScope s__law_known) := ⟨rfl, rfl, rfl, by decide +kernel, rfl, by decide +kernel, by decide +kernel⟩
abbrev s__law_fits : Stmt := topS 48
theorem sc__law_fits : FnScope ["_law_deeds", "_law_deed_here", "_law_layers", "_law_rows"] ["_law_deeds", "_law_deed_here"] (defScope s__law_fits) := ⟨rfl, rfl, rfl, by decide +kernel, rfl, by decide +kernel, by decide +kernel⟩
abbrev s__law_room : Stmt := topS 49
theorem sc__law_room : FnScope ["_law_deeds", "_law_layers", "_law_rows", "_law_of", "_law_layer", "_law_many", "_law_moves", "_law_number", "_law_deed_here", "_law_row"] ["_law_deeds"] (defScope s__law_room) := ⟨rfl, rfl, rfl, by decide +kernel, rfl, by decide +kernel, by decide +kernel⟩
abbrev s__law_made : Stmt := topS 50
theorem sc__law_made : FnScope ["_law_deeds", "_law_of", "_law_told", "_law_backs", "_law_layers", "_law_rows", "_law_moves", "_law_number", "_law_deed_here", "_law_found", "_law_layer", "_law_some", "_law_back", "_law_row"] ["_law_deeds"] (defScope s__law_made) := ⟨rfl, rfl, rfl, by decide +kernel, rfl, by decide +kernel, by decide +kernel⟩
abbrev s__law_leaning : Stmt := topS 51
theorem sc__law_leaning : FnScope ["_law_deeds", "_law_number", "_law_one", "_law_deed_here"] ["_law_deeds", "_law_number"] (defScope s__law_leaning) := ⟨rfl, rfl, rfl, by decide +kernel, rfl, by decide +kernel, by decide +kernel⟩
abbrev s__law_deed : Stmt := topS 52
theorem sc__law_deed : FnScope ["_law_state_here", "_law_deeds", "_law_layers", "_law_rows", "_law_words", "_law_word", "_law_layer", "_law_row", "_law_drawing", "_law_hold", "_law_rest"] ["_law_state_here", "_law_deeds"] (defScope s__law_deed) := ⟨rfl, rfl, rfl, by decide +kernel, rfl, by decide +kernel, by decide +kernel⟩
abbrev s__law_undone : Stmt := topS 53
theorem sc__law_undone : FnScope ["_law_deeds", "_law_number", "_law_some", "_law_later", "_law_many", "_law_one", "_law_deed_here"] ["_law_deeds", "_law_number"] (defScope s__law_undone) := ⟨rfl, rfl, rfl, by decide +kernel, rfl, by decide +kernel, by decide +kernel⟩
abbrev s__law_put : Stmt := topS 54
theorem sc__law_put : FnScope ["_law_deeds", "_law_number", "_law_deed_here", "_law_later", "_law_many"] ["_law_deeds", "_law_number", "_law_deed_here"] (defScope s__law_put) := ⟨rfl, rfl, rfl, by decide +kernel, rfl, by decide +kernel, by decide +kernel⟩
abbrev s__law_stands_so : Stmt := topS 55
theorem sc__law_stands_so : FnScope ["_law_roll", "_law_deeds"] ["_law_roll", "_law_deeds"] (defScope s__law_stands_so) := ⟨rfl, rfl, rfl, by decide +kernel, rfl, by decide +kernel, by decide +kernel⟩
abbrev s__law_leans_right : Stmt := topS 56
theorem sc__law_leans_right : FnScope ["_law_state_here", "_law_roll", "_law_deeds", "_law_number", "_law_told", "_law_one", "_law_deed_here"] ["_law_state_here", "_law_roll", "_law_deeds"] (defScope s__law_leans_right) := ⟨rfl, rfl, rfl, by decide +kernel, rfl, by decide +kernel, by decide +kernel⟩
abbrev s_law : Stmt := topS 57
theorem sc_law : FnScope ["_law_script", "_law_k", "_law_state_here", "_law_roll", "_law_deeds", "_law_number", "_law_turn", "_law_deed_here", "_law_due", "_law_lap", "_law_some", "_law_free", "_law_spot", "_law_odd", "_law_one", "_law_other"] ["_law_script"] (defScope s_law) := ⟨rfl, rfl, rfl, by decide +kernel, rfl, by decide +kernel, by decide +kernel⟩
abbrev s_TooMany_init : Stmt := clsB (topS 16) 0
theorem sc_TooMany_init : FnScope ["self", "many", "most"] ["self", "many", "most"] (defScope s_TooMany_init) := ⟨rfl, rfl, rfl, by decide +kernel, rfl, by decide +kernel, by decide +kernel⟩
abbrev s_Leaned_init : Stmt := clsB (topS 17) 0
theorem sc_Leaned_init : FnScope ["self", "numbers"] ["self", "numbers"] (defScope s_Leaned_init) := ⟨rfl, rfl, rfl, by decide +kernel, rfl, by decide +kernel, by decide +kernel⟩
structure Txt (K : PySem.W.Frag) (mg : Str → Option Value) : Prop where
  b_dict : mg "dict" = none
  b_ValueError : mg "ValueError" = none
  b_len : mg "len" = none
  b_isinstance : mg "isinstance" = none
  b_max : mg "max" = none
  b_min : mg "min" = none
  b_all : mg "all" = none
  b_tuple : mg "tuple" = none
  b_list : mg "list" = none
  b_range : mg "range" = none
  b_zip : mg "zip" = none
  b_bool : mg "bool" = none
  b_int : mg "int" = none
  b_str : mg "str" = none
  c_MOST_DRAWING : ∃ t, mg "MOST_DRAWING" = some (Value.int 9 t)
  c_MOST_HOLD : ∃ t, mg "MOST_HOLD" = some (Value.int 24 t)
  c_MOST_ROWS : ∃ t, mg "MOST_ROWS" = some (Value.int 8 t)
  c_MOST_WAY : ∃ t, mg "MOST_WAY" = some (Value.int 20 t)
  c_MOST_MANY : ∃ t, mg "MOST_MANY" = some (Value.int 24 t)
  c_MOST_MOVES : ∃ t, mg "MOST_MOVES" = some (Value.int 8 t)
  c_MOST_LAYERS : ∃ t, mg "MOST_LAYERS" = some (Value.int 4 t)

section
variable {P : Program} {w : World} {K : PySem.W.Frag} {mg : Str → Option Value} {base : Heap}
theorem ok__law_classes {f : Addr} {fd : FuncData} {c : Nat → Addr} {LE : Addr} (F : Fun K "_law_classes" "_law_classes" s__law_classes f fd) (T : Txt K mg) (TX : ExcN K mg c LE) : FnE P w K mg base 1 f fd ["_law_e"] (spCls c) := by
  refine fun_okE F sc__law_classes (fun a cls d vs H Q E h => ?_) (fun cdv A outer s H vs Q E a oe cls d hz hfs hr h => ?_)
  · obtain ⟨i, _, rfl, _⟩ := h
    rfl
  · obtain ⟨i, hi, rfl, rfl, hx, q⟩ := h
    refine ⟨_, (pss_cons (ps_set (i := 1) sc__law_classes.nd rfl (Or.inl rfl) (pe_lst (pa_cons (pe_callB (call_isQ TX.toExcT List.mem_cons_self hz hfs) (by rfl) T.b_isinstance (by decide +kernel) (pa_cons (pv 0) (pa_cons (pe_gref (by rfl) (TX.g 0 "NoLayer" rfl)) pa_nil))) (pa_cons (pe_callB (call_isQ TX.toExcT List.mem_cons_self hz hfs) (by rfl) T.b_isinstance (by decide +kernel) (pa_cons (pv 0) (pa_cons (pe_gref (by rfl) (TX.g 1 "NoWindow" rfl)) pa_nil))) (pa_cons (pe_callB (call_isQ TX.toExcT List.mem_cons_self hz hfs) (by rfl) T.b_isinstance (by decide +kernel) (pa_cons (pv 0) (pa_cons (pe_gref (by rfl) (TX.g 2 "NoSheet" rfl)) pa_nil))) (pa_cons (pe_callB (call_isQ TX.toExcT List.mem_cons_self hz hfs) (by rfl) T.b_isinstance (by decide +kernel) (pa_cons (pv 0) (pa_cons (pe_gref (by rfl) (TX.g 3 "NoMoment" rfl)) pa_nil))) pa_nil))))))
      (pss_cons (ps_set (i := 1) sc__law_classes.nd rfl (Or.inl rfl) (pe_op op_cat (pv 1) (pe_lst (pa_cons (pe_callB (call_isQ TX.toExcT List.mem_cons_self hz hfs) (by rfl) T.b_isinstance (by decide +kernel) (pa_cons (pv 0) (pa_cons (pe_gref (by rfl) (TX.g 4 "NoRow" rfl)) pa_nil))) (pa_cons (pe_callB (call_isQ TX.toExcT List.mem_cons_self hz hfs) (by rfl) T.b_isinstance (by decide +kernel) (pa_cons (pv 0) (pa_cons (pe_gref (by rfl) (TX.g 5 "NoNumber" rfl)) pa_nil))) (pa_cons (pe_callB (call_isQ TX.toExcT List.mem_cons_self hz hfs) (by rfl) T.b_isinstance (by decide +kernel) (pa_cons (pv 0) (pa_cons (pe_gref (by rfl) (TX.g 6 "NoDrawings" rfl)) pa_nil))) (pa_cons (pe_callB (call_isQ TX.toExcT List.mem_cons_self hz hfs) (by rfl) T.b_isinstance (by decide +kernel) (pa_cons (pv 0) (pa_cons (pe_gref (by rfl) (TX.g 7 "Unlike" rfl)) pa_nil))) pa_nil)))))))
      (pss_cons (ps_set (i := 1) sc__law_classes.nd rfl (Or.inl rfl) (pe_op op_cat (pv 1) (pe_lst (pa_cons (pe_callB (call_isQ TX.toExcT List.mem_cons_self hz hfs) (by rfl) T.b_isinstance (by decide +kernel) (pa_cons (pv 0) (pa_cons (pe_gref (by rfl) (TX.g 8 "Endless" rfl)) pa_nil))) (pa_cons (pe_callB (call_isQ TX.toExcT List.mem_cons_self hz hfs) (by rfl) T.b_isinstance (by decide +kernel) (pa_cons (pv 0) (pa_cons (pe_gref (by rfl) (TX.g 9 "Squeezed" rfl)) pa_nil))) (pa_cons (pe_callB (call_isQ TX.toExcT List.mem_cons_self hz hfs) (by rfl) T.b_isinstance (by decide +kernel) (pa_cons (pv 0) (pa_cons (pe_gref (by rfl) (TX.g 10 "NoPaper" rfl)) pa_nil))) (pa_cons (pe_callB (call_isQ TX.toExcT List.mem_cons_self hz hfs) (by rfl) T.b_isinstance (by decide +kernel) (pa_cons (pv 0) (pa_cons (pe_gref (by rfl) (TX.g 11 "NoDeed" rfl)) pa_nil))) pa_nil)))))))
      (pss_one (ps_ret (pe_op op_cat (pv 1) (pe_lst (pa_cons (pe_callB (call_isQ TX.toExcT List.mem_cons_self hz hfs) (by rfl) T.b_isinstance (by decide +kernel) (pa_cons (pv 0) (pa_cons (pe_gref (by rfl) (TX.g 12 "NoText" rfl)) pa_nil))) (pa_cons (pe_callB (call_isQ TX.toExcT List.mem_cons_self hz hfs) (by rfl) T.b_isinstance (by decide +kernel) (pa_cons (pv 0) (pa_cons (pe_gref (by rfl) (TX.g 13 "NoWords" rfl)) pa_nil))) (pa_cons (pe_callB (call_isQ TX.toExcT List.mem_cons_self hz hfs) (by rfl) T.b_isinstance (by decide +kernel) (pa_cons (pv 0) (pa_cons (pe_gref (by rfl) (TX.g 14 "TooMany" rfl)) pa_nil))) (pa_cons (pe_callB (call_isQ TX.toExcT List.mem_cons_self hz hfs) (by rfl) T.b_isinstance (by decide +kernel) (pa_cons (pv 0) (pa_cons (pe_gref (by rfl) (TX.g 15 "Leaned" rfl)) pa_nil))) pa_nil))))))))))), ?_⟩
    have k := TX.ko i hi
    refine ⟨_, rfl, i, hi, rfl, _, _, _, rfl, fun u z => z, k 0 (by decide), hx, _, rfl, i, hi, rfl, _, _, _, rfl, fun u z => z, k 1 (by decide), hx, _, rfl, i, hi, rfl, _, _, _, rfl, fun u z => z, k 2 (by decide), hx, _, rfl, i, hi, rfl, _, _, _, rfl, fun u z => z, k 3 (by decide), hx, (by show 4 ≤ sizeLine; decide), fun p1 n1 => ?_⟩
    obtain ⟨s1, e1⟩ := new_at (.lst [.bl (decide (i = 0)), .bl (decide (i = 1)), .bl (decide (i = 2)), .bl (decide (i = 3))]) n1
    generalize upd H p1 (.lst [.bl (decide (i = 0)), .bl (decide (i = 1)), .bl (decide (i = 2)), .bl (decide (i = 3))]) = H1 at s1 e1 ⊢
    have hx1 := hx.sm s1
    refine ⟨_, rfl, _, rfl, i, hi, rfl, _, _, _, rfl, fun u z => z, k 4 (by decide), hx1, _, rfl, i, hi, rfl, _, _, _, rfl, fun u z => z, k 5 (by decide), hx1, _, rfl, i, hi, rfl, _, _, _, rfl, fun u z => z, k 6 (by decide), hx1, _, rfl, i, hi, rfl, _, _, _, rfl, fun u z => z, k 7 (by decide), hx1, (by show 4 ≤ sizeLine; decide), fun p2 n2 => ?_⟩
    obtain ⟨s2, e2⟩ := new_at (.lst [.bl (decide (i = 4)), .bl (decide (i = 5)), .bl (decide (i = 6)), .bl (decide (i = 7))]) n2
    generalize upd H1 p2 (.lst [.bl (decide (i = 4)), .bl (decide (i = 5)), .bl (decide (i = 6)), .bl (decide (i = 7))]) = H2 at s2 e2 ⊢
    refine ⟨p1, p2, _, _, rfl, rfl, s2 _ _ e1, e2, (by show 8 ≤ sizeLine; decide), fun p3 n3 => ?_⟩
    obtain ⟨s3, e3⟩ := new_at (.lst ([.bl (decide (i = 0)), .bl (decide (i = 1)), .bl (decide (i = 2)), .bl (decide (i = 3))] ++ [.bl (decide (i = 4)), .bl (decide (i = 5)), .bl (decide (i = 6)), .bl (decide (i = 7))])) n3
    generalize upd H2 p3 (.lst ([.bl (decide (i = 0)), .bl (decide (i = 1)), .bl (decide (i = 2)), .bl (decide (i = 3))] ++ [.bl (decide (i = 4)), .bl (decide (i = 5)), .bl (decide (i = 6)), .bl (decide (i = 7))])) = H3 at s3 e3 ⊢
    have s13 := (s1.trans s2).trans s3
    have hx3 := hx.sm s13
    refine ⟨_, rfl, _, rfl, i, hi, rfl, _, _, _, rfl, fun u z => z, k 8 (by decide), hx3, _, rfl, i, hi, rfl, _, _, _, rfl, fun u z => z, k 9 (by decide), hx3, _, rfl, i, hi, rfl, _, _, _, rfl, fun u z => z, k 10 (by decide), hx3, _, rfl, i, hi, rfl, _, _, _, rfl, fun u z => z, k 11 (by decide), hx3, (by show 4 ≤ sizeLine; decide), fun p4 n4 => ?_⟩
    obtain ⟨s4, e4⟩ := new_at (.lst [.bl (decide (i = 8)), .bl (decide (i = 9)), .bl (decide (i = 10)), .bl (decide (i = 11))]) n4
    generalize upd H3 p4 (.lst [.bl (decide (i = 8)), .bl (decide (i = 9)), .bl (decide (i = 10)), .bl (decide (i = 11))]) = H4 at s4 e4 ⊢
    refine ⟨p3, p4, _, _, rfl, rfl, s4 _ _ e3, e4, (by show 12 ≤ sizeLine; decide), fun p5 n5 => ?_⟩
    obtain ⟨s5, e5⟩ := new_at (.lst (([.bl (decide (i = 0)), .bl (decide (i = 1)), .bl (decide (i = 2)), .bl (decide (i = 3))] ++ [.bl (decide (i = 4)), .bl (decide (i = 5)), .bl (decide (i = 6)), .bl (decide (i = 7))]) ++ [.bl (decide (i = 8)), .bl (decide (i = 9)), .bl (decide (i = 10)), .bl (decide (i = 11))])) n5
    generalize upd H4 p5 (.lst (([.bl (decide (i = 0)), .bl (decide (i = 1)), .bl (decide (i = 2)), .bl (decide (i = 3))] ++ [.bl (decide (i = 4)), .bl (decide (i = 5)), .bl (decide (i = 6)), .bl (decide (i = 7))]) ++ [.bl (decide (i = 8)), .bl (decide (i = 9)), .bl (decide (i = 10)), .bl (decide (i = 11))])) = H5 at s5 e5 ⊢
    have s15 := (s13.trans s4).trans s5
    have hx5 := hx.sm s15
    refine ⟨_, rfl, _, rfl, i, hi, rfl, _, _, _, rfl, fun u z => z, k 12 (by decide), hx5, _, rfl, i, hi, rfl, _, _, _, rfl, fun u z => z, k 13 (by decide), hx5, _, rfl, i, hi, rfl, _, _, _, rfl, fun u z => z, k 14 (by decide), hx5, _, rfl, i, hi, rfl, _, _, _, rfl, fun u z => z, k 15 (by decide), hx5, (by show 4 ≤ sizeLine; decide), fun p6 n6 => ?_⟩
    obtain ⟨s6, e6⟩ := new_at (.lst [.bl (decide (i = 12)), .bl (decide (i = 13)), .bl (decide (i = 14)), .bl (decide (i = 15))]) n6
    generalize upd H5 p6 (.lst [.bl (decide (i = 12)), .bl (decide (i = 13)), .bl (decide (i = 14)), .bl (decide (i = 15))]) = H6 at s6 e6 ⊢
    refine ⟨p5, p6, _, _, rfl, rfl, s6 _ _ e5, e6, (by show 16 ≤ sizeLine; decide), fun p7 n7 => ?_⟩
    exact q _ p7 ((s15.trans s6).trans (same_upd n7)) ((s15.trans s6).free n7) upd_same
end
section
variable {X : Cx}
theorem met_mk {c : Nat → Addr} {LE g : Addr} {fd : FuncData} (Fm : Fun X.K "_law_met" "_law_met" s__law_met g fd) (mm : X.mg "_law_met" = some (.ref g)) (bm : Binds X.K fd ["_law_call"] []) (T : Txt X.K X.mg) (TX : ExcN X.K X.mg c LE)
    (DE : ClE X.prog X.w X.K X.mg X.base 1 "_law_classes" ["_law_e"] (spCls c)) (hr : Room 3 X.A) : MetF X "_law_met" "_law_call" (TMet c) := by
  obtain ⟨oc, od, kV, doc, pm, an, cdv, ct, osl, rfl, lk, hcd⟩ := Fm.ex
  refine ⟨g, _, _, _, kV, doc, pm, cdv, ct, oc, an, od, osl, _, mm, Fm.kp, lk, hcd, bm, sc__law_met, rfl, .inl rfl, ?_⟩
  intro f c' s H Q tl act hc h
  have hrE : L2H.RoomH 1 ((X.A.deeper (envOfC "_law_met" (defScope s__law_met) s.heap.objs.size g cdv))) := L2H.roomH_of ((hr.mono (show 2 ≤ 3 by omega)).deeper _)
  refine ⟨_, pss_one (ps_try_as (X := (cxOf C8.CX0 X.prog X.w X.K X.mg X.base _ "_law_met" (defScope s__law_met) g cdv X.A X.stack s H C8.E0).nox) (c := .ref LE) (i := 1) (Wout := fun _ _ _ _ => False)
      (tb := fun W D σ H => ∃ Ech : XK, (∀ cls d (σ' : L2.St) H', σ'.length = 3 → Ech cls d H' → W cls d σ' H') ∧ σ[0]? = some (some (.ref f)) ∧ H c' = some (LamX.CodeO c' (X.env.qual ++ "<lambda>")) ∧ tl Ech H fun v H1 => 2 ≤ sizeLine ∧ ∀ p, H1 p = none → D.rt (.ref p) (upd H1 p (.tup [.str "told", v])))
      rfl rfl sc__law_met.nd rfl rfl ⟨rfl, by decide, .inl TX.gL⟩ takes0 (fun W pn xe tk _ => ?_) (fun a oe cls d pn hz hfs =>
        (pss_cons (ps_set (i := 2) sc__law_met.nd rfl (Or.inl rfl) (pe_ownE DE ⟨hrE.dp, hrE.un⟩ List.mem_cons_self hz hfs (by rfl) (pa_cons (pv 1) pa_nil)))
      (pss_cons (ps_if (PW.pt (pw_or (pt_not (pt_val (pe_callB (call_isQ TX.toExcT List.mem_cons_self hz hfs) (by rfl) T.b_isinstance (by decide +kernel) (pa_cons (pv 1) (pa_cons (pe_bltn (v := .ty "ValueError") (by rfl) T.b_ValueError (by decide +kernel) rfl) pa_nil))))) (pw_or1 (pt_cmpR op_ne (pe_bmK (K := X.K) (r := rCntB X.K) PySem.F.plainAttrs_list PySem.F.slot_list_count PySem.F.type_list_count mt_bcount (pv 2) (pa_cons pe_bl pa_nil)) pe_int (nomark _))))) (pss_one (ps_ret (pe_tup (pa_cons pe_str (pa_cons pe_non pa_nil))))) pss_nil)
      (pss_cons (ps_if (pt_val (pe_ix (r := rIxL X.K) ix_list (pv 2) pe_int (fun _ _ => rfl))) (pss_one (ps_ret (pe_tup (pa_cons pe_str (pa_cons (pe_tup (pa_cons (pe_xf (TX.xf (i := 14) (by decide)) TX.n1 hz hfs (pv 1)) (pa_cons (pe_xf (TX.xf (i := 14) (by decide)) TX.n2 hz hfs (pv 1)) pa_nil))) pa_nil))))) pss_nil)
      (pss_cons (ps_if (pt_val (pe_ix (r := rIxL X.K) ix_list (pv 2) pe_int (fun _ _ => rfl))) (pss_one (ps_ret (pe_tup (pa_cons pe_str (pa_cons (pe_xf (TX.xf (i := 15) (by decide)) TX.n3 hz hfs (pv 1)) pa_nil))))) pss_nil)
      (pss_one (ps_ret (pe_tup (pa_cons pe_str (pa_cons (pe_bmK (K := X.K) (r := rIndex X.K) PySem.F.plainAttrs_list PySem.F.slot_list_index PySem.F.type_list_index mt_index (pv 2) (pa_cons pe_bl pa_nil)) pa_nil))))))))))), ?_⟩
  · refine ⟨fun pins s' σ H' D I h' => ?_⟩
    obtain ⟨Ech, hW, h1, h2, h3⟩ := h'
    refine run_ex (X := (cxOf C8.CX0 X.prog X.w X.K X.mg X.base ["_law_call", "_law_e", "_law_some"] "_law_met" (defScope s__law_met) g cdv X.A X.stack s H C8.E0).tr pn xe) ⟨_, pss_one (ps_ret (pe_tup (pa_cons pe_str (pa_cons (act _ pn xe Ech _ _ (takes_len tk) (fun cls d σ' H' he hl => hW cls d σ' H' hl he)) pa_nil)))), ?_⟩ I
    exact ⟨h1, h2, h3⟩
  · refine ⟨EMet c Q, fun cls d σ' H' hl hE => ?_, rfl, hc, h⟩
    obtain ⟨i, hi, rfl, hx, h13, hM, hL⟩ := hE
    obtain ⟨x0, x1, x2, rfl⟩ : ∃ x0 x1 x2, σ' = [x0, x1, x2] := by
      match σ', hl with
      | [a, b, c], _ => exact ⟨a, b, c, rfl⟩
    refine ⟨true, TX.ex i hi, fun _ a na => ?_, fun z => Bool.noConfusion z⟩
    refine ⟨_, rfl, i, hi, rfl, rfl, hx, fun H1 p1 s1 n1 e1 => ?_⟩
    have hx1 := hx.sm s1
    refine ⟨_, rfl, i, hi, rfl, _, _, _, rfl, fun u z => z, TX.kv i hi, hx1, true, rfl, iteF ?_⟩
    refine ⟨_, rfl, .inl ⟨rfl, _, .inl (.inl e1)⟩, p1, bits i, rfl, rfl, .inl (.inl e1), ?_⟩
    rw [bits_count i hi]
    refine ⟨rfl, _, rfl, iteF ?_⟩
    refine ⟨_, rfl, p1, _, 14, _, rfl, rfl, .inl (.inl e1), bits_at i 14 (by decide), _, rfl, ite2 (fun e => ?_) (fun e14 => ?_)⟩
    · obtain ⟨dd, fs, m, n, rfl, hd, lm, ln, hq⟩ := hM (of_decide_eq_true e)
      have ec : c i = c 14 := by rw [of_decide_eq_true e]
      have hd1 := s1 _ _ hd
      refine ⟨_, rfl, rfl, by rw [ec], dd, fs, m, rfl, hd1, lm, _, rfl, rfl, by rw [ec], dd, fs, n, rfl, hd1, ln, (by show 2 ≤ sizeLine; decide), fun q2 n2 => ?_⟩
      refine ⟨(by show 2 ≤ sizeLine; decide), fun p3 n3 => ?_⟩
      obtain ⟨s2, e2⟩ := new_at (.tup [m, n]) n2
      exact hq _ p3 q2 ((s1.trans s2).trans (same_upd n3)) ((s1.trans s2).free n3) ((same_upd n3) _ _ e2) upd_same
    refine ⟨_, rfl, p1, _, 15, _, rfl, rfl, .inl (.inl e1), bits_at i 15 (by decide), _, rfl, ite2 (fun e => ?_) (fun e15 => ?_)⟩
    · obtain ⟨dd, fs, m, rfl, hd, lm, hq⟩ := hL (of_decide_eq_true e)
      have ec : c i = c 15 := by rw [of_decide_eq_true e]
      refine ⟨_, rfl, rfl, by rw [ec], dd, fs, m, rfl, s1 _ _ hd, lm, (by show 2 ≤ sizeLine; decide), fun p3 n3 => ?_⟩
      exact hq _ p3 (s1.trans (same_upd n3)) (s1.free n3) upd_same
    have i14 : i < 14 := by
      have a1 : ¬ i = 14 := fun z => e14 (decide_eq_true z)
      have a2 : ¬ i = 15 := fun z => e15 (decide_eq_true z)
      omega
    refine ⟨_, rfl, .inl ⟨rfl, _, .inl (.inl e1)⟩, p1, _, .bl true, i, .bl true, rfl, rfl, .inl (.inl e1), rfl, bl_flat _, ?_, rfl, fun m z hm hz => ?_, ?_⟩
    · rw [bits_at i i hi, decide_eq_true rfl]
    · rw [bits_at i m (by omega), decide_eq_false (by omega)] at hz
      cases hz
      rfl
    · refine ⟨(by show 2 ≤ sizeLine; decide), fun p3 n3 => ?_⟩
      exact h13 i14 _ p3 (s1.trans (same_upd n3)) (s1.free n3) upd_same
end

section
variable {P : Program} {w : World} {K : PySem.W.Frag} {mg : Str → Option Value} {base : Heap}
def sp__law_cell_at (K : PySem.W.Frag) : Sp := fun vs H Q _ => ∃ (a : Addr) (ns : List Int) (k : Int), vs = [.ref a, .int k] ∧ SqL K H a (ns.map V.int) ∧ 0 ≤ k ∧ ∀ c, Q (.int c) H
theorem ok__law_cell_at {f : Addr} {fd : FuncData} (F : Fun K "_law_cell_at" "_law_cell_at" s__law_cell_at f fd) (T : Txt K mg) : FnOk P w K mg base CX0 1 f fd ["_law_script", "_law_k"] (sp__law_cell_at K) := by
  refine F.ok sc__law_cell_at (fun vs H Q E h => ?_) (fun cdv A outer s H vs Q E hr h => ?_)
  · obtain ⟨a, ns, k, rfl, _⟩ := h
    rfl
  · obtain ⟨a, ns, k, rfl, hS, hk, q⟩ := h
    refine ⟨_, (pss_cons (ps_if (pt_cmpR op_lt (pv 1) (pe_callB call_len_seq (by rfl) T.b_len (by decide +kernel) (pa_cons (pv 0) pa_nil)) (nomark _)) (pss_one (ps_ret (pe_ix ix_list (pv 0) (pv 1) (fun _ _ => rfl)))) pss_nil)
      (pss_one (ps_ret pe_int))), ?_⟩
    refine ⟨_, rfl, _, rfl, a, _, rfl, .inl hS, k, _, rfl, rfl, _, rfl, ite2 (fun e => ?_) (fun _ => q 0)⟩
    have e1 : k < ((ns.map V.int).length : Int) := of_decide_eq_true e
    rw [List.length_map] at e1
    have hj : k.toNat < ns.length := by omega
    have g : (ns.map V.int)[k.toNat]? = some (.int ns[k.toNat]) := by
      rw [List.getElem?_map, List.getElem?_eq_getElem hj]
      rfl
    exact ⟨_, rfl, _, rfl, a, _, k, _, rfl, rfl, hS, at_of (j := k.toNat) (by omega) g, q _⟩
def sp__law_state (K : PySem.W.Frag) : Sp := fun vs H Q _ => ∃ (a : Addr) (ns : List Int) (k : Int), vs = [.ref a, .int k] ∧ SqL K H a (ns.map V.int) ∧ 0 ≤ k ∧ ∀ H' p, Same H H' → H p = none → IsSx H' p → Q (.ref p) H'
theorem ok__law_state {f : Addr} {fd : FuncData} (F : Fun K "_law_state" "_law_state" s__law_state f fd) (T : Txt K mg) (D__law_cell_at : Cl P w K mg base 1 "_law_cell_at" ["_law_script", "_law_k"] (sp__law_cell_at K)) : FnOk P w K mg base CX0 2 f fd ["_law_script", "_law_k"] (sp__law_state K) := by
  refine F.ok sc__law_state (fun vs H Q E h => ?_) (fun cdv A outer s H vs Q E hr h => ?_)
  · obtain ⟨a, ns, k, rfl, _⟩ := h
    rfl
  · obtain ⟨a, ns, k, rfl, hS, hk, q⟩ := h
    refine ⟨_, (pss_cons (ps_set (i := 2) sc__law_state.nd rfl (Or.inl rfl) (pe_own D__law_cell_at (hr.mono (by omega)) (by rfl) (pa_cons (pv 0) (pa_cons (pv 1) pa_nil))))
      (pss_cons (ps_if (pt_cmpR op_ge (pv 2) (pe_op op_pow pe_int pe_int) (nomark _)) (pss_one (ps_ret (pe_lst (pa_cons (pe_op op_sub (pv 2) (pe_op op_pow pe_int pe_int)) (pa_cons pe_bl pa_nil))))) pss_nil)
      (pss_one (ps_ret (pe_lst (pa_cons (pe_op op_modN (pv 2) pe_int) (pa_cons pe_bl pa_nil))))))), ?_⟩
    refine ⟨_, rfl, _, rfl, a, ns, k, rfl, hS, hk, fun c => ?_⟩
    refine ⟨_, rfl, 10, 18, rfl, rfl, ⟨by decide, by decide, by decide⟩, _, _, rfl, rfl, _, rfl, ite2 (fun e => ?_) (fun e => ?_)⟩
    · have e1 := of_decide_eq_true e
      refine ⟨_, rfl, 10, 18, rfl, rfl, ⟨by decide, by decide, by decide⟩, _, _, rfl, rfl, (by show 2 ≤ sizeLine; decide), fun p np => ?_⟩
      exact q _ p (same_upd np) np ⟨_, _, upd_same, by omega, fun z => Bool.noConfusion z⟩
    · refine ⟨_, rfl, _, _, rfl, rfl, (by show (2147483647 : Int) ≠ 0; decide), (by show 2 ≤ sizeLine; decide), fun p np => ?_⟩
      exact q _ p (same_upd np) np ⟨_, _, upd_same, (fm (by decide)).1, fun _ => (fm (by decide)).2⟩
def sp__law_take (K : PySem.W.Frag) : Sp := fun vs H Q _ => ∃ (st : Addr) (n : Int), vs = [.ref st, .int n] ∧ IsSx H st ∧ 0 < n ∧ n < 1073741824 ∧ ∀ r H', 0 ≤ r → r < n → Gx st H H' → Q (.int r) H'
theorem ok__law_take {f : Addr} {fd : FuncData} (F : Fun K "_law_take" "_law_take" s__law_take f fd) (T : Txt K mg) : FnOk P w K mg base CX0 1 f fd ["_law_state_here", "_law_many"] (sp__law_take K) := by
  refine F.ok sc__law_take (fun vs H Q E h => ?_) (fun cdv A outer s H vs Q E hr h => ?_)
  · obtain ⟨st, n, rfl, _⟩ := h
    rfl
  · obtain ⟨st, n, rfl, ⟨a, b, hs, ha, hb⟩, n0, n1, q⟩ := h
    refine ⟨_, (pss_cons (ps_if (pt_val (pe_ix ix_list (pv 0) pe_int (fun _ _ => rfl))) (pss_cons (ps_set (i := 2) sc__law_take.nd rfl (Or.inl rfl) (pe_op op_modN (pe_ix ix_list (pv 0) pe_int (fun _ _ => rfl)) (pv 1)))
      (pss_cons (ps_asg (pe_op op_fdivN (pe_ix ix_list (pv 0) pe_int (fun _ _ => rfl)) (pv 1)) (pg_sub (pv 0) pe_int set_list))
      (pss_one (ps_ret (pv 2))))) pss_nil)
      (pss_cons (ps_asg (pe_op op_modN (pe_op op_add (pe_op op_mul (pe_ix ix_list (pv 0) pe_int (fun _ _ => rfl)) pe_int) pe_int) pe_int) (pg_sub (pv 0) pe_int set_list))
      (pss_cons (ps_set (i := 3) sc__law_take.nd rfl (Or.inl rfl) (pe_op op_modN (pe_op op_add (pe_op op_add (pe_op op_mul (pe_ix ix_list (pv 0) pe_int (fun _ _ => rfl)) (pe_ix ix_list (pv 0) pe_int (fun _ _ => rfl))) (pe_op op_mul pe_int (pe_ix ix_list (pv 0) pe_int (fun _ _ => rfl)))) pe_int) pe_int))
      (pss_cons (ps_set (i := 3) sc__law_take.nd rfl (Or.inl rfl) (pe_op op_modN (pe_op op_add (pe_op op_mul (pv 3) (pv 3)) (pe_op op_mul pe_int (pv 3))) pe_int))
      (pss_one (ps_ret (pe_op op_modN (pe_op op_fdivN (pv 3) pe_int) (pv 1)))))))), ?_⟩
    refine ⟨_, rfl, st, _, 1, _, rfl, rfl, .inl (.inl hs), rfl, b, rfl, ?_⟩
    cases b with
    | true =>
      refine iteT ?_
      refine ⟨_, rfl, st, _, 0, _, rfl, rfl, .inl (.inl hs), rfl, _, rfl, a, n, rfl, rfl, by omega, ?_⟩
      refine ⟨_, rfl, st, _, 0, _, rfl, rfl, .inl (.inl hs), rfl, _, rfl, a, n, rfl, rfl, ⟨by omega, by omega⟩, _, rfl, st, _, 0, 0, rfl, rfl, hs, rfl, ?_⟩
      refine ⟨_, rfl, q _ _ (fm n0).1 (fm n0).2 (gx_set hs ?_ (fun z => Bool.noConfusion z))⟩
      rw [Int.fdiv_eq_ediv_of_nonneg _ (by omega)]
      exact Int.ediv_nonneg ha (by omega)
    | false =>
      have hb1 := hb rfl
      refine iteF ?_
      refine ⟨_, rfl, st, _, 0, _, rfl, rfl, .inl (.inl hs), rfl, a, 48271, rfl, rfl, .inl ⟨by omega, by omega⟩, _, _, rfl, rfl, _, _, rfl, rfl, (by show (2147483647 : Int) ≠ 0; decide), _, rfl, st, _, 0, 0, rfl, rfl, hs, rfl, ?_⟩
      dsimp only
      have f1 := fm (x := a * 48271 + 29) (m := 2147483647) (by decide)
      generalize (a * 48271 + 29).fmod 2147483647 = b1 at f1 ⊢
      obtain ⟨f1a, f1b⟩ := f1
      have hs1 : (upd H st (.lst [.int b1, .bl false])) st = some (.lst [.int b1, .bl false]) := upd_same
      refine ⟨_, rfl, st, _, 0, _, rfl, rfl, .inl (.inl hs1), rfl, _, rfl, st, _, 0, _, rfl, rfl, .inl (.inl hs1), rfl, b1, b1, rfl, rfl, .inl ⟨by omega, by omega⟩, _, rfl, st, _, 0, _, rfl, rfl, .inl (.inl hs1), rfl, 39373, b1, rfl, rfl, .inl ⟨by decide, by decide⟩, _, _, rfl, rfl, _, _, rfl, rfl, _, _, rfl, rfl, (by show (2147483629 : Int) ≠ 0; decide), ?_⟩
      dsimp only
      have f2 := fm (x := b1 * b1 + 39373 * b1 + 7) (m := 2147483629) (by decide)
      generalize (b1 * b1 + 39373 * b1 + 7).fmod 2147483629 = b2 at f2 ⊢
      obtain ⟨f2a, f2b⟩ := f2
      refine ⟨_, rfl, _, rfl, b2, b2, rfl, rfl, .inl ⟨by omega, by omega⟩, _, rfl, 16807, b2, rfl, rfl, .inl ⟨by decide, by decide⟩, _, _, rfl, rfl, _, _, rfl, rfl, (by show (2147483587 : Int) ≠ 0; decide), ?_⟩
      dsimp only
      generalize (b2 * b2 + 16807 * b2).fmod 2147483587 = b3
      refine ⟨_, rfl, b3, 8, rfl, rfl, ⟨by decide, by decide⟩, _, rfl, _, n, rfl, rfl, by omega, ?_⟩
      exact q _ _ (fm n0).1 (fm n0).2 (gx_set hs f1a (fun _ => f1b))
end

/-! ### the classes as the top has made them -/
def partsOf (z : Str) : Option (List Str) :=
  if z = "layer" then some [] else if z = "row" then some ["layer", "drawing", "hold"] else if z = "draw" then some ["row", "drawing"] else if z = "hold" then some ["row", "hold"] else if z = "drop" then some ["row"] else
  if z = "round" then some ["row"] else if z = "straight" then some ["layer"] else if z = "move" then some ["way", "way", "many"] else none
structure ClT (K : PySem.W.Frag) (w : World) (mg : Str → Option Value) (CT : Nat → Addr) : Prop where
  cM : Cls K (CT 0)
  cR : Cls K (CT 1)
  n1 : NoAttr K (CT 0) "layers"
  n2 : NoAttr K (CT 0) "rows"
  n3 : NoAttr K (CT 0) "backs"
  n4 : NoAttr K (CT 0) "moves"
  r1 : NoAttr K (CT 1) "deeds"
  r2 : NoAttr K (CT 1) "made"
  r3 : NoAttr K (CT 1) "numbered"
  gP : mg "PARTS" = some (.ref (CT 9))
  pk : ∃ es n, KDict K w (CT 9) es n
  p0 : ∀ z, partsOf z = none → PySem.W.nsIn K (CT 9) z = some none
  p1 : ∀ z ps, partsOf z = some ps → ∃ t, PySem.W.nsIn K (CT 9) z = some (some (.ref t)) ∧ ∀ H, SqT K H t (ps.map V.str)
/-- a Made at p that holds what S tells -/
structure MadeC (K : PySem.W.Frag) (C : Addr) (H : Hp) (p L R B M : Addr) (S : MS) : Prop where
  ob : ∃ dx, H p = some (.ins C dx (fM L R B M))
  ly : H L = some (.lst (S.layers.map V.int))
  rw : ∃ kvs, H R = some (.dK kvs) ∧ AsP (T3At K H) kvs S.rows
  bk : ∃ kvs, H B = some (.dK kvs) ∧ AsP (fun v o => v = bkV o) kvs S.backs
  mv : ∃ ms, H M = some (.lst ms) ∧ Paired (MoveAt K H) ms S.moves
  nLM : L ≠ M
  nRB : R ≠ B
theorem MadeC.nn {K : PySem.W.Frag} {C : Addr} {H : Hp} {p L R B M : Addr} {S : MS} (h : MadeC K C H p L R B M S) : p ≠ L ∧ p ≠ R ∧ p ≠ B ∧ p ≠ M ∧ L ≠ R ∧ L ≠ B ∧ R ≠ M ∧ B ≠ M := by
  obtain ⟨dx, h1⟩ := h.ob
  obtain ⟨kr, h3, _⟩ := h.rw
  obtain ⟨kb, h4, _⟩ := h.bk
  obtain ⟨ms, h5, _⟩ := h.mv
  have h2 := h.ly
  refine ⟨ne_of h1 h2 ?_, ne_of h1 h3 ?_, ne_of h1 h4 ?_, ne_of h1 h5 ?_, ne_of h2 h3 ?_, ne_of h2 h4 ?_, ne_of h3 h5 ?_, ne_of h4 h5 ?_⟩ <;> (intro z; cases z)
/-- what a heap must keep of another, that a Made stands in it -/
theorem MadeC.keep {K : PySem.W.Frag} {C : Addr} {H H' : Hp} {p L R B M : Addr} {S : MS} (h : MadeC K C H p L R B M S) (t : TKeep K H H') (kp : ∀ o, H p = some o → H' p = some o) (kL : ∀ o, H L = some o → H' L = some o) (kR : ∀ o, H R = some o → H' R = some o) (kB : ∀ o, H B = some o → H' B = some o) (kM : ∀ o, H M = some o → H' M = some o) : MadeC K C H' p L R B M S := by
  obtain ⟨⟨dx, h1⟩, h2, ⟨kr, h3, h3'⟩, ⟨kb, h4, h4'⟩, ⟨ms, h5, h5'⟩, a, b⟩ := h
  exact ⟨⟨dx, kp _ h1⟩, kL _ h2, ⟨kr, kR _ h3, AsP.mono (fun _ _ => T3At.keep t) h3'⟩, ⟨kb, kB _ h4, h4'⟩, ⟨ms, kM _ h5, Paired.mono h5' fun _ _ => MoveAt.keep t⟩, a, b⟩
theorem MadeC.same {K : PySem.W.Frag} {C : Addr} {H H' : Hp} {p L R B M : Addr} {S : MS} (h : MadeC K C H p L R B M S) (s : Same H H') : MadeC K C H' p L R B M S :=
  h.keep (Same.tk s) (fun o => s _ o) (fun o => s _ o) (fun o => s _ o) (fun o => s _ o) (fun o => s _ o)
/-- a Made none of whose parts stood in H0 -/
structure MadeN (K : PySem.W.Frag) (C : Addr) (H0 H : Hp) (p L R B M : Addr) (S : MS) : Prop where
  s : Same H0 H
  c : MadeC K C H p L R B M S
  np : H0 p = none
  nL : H0 L = none
  nR : H0 R = none
  nB : H0 B = none
  nM : H0 M = none
theorem same_n {H0 H : Hp} {D : Addr} (s : Same H0 H) (n : H0 D = none) (o : HO) : Same H0 (upd H D o) := fun b u e => by
  rw [upd_ne (ne_of_none e n)]
  exact s _ _ e
theorem tk_at {K : PySem.W.Frag} {H : Hp} {D : Addr} {o : HO} (n : ∀ xs, ¬ Rd H D (.tup xs)) : TKeep K H (upd H D o) := fun a xs h => by
  rcases h with (h | ⟨u, h⟩) | h
  · refine .inl (.inl ?_)
    rw [upd_ne fun z => n xs (.inl (by rw [← z]; exact h))]
    exact h
  · refine .inl (.inr ⟨u, ?_⟩)
    rw [upd_ne fun z => n xs (.inr ⟨u, by rw [← z]; exact h⟩)]
    exact h
  · exact .inr h
theorem no_tup {H : Hp} {D : Addr} {o : HO} (e : H D = some o) (h1 : ∀ xs, o ≠ .tup xs) (h2 : ∀ u xs, o ≠ .frz u (.tup xs)) : ∀ xs, ¬ Rd H D (.tup xs) := fun xs h => by
  rcases h with h | ⟨u, h⟩
  · rw [e] at h
    exact h1 _ (Option.some.inj h)
  · rw [e] at h
    exact h2 _ _ (Option.some.inj h)
theorem tk_d {K : PySem.W.Frag} {H : Hp} {D : Addr} {kvs : List (Key × V)} {o : HO} (e : H D = some (.dK kvs)) : TKeep K H (upd H D o) := tk_at (no_tup e (fun _ z => by cases z) (fun _ _ z => by cases z))
theorem tk_i {K : PySem.W.Frag} {H : Hp} {D C dx : Addr} {fs : List (Str × V)} {o : HO} (e : H D = some (.ins C dx fs)) : TKeep K H (upd H D o) := tk_at (no_tup e (fun _ z => by cases z) (fun _ _ z => by cases z))
section
variable {P : Program} {w : World} {K : PySem.W.Frag} {mg : Str → Option Value} {base : Heap}
def sp_Made__init (K : PySem.W.Frag) (CT : Nat → Addr) : Sp := fun vs H Q _ => ∃ (H0 : Hp) (p dx : Addr), vs = [.ref p] ∧ H p = some (.ins (CT 0) dx []) ∧ Same H0 H ∧ H0 p = none ∧ ∀ (H' : Hp) (L R B M : Addr), MadeN K (CT 0) H0 H' p L R B M MS.nil → Q .non H'
theorem ok_Made__init {f : Addr} {fd : FuncData} (F : Fun K "__init__" "Made.__init__" s_Made__init f fd) (T : Txt K mg) {CT : Nat → Addr} (TC : ClT K w mg CT) : FnOk P w K mg base CX0 1 f fd ["self"] (sp_Made__init K CT) := by
  refine F.ok sc_Made__init (fun vs H Q E h => ?_) (fun cdv A outer s H vs Q E hr h => ?_)
  · obtain ⟨H0, p, dx, rfl, _⟩ := h
    rfl
  · obtain ⟨H0, p, dx, rfl, hp, s0, n0, q⟩ := h
    refine ⟨_, (pss_cons (ps_fld (pv 0) (pe_lst pa_nil) rfl)
      (pss_cons (ps_fld (pv 0) pe_dnewK rfl)
      (pss_cons (ps_fld (pv 0) pe_dnewK rfl)
      (pss_one (ps_fld (pv 0) (pe_lst pa_nil) rfl))))), ?_⟩
    refine ⟨Nat.zero_le _, fun L nL => ?_⟩
    obtain ⟨s1, e1⟩ := new_at (.lst []) nL
    generalize upd H L (.lst []) = H1 at s1 e1 ⊢
    have p1 := s1 _ _ hp
    refine ⟨_, rfl, p, _, dx, _, rfl, p1, TC.cM, TC.n1, (by show 0 < 1000; decide), ?_⟩
    have L0 : H0 L = none := s0.free nL
    have s2 := same_n (s0.trans s1) n0 (.ins (CT 0) dx (putF "layers" (.ref L) []))
    have e2 : upd H1 p (.ins (CT 0) dx (putF "layers" (.ref L) [])) L = some (.lst []) := by rw [upd_ne (ne_of e1 p1 (by intro z; cases z))]; exact e1
    have p2 : upd H1 p (.ins (CT 0) dx (putF "layers" (.ref L) [])) p = some (.ins (CT 0) dx (putF "layers" (.ref L) [])) := upd_same
    generalize upd H1 p (.ins (CT 0) dx (putF "layers" (.ref L) [])) = H2 at s2 e2 p2 ⊢
    refine fun R nR => ?_
    obtain ⟨s3, e3⟩ := new_at (.dK []) nR
    generalize upd H2 R (.dK []) = H3 at s3 e3 ⊢
    have R0 : H0 R = none := s2.free nR
    have p3 := s3 _ _ p2
    refine ⟨_, rfl, p, _, dx, _, rfl, p3, TC.cM, TC.n2, (by show 1 < 1000; decide), ?_⟩
    have s4 := same_n (s2.trans s3) n0 (.ins (CT 0) dx (putF "rows" (.ref R) (putF "layers" (.ref L) [])))
    have e4 : upd H3 p (.ins (CT 0) dx (putF "rows" (.ref R) (putF "layers" (.ref L) []))) L = some (.lst []) := by rw [upd_ne (ne_of (s3 _ _ e2) p3 (by intro z; cases z))]; exact s3 _ _ e2
    have d4 : upd H3 p (.ins (CT 0) dx (putF "rows" (.ref R) (putF "layers" (.ref L) []))) R = some (.dK []) := by rw [upd_ne (ne_of e3 p3 (by intro z; cases z))]; exact e3
    have p4 : upd H3 p (.ins (CT 0) dx (putF "rows" (.ref R) (putF "layers" (.ref L) []))) p = some (.ins (CT 0) dx (putF "rows" (.ref R) (putF "layers" (.ref L) []))) := upd_same
    generalize upd H3 p (.ins (CT 0) dx (putF "rows" (.ref R) (putF "layers" (.ref L) []))) = H4 at s4 e4 d4 p4 ⊢
    refine fun B nB => ?_
    obtain ⟨s5, e5⟩ := new_at (.dK []) nB
    generalize upd H4 B (.dK []) = H5 at s5 e5 ⊢
    have B0 : H0 B = none := s4.free nB
    have p5 := s5 _ _ p4
    have nRB : R ≠ B := ne_of_none d4 nB
    refine ⟨_, rfl, p, _, dx, _, rfl, p5, TC.cM, TC.n3, (by show 2 < 1000; decide), ?_⟩
    have s6 := same_n (s4.trans s5) n0 (.ins (CT 0) dx (putF "backs" (.ref B) (putF "rows" (.ref R) (putF "layers" (.ref L) []))))
    have e6 : upd H5 p (.ins (CT 0) dx (putF "backs" (.ref B) (putF "rows" (.ref R) (putF "layers" (.ref L) [])))) L = some (.lst []) := by rw [upd_ne (ne_of (s5 _ _ e4) p5 (by intro z; cases z))]; exact s5 _ _ e4
    have d6 : upd H5 p (.ins (CT 0) dx (putF "backs" (.ref B) (putF "rows" (.ref R) (putF "layers" (.ref L) [])))) R = some (.dK []) := by rw [upd_ne (ne_of (s5 _ _ d4) p5 (by intro z; cases z))]; exact s5 _ _ d4
    have b6 : upd H5 p (.ins (CT 0) dx (putF "backs" (.ref B) (putF "rows" (.ref R) (putF "layers" (.ref L) [])))) B = some (.dK []) := by rw [upd_ne (ne_of e5 p5 (by intro z; cases z))]; exact e5
    have p6 : upd H5 p (.ins (CT 0) dx (putF "backs" (.ref B) (putF "rows" (.ref R) (putF "layers" (.ref L) [])))) p = some (.ins (CT 0) dx (putF "backs" (.ref B) (putF "rows" (.ref R) (putF "layers" (.ref L) [])))) := upd_same
    generalize upd H5 p (.ins (CT 0) dx (putF "backs" (.ref B) (putF "rows" (.ref R) (putF "layers" (.ref L) [])))) = H6 at s6 e6 d6 b6 p6 ⊢
    refine ⟨Nat.zero_le _, fun M nM => ?_⟩
    obtain ⟨s7, e7⟩ := new_at (.lst []) nM
    generalize upd H6 M (.lst []) = H7 at s7 e7 ⊢
    have M0 : H0 M = none := s6.free nM
    have p7 := s7 _ _ p6
    have nLM : L ≠ M := ne_of_none e6 nM
    refine ⟨_, rfl, p, _, dx, _, rfl, p7, TC.cM, TC.n4, (by show 3 < 1000; decide), ?_⟩
    have s8 := same_n (s6.trans s7) n0 (.ins (CT 0) dx (putF "moves" (.ref M) (putF "backs" (.ref B) (putF "rows" (.ref R) (putF "layers" (.ref L) [])))))
    refine q _ L R B M ⟨s8, ⟨⟨dx, upd_same⟩, ?_, ⟨[], ?_, .nil⟩, ⟨[], ?_, .nil⟩, ⟨[], ?_, .nil⟩, nLM, nRB⟩, n0, L0, R0, B0, M0⟩
    · rw [upd_ne (ne_of (s7 _ _ e6) p7 (by intro z; cases z))]; exact s7 _ _ e6
    · rw [upd_ne (ne_of (s7 _ _ d6) p7 (by intro z; cases z))]; exact s7 _ _ d6
    · rw [upd_ne (ne_of (s7 _ _ b6) p7 (by intro z; cases z))]; exact s7 _ _ b6
    · rw [upd_ne (ne_of e7 p7 (by intro z; cases z))]; exact e7
end

theorem made_ob {K : PySem.W.Frag} {C : Addr} {H : Hp} {x dx0 dx L R B M : Addr} {fs : List (Str × V)} {S : MS} (hx : H x = some (.ins C dx0 fs)) (ly : H L = some (.lst (S.layers.map V.int))) (rw' : ∃ kvs, H R = some (.dK kvs) ∧ AsP (T3At K H) kvs S.rows)
    (bk : ∃ kvs, H B = some (.dK kvs) ∧ AsP (fun v o => v = bkV o) kvs S.backs) (mv : ∃ ms, H M = some (.lst ms) ∧ Paired (MoveAt K H) ms S.moves) (nLM : L ≠ M) (nRB : R ≠ B) : MadeC K C (upd H x (.ins C dx (fM L R B M))) x L R B M S := by
  obtain ⟨kr, h3, h3'⟩ := rw'
  obtain ⟨kb, h4, h4'⟩ := bk
  obtain ⟨ms, h5, h5'⟩ := mv
  have t : TKeep K H (upd H x (.ins C dx (fM L R B M))) := tk_i hx
  refine ⟨⟨dx, upd_same⟩, ?_, ⟨kr, ?_, AsP.mono (fun _ _ => T3At.keep t) h3'⟩, ⟨kb, ?_, h4'⟩, ⟨ms, ?_, Paired.mono h5' fun _ _ => MoveAt.keep t⟩, nLM, nRB⟩
  · rw [upd_ne (ne_of ly hx (by intro z; cases z))]; exact ly
  · rw [upd_ne (ne_of h3 hx (by intro z; cases z))]; exact h3
  · rw [upd_ne (ne_of h4 hx (by intro z; cases z))]; exact h4
  · rw [upd_ne (ne_of h5 hx (by intro z; cases z))]; exact h5
section
variable {P : Program} {w : World} {K : PySem.W.Frag} {mg : Str → Option Value} {base : Heap}
def sp_Made__twin (K : PySem.W.Frag) (CT : Nat → Addr) : Sp := fun vs H Q _ => ∃ (p L R B M : Addr) (S : MS), vs = [.ref p] ∧ MadeC K (CT 0) H p L R B M S ∧ ∀ (H' : Hp) (p' L' R' B' M' : Addr), MadeN K (CT 0) H H' p' L' R' B' M' S → Q (.ref p') H'
theorem ok_Made__twin {f : Addr} {fd : FuncData} (F : Fun K "twin" "Made.twin" s_Made__twin f fd) (T : Txt K mg) {CT : Nat → Addr} (TC : ClT K w mg CT) (D_Made__init : Mi P w K mg base 1 (CT 0) "Made" ["self"] (sp_Made__init K CT)) : FnOk P w K mg base CX0 3 f fd ["self"] (sp_Made__twin K CT) := by
  refine F.ok sc_Made__twin (fun vs H Q E h => ?_) (fun cdv A outer s H vs Q E hr h => ?_)
  · obtain ⟨p, L, R, B, M, S, rfl, _⟩ := h
    rfl
  · obtain ⟨p, L, R, B, M, S, rfl, c, q⟩ := h
    refine ⟨_, (pss_cons (ps_set (i := 1) sc_Made__twin.nd rfl (Or.inl rfl) (pe_new D_Made__init (hr.mono (by omega)) (by rfl)))
      (pss_cons (ps_fld (pv 1) (pe_callTy call_list_of (by rfl) T.b_list (by decide +kernel) (pa_cons (pe_fld (pv 0) rfl) pa_nil)) rfl)
      (pss_cons (ps_fld (pv 1) (pe_callTy call_dictC (by rfl) T.b_dict (by decide +kernel) (pa_cons (pe_fld (pv 0) rfl) pa_nil)) rfl)
      (pss_cons (ps_fld (pv 1) (pe_callTy call_dictC (by rfl) T.b_dict (by decide +kernel) (pa_cons (pe_fld (pv 0) rfl) pa_nil)) rfl)
      (pss_cons (ps_fld (pv 1) (pe_callTy call_list_of (by rfl) T.b_list (by decide +kernel) (pa_cons (pe_fld (pv 0) rfl) pa_nil)) rfl)
      (pss_one (ps_ret (pv 1)))))))), ?_⟩
    intro x dx nx ndx nex
    have s0 : Same H (upd (upd H dx (.own x)) x (.ins (CT 0) dx [])) := fun b o e => by
      rw [upd_ne (ne_of_none e nx), upd_ne (ne_of_none e ndx)]
      exact e
    refine ⟨H, x, dx, rfl, upd_same, s0, nx, fun H1 L1 R1 B1 M1 m1 => ⟨rfl, ?_⟩⟩
    have st := m1.s
    have c1 := c.same st
    obtain ⟨dp, cob⟩ := c1.ob
    obtain ⟨⟨d1, ob1⟩, ly1, ⟨kr1, er1, hr1⟩, ⟨kb1, eb1, hb1⟩, ⟨ms1, em1, hm1⟩, nl1, nr1⟩ := m1.c
    have nR := m1.nR
    have nB := m1.nB
    have nM := m1.nM
    -- layers
    refine ⟨_, rfl, p, _, dp, _, _, rfl, cob, TC.cM, TC.n1, fM_layers, L, _, rfl, .inl (.inl (.inl c1.ly)), fun X nX => ?_⟩
    obtain ⟨s2, e2⟩ := new_at (.lst (S.layers.map V.int)) nX
    generalize upd H1 X (.lst (S.layers.map V.int)) = H2 at s2 e2 ⊢
    have ob2 := s2 _ _ ob1
    refine ⟨_, rfl, x, _, d1, _, rfl, ob2, TC.cM, TC.n1, (by show 4 < 1000; decide), ?_⟩
    have X0 : H X = none := st.free nX
    have nXM : X ≠ M1 := fun z => by rw [z, em1] at nX; cases nX
    have c3 : MadeC K (CT 0) (upd H2 x (.ins (CT 0) d1 (putF "layers" (.ref X) (fM L1 R1 B1 M1)))) x X R1 B1 M1 ⟨S.layers, [], [], []⟩ := by
      rw [fM_p1]
      exact made_ob ob2 e2 ⟨kr1, s2 _ _ er1, AsP.mono (fun _ _ => T3At.keep (Same.tk s2)) hr1⟩ ⟨kb1, s2 _ _ eb1, hb1⟩ ⟨ms1, s2 _ _ em1, Paired.mono hm1 fun _ _ => MoveAt.keep (Same.tk s2)⟩ nXM nr1
    have st3 : Same H (upd H2 x (.ins (CT 0) d1 (putF "layers" (.ref X) (fM L1 R1 B1 M1)))) := same_n (st.trans s2) nx _
    generalize upd H2 x (.ins (CT 0) d1 (putF "layers" (.ref X) (fM L1 R1 B1 M1))) = H3 at c3 st3 ⊢
    clear ob1 er1 hr1 eb1 hb1 em1 hm1 s2 e2 ob2 cob c1 kr1 kb1 ms1
    -- rows
    have c1 := c.same st3
    obtain ⟨dp, cob⟩ := c1.ob
    obtain ⟨⟨d1, ob1⟩, ly1, ⟨kr1, er1, hr1⟩, ⟨kb1, eb1, hb1⟩, ⟨ms1, em1, hm1⟩, nl1, nr1⟩ := c3
    obtain ⟨kv, ekv, hkv⟩ := c1.rw
    refine ⟨_, rfl, p, _, dp, _, _, rfl, cob, TC.cM, TC.n2, fM_rows, R, kv, rfl, ekv, fun Y nY => ?_⟩
    obtain ⟨s2, e2⟩ := new_at (.dK kv) nY
    generalize upd H3 Y (.dK kv) = H2 at s2 e2 ⊢
    have ob2 := s2 _ _ ob1
    refine ⟨_, rfl, x, _, d1, _, rfl, ob2, TC.cM, TC.n2, (by show 4 < 1000; decide), ?_⟩
    have Y0 : H Y = none := st3.free nY
    have nYB : Y ≠ B1 := fun z => by rw [z, eb1] at nY; cases nY
    have c3 : MadeC K (CT 0) (upd H2 x (.ins (CT 0) d1 (putF "rows" (.ref Y) (fM X R1 B1 M1)))) x X Y B1 M1 ⟨S.layers, S.rows, [], []⟩ := by
      rw [fM_p2]
      exact made_ob ob2 (s2 _ _ ly1) ⟨kv, e2, AsP.mono (fun _ _ => T3At.keep (Same.tk s2)) hkv⟩ ⟨kb1, s2 _ _ eb1, hb1⟩ ⟨ms1, s2 _ _ em1, Paired.mono hm1 fun _ _ => MoveAt.keep (Same.tk s2)⟩ nXM nYB
    have st4 : Same H (upd H2 x (.ins (CT 0) d1 (putF "rows" (.ref Y) (fM X R1 B1 M1)))) := same_n (st3.trans s2) nx _
    generalize upd H2 x (.ins (CT 0) d1 (putF "rows" (.ref Y) (fM X R1 B1 M1))) = H4 at c3 st4 ⊢
    clear ob1 er1 hr1 eb1 hb1 em1 hm1 s2 e2 ob2 cob c1 kr1 kb1 ms1 ekv hkv kv ly1
    -- backs
    have c1 := c.same st4
    obtain ⟨dp, cob⟩ := c1.ob
    obtain ⟨⟨d1, ob1⟩, ly1, ⟨kr1, er1, hr1⟩, ⟨kb1, eb1, hb1⟩, ⟨ms1, em1, hm1⟩, nl1, nr1⟩ := c3
    obtain ⟨kv, ekv, hkv⟩ := c1.bk
    refine ⟨_, rfl, p, _, dp, _, _, rfl, cob, TC.cM, TC.n3, fM_backs, B, kv, rfl, ekv, fun Z nZ => ?_⟩
    obtain ⟨s2, e2⟩ := new_at (.dK kv) nZ
    generalize upd H4 Z (.dK kv) = H2 at s2 e2 ⊢
    have ob2 := s2 _ _ ob1
    refine ⟨_, rfl, x, _, d1, _, rfl, ob2, TC.cM, TC.n3, (by show 4 < 1000; decide), ?_⟩
    have Z0 : H Z = none := st4.free nZ
    have nYZ : Y ≠ Z := fun z => by rw [← z, er1] at nZ; cases nZ
    have c3 : MadeC K (CT 0) (upd H2 x (.ins (CT 0) d1 (putF "backs" (.ref Z) (fM X Y B1 M1)))) x X Y Z M1 ⟨S.layers, S.rows, S.backs, []⟩ := by
      rw [fM_p3]
      exact made_ob ob2 (s2 _ _ ly1) ⟨kr1, s2 _ _ er1, AsP.mono (fun _ _ => T3At.keep (Same.tk s2)) hr1⟩ ⟨kv, e2, hkv⟩ ⟨ms1, s2 _ _ em1, Paired.mono hm1 fun _ _ => MoveAt.keep (Same.tk s2)⟩ nXM nYZ
    have st5 : Same H (upd H2 x (.ins (CT 0) d1 (putF "backs" (.ref Z) (fM X Y B1 M1)))) := same_n (st4.trans s2) nx _
    generalize upd H2 x (.ins (CT 0) d1 (putF "backs" (.ref Z) (fM X Y B1 M1))) = H5 at c3 st5 ⊢
    clear ob1 er1 hr1 eb1 hb1 em1 hm1 s2 e2 ob2 cob c1 kr1 kb1 ms1 ekv hkv kv ly1
    -- moves
    have c1 := c.same st5
    obtain ⟨dp, cob⟩ := c1.ob
    obtain ⟨⟨d1, ob1⟩, ly1, ⟨kr1, er1, hr1⟩, ⟨kb1, eb1, hb1⟩, ⟨ms1, em1, hm1⟩, nl1, nr1⟩ := c3
    obtain ⟨mv, emv, hmv⟩ := c1.mv
    refine ⟨_, rfl, p, _, dp, _, _, rfl, cob, TC.cM, TC.n4, fM_moves, M, _, rfl, .inl (.inl (.inl emv)), fun W nW => ?_⟩
    obtain ⟨s2, e2⟩ := new_at (.lst mv) nW
    generalize upd H5 W (.lst mv) = H2 at s2 e2 ⊢
    have ob2 := s2 _ _ ob1
    refine ⟨_, rfl, x, _, d1, _, rfl, ob2, TC.cM, TC.n4, (by show 4 < 1000; decide), ?_⟩
    have W0 : H W = none := st5.free nW
    have nXW : X ≠ W := fun z => by rw [← z, ly1] at nW; cases nW
    have c3 : MadeC K (CT 0) (upd H2 x (.ins (CT 0) d1 (putF "moves" (.ref W) (fM X Y Z M1)))) x X Y Z W S := by
      rw [fM_p4]
      exact made_ob ob2 (s2 _ _ ly1) ⟨kr1, s2 _ _ er1, AsP.mono (fun _ _ => T3At.keep (Same.tk s2)) hr1⟩ ⟨kb1, s2 _ _ eb1, hb1⟩ ⟨mv, e2, Paired.mono hmv fun _ _ => MoveAt.keep (Same.tk s2)⟩ nXW nr1
    exact ⟨_, rfl, q _ x X Y Z W ⟨same_n (st5.trans s2) nx _, c3, nx, X0, Y0, Z0, W0⟩⟩
end

section
variable {K : PySem.W.Frag} {C : Addr} {H0 H : Hp} {p L R B M : Addr} {S : MS}
theorem MadeN.rows (h : MadeN K C H0 H p L R B M S) {rows : List (Int × T3)} {kvs : List (Key × V)} (hk : AsP (T3At K H) kvs rows) : MadeN K C H0 (upd H R (.dK kvs)) p L R B M { S with rows := rows } := by
  obtain ⟨s, c, np, nL, nR, nB, nM⟩ := h
  obtain ⟨a1, a2, a3, a4, a5, a6, a7, a8⟩ := c.nn
  obtain ⟨⟨dx, h1⟩, h2, ⟨kr, h3, h3'⟩, ⟨kb, h4, h4'⟩, ⟨ms, h5, h5'⟩, nl, nr⟩ := c
  have t : TKeep K H (upd H R (.dK kvs)) := tk_d h3
  exact ⟨same_n s nR _, ⟨⟨dx, by rw [upd_ne a2]; exact h1⟩, by rw [upd_ne a5]; exact h2, ⟨kvs, upd_same, AsP.mono (fun _ _ => T3At.keep t) hk⟩, ⟨kb, by rw [upd_ne (Ne.symm nr)]; exact h4, h4'⟩, ⟨ms, by rw [upd_ne (Ne.symm a7)]; exact h5, Paired.mono h5' fun _ _ => MoveAt.keep t⟩, nl, nr⟩, np, nL, nR, nB, nM⟩
theorem MadeN.backs (h : MadeN K C H0 H p L R B M S) {bs : List (Int × Option Int)} {kvs : List (Key × V)} (hk : AsP (fun v o => v = bkV o) kvs bs) : MadeN K C H0 (upd H B (.dK kvs)) p L R B M { S with backs := bs } := by
  obtain ⟨s, c, np, nL, nR, nB, nM⟩ := h
  obtain ⟨a1, a2, a3, a4, a5, a6, a7, a8⟩ := c.nn
  obtain ⟨⟨dx, h1⟩, h2, ⟨kr, h3, h3'⟩, ⟨kb, h4, h4'⟩, ⟨ms, h5, h5'⟩, nl, nr⟩ := c
  have t : TKeep K H (upd H B (.dK kvs)) := tk_d h4
  exact ⟨same_n s nB _, ⟨⟨dx, by rw [upd_ne a3]; exact h1⟩, by rw [upd_ne a6]; exact h2, ⟨kr, by rw [upd_ne nr]; exact h3, AsP.mono (fun _ _ => T3At.keep t) h3'⟩, ⟨kvs, upd_same, hk⟩, ⟨ms, by rw [upd_ne (Ne.symm a8)]; exact h5, Paired.mono h5' fun _ _ => MoveAt.keep t⟩, nl, nr⟩, np, nL, nR, nB, nM⟩
theorem MadeN.layers (h : MadeN K C H0 H p L R B M S) (ns : List Int) : MadeN K C H0 (upd H L (.lst (ns.map V.int))) p L R B M { S with layers := ns } := by
  obtain ⟨s, c, np, nL, nR, nB, nM⟩ := h
  obtain ⟨a1, a2, a3, a4, a5, a6, a7, a8⟩ := c.nn
  obtain ⟨⟨dx, h1⟩, h2, ⟨kr, h3, h3'⟩, ⟨kb, h4, h4'⟩, ⟨ms, h5, h5'⟩, nl, nr⟩ := c
  have t : TKeep K H (upd H L (.lst (ns.map V.int))) := fun a zs h => tk_updL h2 _ _ h
  exact ⟨same_n s nL _, ⟨⟨dx, by rw [upd_ne a1]; exact h1⟩, upd_same, ⟨kr, by rw [upd_ne (Ne.symm a5)]; exact h3, AsP.mono (fun _ _ => T3At.keep t) h3'⟩, ⟨kb, by rw [upd_ne (Ne.symm a6)]; exact h4, h4'⟩, ⟨ms, by rw [upd_ne (Ne.symm nl)]; exact h5, Paired.mono h5' fun _ _ => MoveAt.keep t⟩, nl, nr⟩, np, nL, nR, nB, nM⟩
theorem MadeN.moves (h : MadeN K C H0 H p L R B M S) {ms' : List V} {mv : List MV} (hm : Paired (MoveAt K H) ms' mv) : MadeN K C H0 (upd H M (.lst ms')) p L R B M { S with moves := mv } := by
  obtain ⟨s, c, np, nL, nR, nB, nM⟩ := h
  obtain ⟨a1, a2, a3, a4, a5, a6, a7, a8⟩ := c.nn
  obtain ⟨⟨dx, h1⟩, h2, ⟨kr, h3, h3'⟩, ⟨kb, h4, h4'⟩, ⟨ms, h5, h5'⟩, nl, nr⟩ := c
  have t : TKeep K H (upd H M (.lst ms')) := fun a zs h => tk_updL h5 _ _ h
  exact ⟨same_n s nM _, ⟨⟨dx, by rw [upd_ne a4]; exact h1⟩, by rw [upd_ne nl]; exact h2, ⟨kr, by rw [upd_ne a7]; exact h3, AsP.mono (fun _ _ => T3At.keep t) h3'⟩, ⟨kb, by rw [upd_ne a8]; exact h4, h4'⟩, ⟨ms', upd_same, Paired.mono hm fun _ _ => MoveAt.keep t⟩, nl, nr⟩, np, nL, nR, nB, nM⟩
theorem MadeN.same (h : MadeN K C H0 H p L R B M S) {H' : Hp} (s' : Same H H') : MadeN K C H0 H' p L R B M S := ⟨h.s.trans s', h.c.same s', h.np, h.nL, h.nR, h.nB, h.nM⟩
end
/-- a deed of a row: its word, the row, what comes -/
inductive RowDeed : Dd → Int → Int → Prop
  | draw (r d : Int) : RowDeed (.draw r d) r d
  | hold (r h : Int) : RowDeed (.hold r h) r h
  | drop (r : Int) : RowDeed (.drop r) r r
  | round (r : Int) : RowDeed (.round r) r r
theorem ifY {b : Bool} {A B : Prop} (e : b = true) (h : A) : if b = true then A else B := by rw [if_pos e]; exact h
theorem ifN {b : Bool} {A B : Prop} (e : b = false) (h : B) : if b = true then A else B := by rw [if_neg (by rw [e]; decide)]; exact h
theorem sv_no {a b : Str} (h : a ≠ b) : decide (V.str a = .str b) = false := decide_eq_false fun z => h (V.str.inj z)
theorem sv_ne {a b : Str} (h : a ≠ b) : ¬ decide (V.str a = .str b) = true := fun z => h (V.str.inj (of_decide_eq_true z))
section
variable {P : Program} {w : World} {K : PySem.W.Frag} {mg : Str → Option Value} {base : Heap}
def sp_Made__follow_row (K : PySem.W.Frag) (CT : Nat → Addr) : Sp := fun vs H Q _ => ∃ (H0 : Hp) (p L R B M : Addr) (S : MS) (δ : Dd) (r nw n : Int), vs = [.ref p, .str δ.word, .int r, .int nw] ∧ RowDeed δ r nw ∧ rowOk S δ ∧ S.small 500 ∧ MadeN K (CT 0) H0 H p L R B M S ∧ ∀ H', MadeN K (CT 0) H0 H' p L R B M (fol S n δ) → Q .non H'
theorem ok_Made__follow_row {f : Addr} {fd : FuncData} (F : Fun K "follow_row" "Made.follow_row" s_Made__follow_row f fd) (T : Txt K mg) {CT : Nat → Addr} (TC : ClT K w mg CT) : FnOk P w K mg base CX0 1 f fd ["self", "word", "row", "new"] (sp_Made__follow_row K CT) := by
  refine F.ok sc_Made__follow_row (fun vs H Q E h => ?_) (fun cdv A outer s H vs Q E hr h => ?_)
  · obtain ⟨H0, p, L, R, B, M, S, δ, r, nw, n, rfl, _⟩ := h
    rfl
  · obtain ⟨H0, p, L, R, B, M, S, δ, r, nw, n, rfl, hd, hok, sm, m, q⟩ := h
    obtain ⟨dx, hob⟩ := m.c.ob
    obtain ⟨kvs, hR, hA⟩ := m.c.rw
    obtain ⟨kb, hB, hBk⟩ := m.c.bk
    have lk : kvs.length ≤ 500 := by rw [AsP.len hA]; exact sm.2.1
    have lb : kb.length ≤ 500 := by rw [AsP.len hBk]; exact sm.2.2.1
    obtain ⟨x, hx⟩ : ∃ x, asV S.rows r = some x := by
      cases hd <;> exact Option.isSome_iff_exists.mp hok
    obtain ⟨v, hv, px, rfl, hpx⟩ : ∃ v, valV kvs (Sum.inl r) = some v ∧ T3At K H v x := by
      rcases AsP.val hA r with ⟨e, _⟩ | ⟨x', v, e1, e2, e3⟩
      · rw [hx] at e; cases e
      · rw [hx] at e1; cases e1; exact ⟨v, e2, e3⟩
    refine ⟨_, (pss_cons (ps_asg (pe_dget (Nat.lt_of_le_of_lt (Nat.add_le_add_left (show 1 ≤ 64 by decide) _) hr.units) (pe_fld (pv 0) rfl) (pv 2) (fun _ _ => rfl)) (pg_tup (by rfl) (pgs_cons (pg_name (i := 4) sc_Made__follow_row.nd rfl (Or.inl rfl)) (pgs_cons (pg_name (i := 5) sc_Made__follow_row.nd rfl (Or.inl rfl)) (pgs_cons (pg_name (i := 6) sc_Made__follow_row.nd rfl (Or.inl rfl)) pgs_nil)))))
      (pss_one (ps_if (pt_cmpR op_eq (pv 1) pe_str (nomark _)) (pss_one (ps_dput (Nat.lt_of_le_of_lt (Nat.add_le_add_left (show 1 ≤ 64 by decide) _) hr.units) (pe_fld (pv 0) rfl) (pv 2) (pe_tup (pa_cons (pv 4) (pa_cons (pv 3) (pa_cons (pv 6) pa_nil)))) rfl)) (pss_one (ps_if (pt_cmpR op_eq (pv 1) pe_str (nomark _)) (pss_one (ps_dput (Nat.lt_of_le_of_lt (Nat.add_le_add_left (show 1 ≤ 64 by decide) _) hr.units) (pe_fld (pv 0) rfl) (pv 2) (pe_tup (pa_cons (pv 4) (pa_cons (pv 5) (pa_cons (pv 3) pa_nil)))) rfl)) (pss_one (ps_if (pt_cmpR op_eq (pv 1) pe_str (nomark _)) (pss_one (ps_dput (Nat.lt_of_le_of_lt (Nat.add_le_add_left (show 1 ≤ 64 by decide) _) hr.units) (pe_fld (pv 0) rfl) (pv 4) (pv 2) rfl)) (pss_one (ps_ddel (pe_fld (pv 0) rfl) (pv 2)))))))))), ?_⟩
    have hg : DGet H R (.int r) (some (.ref px)) := by rw [← hv]; exact DGet.k (k := Sum.inl r) hR
    refine ⟨_, rfl, p, _, dx, _, _, rfl, hob, TC.cM, TC.n2, fM_rows, _, rfl, R, _, rfl, hg, px, _, rfl, hpx, rfl, _, _, rfl, _, _, rfl, _, _, rfl, rfl, ?_⟩
    cases hd with
    | draw =>
      refine ⟨_, rfl, rfl, _, rfl, ifY (decide_eq_true rfl) ?_⟩
      refine ⟨_, rfl, _, rfl, _, rfl, (by show 3 ≤ sizeLine; decide), fun y ny => ?_⟩
      obtain ⟨s1, e1⟩ := new_at (.tup [.int x.1, .int nw, .int x.2.2]) ny
      generalize upd H y (.tup [.int x.1, .int nw, .int x.2.2]) = H1 at s1 e1 ⊢
      refine ⟨_, rfl, p, _, dx, _, _, rfl, s1 _ _ hob, TC.cM, TC.n2, fM_rows, _, rfl, R, _, rfl, DPut.k (k := Sum.inl r) (s1 _ _ hR) (small1000 (by omega)), ?_⟩
      refine q _ ?_
      rw [fol_draw hx]
      exact (m.same s1).rows (AsP.put (AsP.mono (fun _ _ => T3At.keep (Same.tk s1)) hA) ⟨y, rfl, .inl (.inl e1)⟩)
    | hold =>
      refine ⟨_, rfl, rfl, _, rfl, ifN (sv_no (a := "hold") (b := "draw") (by decide +kernel)) ?_⟩
      refine ⟨_, rfl, rfl, _, rfl, ifY (decide_eq_true rfl) ?_⟩
      refine ⟨_, rfl, _, rfl, _, rfl, (by show 3 ≤ sizeLine; decide), fun y ny => ?_⟩
      obtain ⟨s1, e1⟩ := new_at (.tup [.int x.1, .int x.2.1, .int nw]) ny
      generalize upd H y (.tup [.int x.1, .int x.2.1, .int nw]) = H1 at s1 e1 ⊢
      refine ⟨_, rfl, p, _, dx, _, _, rfl, s1 _ _ hob, TC.cM, TC.n2, fM_rows, _, rfl, R, _, rfl, DPut.k (k := Sum.inl r) (s1 _ _ hR) (small1000 (by omega)), ?_⟩
      refine q _ ?_
      rw [fol_hold hx]
      exact (m.same s1).rows (AsP.put (AsP.mono (fun _ _ => T3At.keep (Same.tk s1)) hA) ⟨y, rfl, .inl (.inl e1)⟩)
    | drop =>
      refine ⟨_, rfl, rfl, _, rfl, ifN (sv_no (a := "drop") (b := "draw") (by decide +kernel)) ?_⟩
      refine ⟨_, rfl, rfl, _, rfl, ifN (sv_no (a := "drop") (b := "hold") (by decide +kernel)) ?_⟩
      refine ⟨_, rfl, rfl, _, rfl, ifN (sv_no (a := "drop") (b := "round") (by decide +kernel)) ?_⟩
      refine ⟨_, rfl, p, _, dx, _, _, rfl, hob, TC.cM, TC.n2, fM_rows, _, rfl, R, kvs, Sum.inl r, rfl, hR, rfl, (by rw [hv]; rfl), ?_⟩
      exact q _ (m.rows (AsP.drop hA r))
    | round =>
      refine ⟨_, rfl, rfl, _, rfl, ifN (sv_no (a := "round") (b := "draw") (by decide +kernel)) ?_⟩
      refine ⟨_, rfl, rfl, _, rfl, ifN (sv_no (a := "round") (b := "hold") (by decide +kernel)) ?_⟩
      refine ⟨_, rfl, rfl, _, rfl, ifY (decide_eq_true rfl) ?_⟩
      refine ⟨_, rfl, _, rfl, p, _, dx, _, _, rfl, hob, TC.cM, TC.n3, fM_backs, _, rfl, B, _, rfl, DPut.k (k := Sum.inl x.1) hB (small1000 (by omega)), ?_⟩
      refine q _ ?_
      rw [fol_round hx]
      exact m.backs (AsP.put hBk rfl)
def sp_Made__follow (K : PySem.W.Frag) (CT : Nat → Addr) : Sp := fun vs H Q _ => ∃ (H0 : Hp) (p L R B M : Addr) (S : MS) (δ : Dd) (v : V) (n : Int), vs = [.ref p, .int n, v] ∧ DeedAt K H v δ ∧ rowOk S δ ∧ S.small 500 ∧ MadeN K (CT 0) H0 H p L R B M S ∧ ∀ H', MadeN K (CT 0) H0 H' p L R B M (fol S n δ) → Q .non H'
theorem ok_Made__follow {f : Addr} {fd : FuncData} (F : Fun K "follow" "Made.follow" s_Made__follow f fd) (T : Txt K mg) {CT : Nat → Addr} (TC : ClT K w mg CT) (D_Made__follow_row : Ml P w K mg base 1 (CT 0) "follow_row" ["self", "word", "row", "new"] (sp_Made__follow_row K CT)) : FnOk P w K mg base CX0 2 f fd ["self", "number", "deed"] (sp_Made__follow K CT) := by
  refine F.ok sc_Made__follow (fun vs H Q E h => ?_) (fun cdv A outer s H vs Q E hr h => ?_)
  · obtain ⟨H0, p, L, R, B, M, S, δ, v, n, rfl, _⟩ := h
    rfl
  · obtain ⟨H0, p, L, R, B, M, S, δ, v, n, rfl, ⟨y, rfl, hy⟩, hok, sm, m, q⟩ := h
    obtain ⟨dx, hob⟩ := m.c.ob
    obtain ⟨kvs, hR, hA⟩ := m.c.rw
    obtain ⟨kb, hB, hBk⟩ := m.c.bk
    obtain ⟨ms, hM, hMs⟩ := m.c.mv
    have hL := m.c.ly
    have lk : kvs.length ≤ 500 := by rw [AsP.len hA]; exact sm.2.1
    have lb : kb.length ≤ 500 := by rw [AsP.len hBk]; exact sm.2.2.1
    have ll : S.layers.length ≤ 500 := sm.1
    have lm : ms.length ≤ 500 := by rw [Paired.length hMs]; exact sm.2.2.2
    have noF : (fM L R B M).lookup ("follow_row" : Str) = none := rfl
    refine ⟨_, (pss_cons (ps_set (i := 3) sc_Made__follow.nd rfl (Or.inl rfl) (pe_ix ix_tup (pv 2) pe_int (fun _ _ => rfl)))
      (pss_one (ps_if (pt_cmpR op_eq (pv 3) pe_str (nomark _)) (pss_one (ps_expr (pe_bm PySem.F.plainAttrs_list PySem.F.slot_list_append PySem.F.type_list_append mt_append (pe_fld (pv 0) rfl) (pa_cons (pv 1) pa_nil)))) (pss_one (ps_if (pt_cmpR op_eq (pv 3) pe_str (nomark _)) (pss_one (ps_dput (Nat.lt_of_le_of_lt (Nat.add_le_add_left (show 1 ≤ 64 by decide) _) hr.units) (pe_fld (pv 0) rfl) (pv 1) (pe_slice sl_tupA (pv 2) (po_some pe_int) po_none) rfl)) (pss_one (ps_if (pt_cmpR op_eq (pv 3) pe_str (nomark _)) (pss_one (ps_dput (Nat.lt_of_le_of_lt (Nat.add_le_add_left (show 1 ≤ 64 by decide) _) hr.units) (pe_fld (pv 0) rfl) (pe_ix ix_tup (pv 2) pe_int (fun _ _ => rfl)) pe_non rfl)) (pss_one (ps_if (pt_cmpR op_eq (pv 3) pe_str (nomark _)) (pss_one (ps_expr (pe_bm PySem.F.plainAttrs_list PySem.F.slot_list_append PySem.F.type_list_append mt_append (pe_fld (pv 0) rfl) (pa_cons (pe_slice sl_tupA (pv 2) (po_some pe_int) po_none) pa_nil)))) (pss_one (ps_expr (pe_mth D_Made__follow_row TC.cM (hr.mono (by omega)) (pv 0) (pa_cons (pv 3) (pa_cons (pe_ix ix_tup (pv 2) pe_int (fun _ _ => rfl)) (pa_cons (pe_ix ix_tup (pv 2) (pe_un un_neg pe_int) (fun _ _ => rfl)) pa_nil))))))))))))))), ?_⟩
    refine ⟨_, rfl, y, _, 0, .str δ.word, rfl, rfl, hy, at0, ?_⟩
    cases δ with
    | layer =>
      refine ⟨_, rfl, rfl, _, rfl, ifY (decide_eq_true rfl) ?_⟩
      refine ⟨_, rfl, p, _, dx, _, _, rfl, hob, TC.cM, TC.n1, fM_layers, .inl ⟨rfl, _, .inl (.inl hL)⟩, _, rfl, L, _, _, rfl, rfl, hL, small1000 (by rw [List.length_map]; omega), ?_⟩
      rw [show S.layers.map V.int ++ [V.int n] = (S.layers ++ [n]).map V.int by rw [List.map_append]; rfl]
      exact q _ (m.layers _)
    | row l d h =>
      refine ⟨_, rfl, rfl, _, rfl, ifN (sv_no (a := "row") (b := "layer") (by decide +kernel)) ?_⟩
      refine ⟨_, rfl, rfl, _, rfl, ifY (decide_eq_true rfl) ?_⟩
      refine ⟨_, rfl, 1, rfl, y, _, rfl, hy, fun z => absurd z.1 (by show ¬ (1 : Nat) = 0; decide), fun _ t nt => ?_⟩
      obtain ⟨s1, e1⟩ := new_at (.tup [.int l, .int d, .int h]) nt
      have e1' : upd H t (.tup (cutV (ddV (.row l d h)) (some 1) none)) t = some (.tup [.int l, .int d, .int h]) := e1
      have s1' : Same H (upd H t (.tup (cutV (ddV (.row l d h)) (some 1) none))) := s1
      generalize upd H t (.tup (cutV (ddV (.row l d h)) (some 1) none)) = H1 at s1' e1' ⊢
      refine ⟨_, rfl, p, _, dx, _, _, rfl, s1' _ _ hob, TC.cM, TC.n2, fM_rows, _, rfl, R, _, rfl, DPut.k (k := Sum.inl n) (s1' _ _ hR) (small1000 (by omega)), ?_⟩
      exact q _ ((m.same s1').rows (AsP.put (AsP.mono (fun _ _ => T3At.keep (Same.tk s1')) hA) ⟨t, rfl, .inl (.inl e1')⟩))
    | straight l =>
      refine ⟨_, rfl, rfl, _, rfl, ifN (sv_no (a := "straight") (b := "layer") (by decide +kernel)) ?_⟩
      refine ⟨_, rfl, rfl, _, rfl, ifN (sv_no (a := "straight") (b := "row") (by decide +kernel)) ?_⟩
      refine ⟨_, rfl, rfl, _, rfl, ifY (decide_eq_true rfl) ?_⟩
      refine ⟨_, rfl, p, _, dx, _, _, rfl, hob, TC.cM, TC.n3, fM_backs, _, rfl, y, _, 1, .int l, rfl, rfl, hy, at_n 1 rfl, B, _, rfl, DPut.k (k := Sum.inl l) hB (small1000 (by omega)), ?_⟩
      exact q _ (m.backs (AsP.put hBk rfl))
    | move a b c =>
      refine ⟨_, rfl, rfl, _, rfl, ifN (sv_no (a := "move") (b := "layer") (by decide +kernel)) ?_⟩
      refine ⟨_, rfl, rfl, _, rfl, ifN (sv_no (a := "move") (b := "row") (by decide +kernel)) ?_⟩
      refine ⟨_, rfl, rfl, _, rfl, ifN (sv_no (a := "move") (b := "straight") (by decide +kernel)) ?_⟩
      refine ⟨_, rfl, rfl, _, rfl, ifY (decide_eq_true rfl) ?_⟩
      refine ⟨_, rfl, p, _, dx, _, _, rfl, hob, TC.cM, TC.n4, fM_moves, .inl ⟨rfl, _, .inl (.inl hM)⟩, ?_⟩
      refine ⟨_, rfl, 1, rfl, y, _, rfl, hy, fun z => absurd z.1 (by show ¬ (1 : Nat) = 0; decide), fun _ t nt => ?_⟩
      obtain ⟨s1, e1⟩ := new_at (.tup [.int a, .int b, .int c]) nt
      have e1' : upd H t (.tup (cutV (ddV (.move a b c)) (some 1) none)) t = some (.tup [.int a, .int b, .int c]) := e1
      have s1' : Same H (upd H t (.tup (cutV (ddV (.move a b c)) (some 1) none))) := s1
      generalize upd H t (.tup (cutV (ddV (.move a b c)) (some 1) none)) = H1 at s1' e1' ⊢
      refine ⟨M, _, _, rfl, rfl, s1' _ _ hM, small1000 (by omega), ?_⟩
      exact q _ ((m.same s1').moves (Paired.snocP (Paired.mono hMs fun _ _ => MoveAt.keep (Same.tk s1')) ⟨t, rfl, .inl (.inl e1')⟩))
    | draw r d =>
      refine ⟨_, rfl, rfl, _, rfl, ifN (sv_no (a := "draw") (b := "layer") (by decide +kernel)) ⟨_, rfl, rfl, _, rfl, ifN (sv_no (a := "draw") (b := "row") (by decide +kernel)) ⟨_, rfl, rfl, _, rfl, ifN (sv_no (a := "draw") (b := "straight") (by decide +kernel)) ⟨_, rfl, rfl, _, rfl, ifN (sv_no (a := "draw") (b := "move") (by decide +kernel)) ?_⟩⟩⟩⟩
      exact ⟨_, rfl, p, dx, _, rfl, hob, noF, _, rfl, _, rfl, y, _, 1, .int r, rfl, rfl, hy, at_n 1 rfl, _, rfl, 1, rfl, y, _, -1, .int d, rfl, rfl, hy, at_last rfl, H0, p, L, R, B, M, S, .draw r d, r, d, n, rfl, .draw r d, hok, sm, m, q⟩
    | hold r d =>
      refine ⟨_, rfl, rfl, _, rfl, ifN (sv_no (a := "hold") (b := "layer") (by decide +kernel)) ⟨_, rfl, rfl, _, rfl, ifN (sv_no (a := "hold") (b := "row") (by decide +kernel)) ⟨_, rfl, rfl, _, rfl, ifN (sv_no (a := "hold") (b := "straight") (by decide +kernel)) ⟨_, rfl, rfl, _, rfl, ifN (sv_no (a := "hold") (b := "move") (by decide +kernel)) ?_⟩⟩⟩⟩
      exact ⟨_, rfl, p, dx, _, rfl, hob, noF, _, rfl, _, rfl, y, _, 1, .int r, rfl, rfl, hy, at_n 1 rfl, _, rfl, 1, rfl, y, _, -1, .int d, rfl, rfl, hy, at_last rfl, H0, p, L, R, B, M, S, .hold r d, r, d, n, rfl, .hold r d, hok, sm, m, q⟩
    | drop r =>
      refine ⟨_, rfl, rfl, _, rfl, ifN (sv_no (a := "drop") (b := "layer") (by decide +kernel)) ⟨_, rfl, rfl, _, rfl, ifN (sv_no (a := "drop") (b := "row") (by decide +kernel)) ⟨_, rfl, rfl, _, rfl, ifN (sv_no (a := "drop") (b := "straight") (by decide +kernel)) ⟨_, rfl, rfl, _, rfl, ifN (sv_no (a := "drop") (b := "move") (by decide +kernel)) ?_⟩⟩⟩⟩
      exact ⟨_, rfl, p, dx, _, rfl, hob, noF, _, rfl, _, rfl, y, _, 1, .int r, rfl, rfl, hy, at_n 1 rfl, _, rfl, 1, rfl, y, _, -1, .int r, rfl, rfl, hy, at_last rfl, H0, p, L, R, B, M, S, .drop r, r, r, n, rfl, .drop r, hok, sm, m, q⟩
    | round r =>
      refine ⟨_, rfl, rfl, _, rfl, ifN (sv_no (a := "round") (b := "layer") (by decide +kernel)) ⟨_, rfl, rfl, _, rfl, ifN (sv_no (a := "round") (b := "row") (by decide +kernel)) ⟨_, rfl, rfl, _, rfl, ifN (sv_no (a := "round") (b := "straight") (by decide +kernel)) ⟨_, rfl, rfl, _, rfl, ifN (sv_no (a := "round") (b := "move") (by decide +kernel)) ?_⟩⟩⟩⟩
      exact ⟨_, rfl, p, dx, _, rfl, hob, noF, _, rfl, _, rfl, y, _, 1, .int r, rfl, rfl, hy, at_n 1 rfl, _, rfl, 1, rfl, y, _, -1, .int r, rfl, rfl, hy, at_last rfl, H0, p, L, R, B, M, S, .round r, r, r, n, rfl, .round r, hok, sm, m, q⟩
end

section
variable {P : Program} {w : World} {K : PySem.W.Frag} {mg : Str → Option Value} {base : Heap}
theorem isW_of {d : PyData} {l m : Int} (h : isB d = true ∨ isI d = false) : isW d l m = false := by
  cases d <;> first | rfl | (rcases h with h | h <;> cases h)
def isWf (d : PyData) (l : Int) : Bool := match d with
  | .int n => decide (l ≤ n)
  | _ => false
theorem isWf_of {d : PyData} {l : Int} (h : isB d = true ∨ isI d = false) : isWf d l = false := by
  cases d <;> first | rfl | (rcases h with h | h <;> cases h)
theorem isWf_int {d : PyData} {l : Int} (h : isWf d l = true) : ∃ n, d = .int n ∧ l ≤ n := by
  cases d with
  | int n => exact ⟨n, rfl, of_decide_eq_true h⟩
  | _ => cases h
theorem isWf_no {d : PyData} {l m : Int} (h : isWf d l = false) : isW d l m = false := by
  cases d with
  | int n =>
    have e : ¬ l ≤ n := of_decide_eq_false h
    simp [isW, e]
  | _ => rfl
def sp_is_whole_from (K : PySem.W.Frag) : Sp := fun vs H Q _ => ∃ (fx : Hp) (b : Bool) (v : V) (d : PyData) (l : Int), vs = [v, .int l] ∧ Dg K fx H b v d ∧ Q (.bl (isWf d l)) H
theorem ok_is_whole_from {f : Addr} {fd : FuncData} (F : Fun K "is_whole_from" "is_whole_from" s_is_whole_from f fd) (T : Txt K mg) : FnOk P w K mg base CX0 1 f fd ["thing", "least"] (sp_is_whole_from K) := by
  refine F.ok sc_is_whole_from (fun vs H Q E h => ?_) (fun cdv A outer s H vs Q E hr h => ?_)
  · obtain ⟨fx, b, v, d, l, rfl, q⟩ := h
    rfl
  · obtain ⟨fx, b, v, d, l, rfl, hd, q⟩ := h
    refine ⟨_, (pss_cons (ps_if (PW.pt (pw_or (pt_val (pe_callB call_isi (by rfl) T.b_isinstance (by decide +kernel) (pa_cons (pv 0) (pa_cons (pe_bltn (v := .ty "bool") (by rfl) T.b_bool (by decide +kernel) rfl) pa_nil)))) (pw_or1 (pt_not (pt_val (pe_callB call_isi (by rfl) T.b_isinstance (by decide +kernel) (pa_cons (pv 0) (pa_cons (pe_bltn (v := .ty "int") (by rfl) T.b_int (by decide +kernel) rfl) pa_nil)))))))) (pss_one (ps_ret pe_bl)) pss_nil)
      (pss_one (ps_ret (pe_cmpR op_le (pv 1) (pv 0) (nomark _))))), ?_⟩
    refine ⟨_, rfl, _, _, _, _, _, rfl, .ty _, hd.ty, kit_ty (kB d), _, rfl, ite2 (fun e => ?_) (fun e => ?_)⟩
    · rw [isWf_of (.inl e)] at q
      exact iteT q
    · refine ⟨_, rfl, _, _, _, _, _, rfl, .ty _, hd.ty, kit_ty (kI d), _, rfl, ?_⟩
      cases hi : isI d with
      | false =>
        rw [isWf_of (.inr hi)] at q
        exact iteT q
      | true =>
        refine iteF ?_
        cases hd with
        | bl x => exact absurd rfl e
        | int n => exact ⟨_, rfl, _, rfl, l, n, rfl, rfl, q⟩
        | non => cases hi
        | str x => cases hi
        | tup h q => cases hi
        | lst n h q => cases hi
        | dic0 n h => cases hi
        | dic1 n h => cases hi
theorem dg_int {K : PySem.W.Frag} {fx H : Hp} {b : Bool} {v : V} {n : Int} (h : Dg K fx H b v (.int n)) : v = .int n := by
  cases h
  rfl
def sp_is_whole (K : PySem.W.Frag) : Sp := fun vs H Q _ => ∃ (fx : Hp) (b : Bool) (v : V) (d : PyData) (l m : Int), vs = [v, .int l, .int m] ∧ Dg K fx H b v d ∧ Q (.bl (isW d l m)) H
theorem ok_is_whole {f : Addr} {fd : FuncData} (F : Fun K "is_whole" "is_whole" s_is_whole f fd) (T : Txt K mg) (D_is_whole_from : Cl P w K mg base 1 "is_whole_from" ["thing", "least"] (sp_is_whole_from K)) : FnOk P w K mg base CX0 2 f fd ["thing", "least", "most"] (sp_is_whole K) := by
  refine F.ok sc_is_whole (fun vs H Q E h => ?_) (fun cdv A outer s H vs Q E hr h => ?_)
  · obtain ⟨fx, b, v, d, l, m, rfl, q⟩ := h
    rfl
  · obtain ⟨fx, b, v, d, l, m, rfl, hd, q⟩ := h
    refine ⟨_, (pss_one (ps_ret (pe_and (pe_own D_is_whole_from (hr.mono (by omega)) (by rfl) (pa_cons (pv 0) (pa_cons (pv 1) pa_nil))) (pe_one (pe_cmpR op_le (pv 0) (pv 2) (nomark _)))))), ?_⟩
    refine ⟨_, rfl, _, rfl, fx, b, v, d, l, rfl, hd, _, rfl, ?_⟩
    cases e : isWf d l with
    | false =>
      rw [isWf_no e] at q
      exact iteF q
    | true =>
      obtain ⟨n, rfl, e1⟩ := isWf_int e
      have ev := dg_int hd
      subst ev
      refine iteT ⟨_, rfl, _, rfl, n, m, rfl, rfl, ?_⟩
      rw [show isW (.int n) l m = decide (n ≤ m) by simp [isW, e1]] at q
      exact q
def sp_is_drawing (K : PySem.W.Frag) : Sp := fun vs H Q _ => ∃ (fx : Hp) (b : Bool) (v : V) (d : PyData), vs = [v] ∧ Dg K fx H b v d ∧ Q (.bl (isW d 0 9)) H
theorem ok_is_drawing {f : Addr} {fd : FuncData} (F : Fun K "is_drawing" "is_drawing" s_is_drawing f fd) (T : Txt K mg) (D_is_whole : Cl P w K mg base 2 "is_whole" ["thing", "least", "most"] (sp_is_whole K)) : FnOk P w K mg base CX0 3 f fd ["thing"] (sp_is_drawing K) := by
  refine F.ok sc_is_drawing (fun vs H Q E h => ?_) (fun cdv A outer s H vs Q E hr h => ?_)
  · obtain ⟨fx, b, v, d, rfl, q⟩ := h
    rfl
  · obtain ⟨fx, b, v, d, rfl, hd, q⟩ := h
    refine ⟨_, (pss_one (ps_ret (pe_own D_is_whole (hr.mono (by omega)) (by rfl) (pa_cons (pv 0) (pa_cons pe_int (pa_cons (pe_gint (by rfl) T.c_MOST_DRAWING) pa_nil)))))), ?_⟩
    exact ⟨_, rfl, fx, b, v, d, 0, 9, rfl, hd, q⟩
def sp_is_hold (K : PySem.W.Frag) : Sp := fun vs H Q _ => ∃ (fx : Hp) (b : Bool) (v : V) (d : PyData), vs = [v] ∧ Dg K fx H b v d ∧ Q (.bl (isW d 1 24)) H
theorem ok_is_hold {f : Addr} {fd : FuncData} (F : Fun K "is_hold" "is_hold" s_is_hold f fd) (T : Txt K mg) (D_is_whole : Cl P w K mg base 2 "is_whole" ["thing", "least", "most"] (sp_is_whole K)) : FnOk P w K mg base CX0 3 f fd ["thing"] (sp_is_hold K) := by
  refine F.ok sc_is_hold (fun vs H Q E h => ?_) (fun cdv A outer s H vs Q E hr h => ?_)
  · obtain ⟨fx, b, v, d, rfl, q⟩ := h
    rfl
  · obtain ⟨fx, b, v, d, rfl, hd, q⟩ := h
    refine ⟨_, (pss_one (ps_ret (pe_own D_is_whole (hr.mono (by omega)) (by rfl) (pa_cons (pv 0) (pa_cons pe_int (pa_cons (pe_gint (by rfl) T.c_MOST_HOLD) pa_nil)))))), ?_⟩
    exact ⟨_, rfl, fx, b, v, d, 1, 24, rfl, hd, q⟩
end

section
variable {P : Program} {w : World} {K : PySem.W.Frag} {mg : Str → Option Value} {base : Heap}
def sp_is_way (K : PySem.W.Frag) : Sp := fun vs H Q _ => ∃ (fx : Hp) (b : Bool) (v : V) (d : PyData), vs = [v] ∧ Dg K fx H b v d ∧ Q (.bl (isW d (-20) 20)) H
theorem ok_is_way {f : Addr} {fd : FuncData} (F : Fun K "is_way" "is_way" s_is_way f fd) (T : Txt K mg) (D_is_whole : Cl P w K mg base 2 "is_whole" ["thing", "least", "most"] (sp_is_whole K)) : FnOk P w K mg base CX0 3 f fd ["thing"] (sp_is_way K) := by
  refine F.ok sc_is_way (fun vs H Q E h => ?_) (fun cdv A outer s H vs Q E hr h => ?_)
  · obtain ⟨fx, b, v, d, rfl, q⟩ := h
    rfl
  · obtain ⟨fx, b, v, d, rfl, hd, q⟩ := h
    refine ⟨_, (pss_one (ps_ret (pe_own D_is_whole (hr.mono (by omega)) (by rfl) (pa_cons (pv 0) (pa_cons (pe_un un_neg (pe_gint (by rfl) T.c_MOST_WAY)) (pa_cons (pe_gint (by rfl) T.c_MOST_WAY) pa_nil)))))), ?_⟩
    exact ⟨_, rfl, 20, rfl, fx, b, v, d, -20, 20, rfl, hd, q⟩
def sp_is_many (K : PySem.W.Frag) : Sp := fun vs H Q _ => ∃ (fx : Hp) (b : Bool) (v : V) (d : PyData), vs = [v] ∧ Dg K fx H b v d ∧ Q (.bl (isW d 0 24)) H
theorem ok_is_many {f : Addr} {fd : FuncData} (F : Fun K "is_many" "is_many" s_is_many f fd) (T : Txt K mg) (D_is_whole : Cl P w K mg base 2 "is_whole" ["thing", "least", "most"] (sp_is_whole K)) : FnOk P w K mg base CX0 3 f fd ["thing"] (sp_is_many K) := by
  refine F.ok sc_is_many (fun vs H Q E h => ?_) (fun cdv A outer s H vs Q E hr h => ?_)
  · obtain ⟨fx, b, v, d, rfl, q⟩ := h
    rfl
  · obtain ⟨fx, b, v, d, rfl, hd, q⟩ := h
    refine ⟨_, (pss_one (ps_ret (pe_own D_is_whole (hr.mono (by omega)) (by rfl) (pa_cons (pv 0) (pa_cons pe_int (pa_cons (pe_gint (by rfl) T.c_MOST_MANY) pa_nil)))))), ?_⟩
    exact ⟨_, rfl, fx, b, v, d, 0, 24, rfl, hd, q⟩
end

def plainD (part : Str) (d : PyData) : Bool := if part = "drawing" then isW d 0 9 else if part = "hold" then isW d 1 24 else if part = "way" then isW d (-20) 20 else isW d 0 24
def memI (d : PyData) (l : List Int) : Bool := match d with
  | .int n => decide (n ∈ l)
  | _ => false
def keyI (d : PyData) (l : List (Int × T3)) : Bool := match d with
  | .int n => (asV l n).isSome
  | _ => false
def fitD (S : MS) (part : Str) (d : PyData) : Bool := if part = "layer" then isWf d 0 && memI d S.layers else if part = "row" then isWf d 0 && keyI d S.rows else plainD part d
/-- whether a thing is a deed that names what is here -/
def takD (S : MS) (d : PyData) : Bool := match d with
  | .tuple (.str z :: ds) => match partsOf z with
    | some ps => decide (ds.length = ps.length) && ((ps.zip ds).all fun q => fitD S q.1 q.2)
    | none => false
  | _ => false
theorem inV_ints (n : Int) : ∀ l : List Int, inV (.int n) (l.map V.int) = decide (n ∈ l)
  | [] => rfl
  | a :: l => by
    have ih := inV_ints n l
    show (eqV (V.int a) (.int n) || inV (.int n) (l.map V.int)) = decide (n ∈ a :: l)
    rw [ih]
    have e : eqV (V.int a) (.int n) = decide (a = n) := by
      show (a == n) = decide (a = n)
      rw [Bool.eq_iff_iff]
      simp
    rw [e]
    by_cases h : a = n
    · subst h
      simp
    · have h' : ¬ n = a := fun z => h z.symm
      simp [h, h']
theorem flat_ints : ∀ l : List Int, (l.map V.int).all flatV = true
  | [] => rfl
  | _ :: l => flat_ints l
theorem wf_int {K : PySem.W.Frag} {fx H : Hp} {b : Bool} {v : V} {d : PyData} (h : Dg K fx H b v d) {l : Int} (e : isWf d l = true) : ∃ n : Int, v = .int n ∧ d = .int n := by
  cases h with
  | int i => exact ⟨i, rfl, rfl⟩
  | non => cases e
  | bl x => cases e
  | str x => cases e
  | tup h q => cases e
  | lst n h q => cases e
  | dic0 n h => cases e
  | dic1 n h => cases e
section
variable {P : Program} {w : World} {K : PySem.W.Frag} {mg : Str → Option Value} {base : Heap}
def sp_is_plain_part (K : PySem.W.Frag) : Sp := fun vs H Q _ => ∃ (fx : Hp) (b : Bool) (part : Str) (v : V) (d : PyData), vs = [.str part, v] ∧ Dg K fx H b v d ∧ Q (.bl (plainD part d)) H
theorem ok_is_plain_part {f : Addr} {fd : FuncData} (F : Fun K "is_plain_part" "is_plain_part" s_is_plain_part f fd) (T : Txt K mg) (D_is_drawing : Cl P w K mg base 3 "is_drawing" ["thing"] (sp_is_drawing K)) (D_is_hold : Cl P w K mg base 3 "is_hold" ["thing"] (sp_is_hold K)) (D_is_way : Cl P w K mg base 3 "is_way" ["thing"] (sp_is_way K)) (D_is_many : Cl P w K mg base 3 "is_many" ["thing"] (sp_is_many K)) : FnOk P w K mg base CX0 4 f fd ["part", "thing"] (sp_is_plain_part K) := by
  refine F.ok sc_is_plain_part (fun vs H Q E h => ?_) (fun cdv A outer s H vs Q E hr h => ?_)
  · obtain ⟨fx, b, part, v, d, rfl, _⟩ := h
    rfl
  · obtain ⟨fx, b, part, v, d, rfl, hd, q⟩ := h
    unfold plainD at q
    refine ⟨_, (pss_cons (ps_if (pt_cmpR op_eq (pv 0) pe_str (nomark _)) (pss_one (ps_ret (pe_own D_is_drawing (hr.mono (by omega)) (by rfl) (pa_cons (pv 1) pa_nil)))) pss_nil)
      (pss_cons (ps_if (pt_cmpR op_eq (pv 0) pe_str (nomark _)) (pss_one (ps_ret (pe_own D_is_hold (hr.mono (by omega)) (by rfl) (pa_cons (pv 1) pa_nil)))) pss_nil)
      (pss_cons (ps_if (pt_cmpR op_eq (pv 0) pe_str (nomark _)) (pss_one (ps_ret (pe_own D_is_way (hr.mono (by omega)) (by rfl) (pa_cons (pv 1) pa_nil)))) pss_nil)
      (pss_one (ps_ret (pe_own D_is_many (hr.mono (by omega)) (by rfl) (pa_cons (pv 1) pa_nil))))))), ?_⟩
    refine ⟨_, rfl, rfl, _, rfl, ite2 (fun e => ?_) (fun e => ?_)⟩
    · rw [if_pos (V.str.inj (of_decide_eq_true e))] at q
      exact ⟨_, rfl, fx, b, v, d, rfl, hd, q⟩
    rw [if_neg fun h => e (decide_eq_true (by rw [h]))] at q
    refine ⟨_, rfl, rfl, _, rfl, ite2 (fun e => ?_) (fun e => ?_)⟩
    · rw [if_pos (V.str.inj (of_decide_eq_true e))] at q
      exact ⟨_, rfl, fx, b, v, d, rfl, hd, q⟩
    rw [if_neg fun h => e (decide_eq_true (by rw [h]))] at q
    refine ⟨_, rfl, rfl, _, rfl, ite2 (fun e => ?_) (fun e => ?_)⟩
    · rw [if_pos (V.str.inj (of_decide_eq_true e))] at q
      exact ⟨_, rfl, fx, b, v, d, rfl, hd, q⟩
    rw [if_neg fun h => e (decide_eq_true (by rw [h]))] at q
    exact ⟨_, rfl, fx, b, v, d, rfl, hd, q⟩
def sp_Made__fits (K : PySem.W.Frag) (CT : Nat → Addr) : Sp := fun vs H Q _ => ∃ (p L R B M : Addr) (S : MS) (fx : Hp) (b : Bool) (part : Str) (v : V) (d : PyData), vs = [.ref p, .str part, v] ∧ MadeC K (CT 0) H p L R B M S ∧ Dg K fx H b v d ∧ Q (.bl (fitD S part d)) H
theorem ok_Made__fits {f : Addr} {fd : FuncData} (F : Fun K "fits" "Made.fits" s_Made__fits f fd) (T : Txt K mg) {CT : Nat → Addr} (TC : ClT K w mg CT) (D_is_whole_from : Cl P w K mg base 1 "is_whole_from" ["thing", "least"] (sp_is_whole_from K)) (D_is_plain_part : Cl P w K mg base 4 "is_plain_part" ["part", "thing"] (sp_is_plain_part K)) : FnOk P w K mg base CX0 5 f fd ["self", "part", "thing"] (sp_Made__fits K CT) := by
  refine F.ok sc_Made__fits (fun vs H Q E h => ?_) (fun cdv A outer s H vs Q E hr h => ?_)
  · obtain ⟨p, L, R, B, M, S, fx, b, part, v, d, rfl, _⟩ := h
    rfl
  · obtain ⟨p, L, R, B, M, S, fx, b, part, v, d, rfl, c, hd, q⟩ := h
    obtain ⟨dx, hob⟩ := c.ob
    obtain ⟨kvs, hR, hA⟩ := c.rw
    have hL := c.ly
    unfold fitD at q
    refine ⟨_, (pss_cons (ps_if (pt_cmpR op_eq (pv 1) pe_str (nomark _)) (pss_one (ps_ret (pe_and (pe_own D_is_whole_from (hr.mono (by omega)) (by rfl) (pa_cons (pv 2) (pa_cons pe_int pa_nil))) (pe_one (pe_cmpR op_in_seq (pv 2) (pe_fld (pv 0) rfl) (by rfl)))))) pss_nil)
      (pss_cons (ps_if (pt_cmpR op_eq (pv 1) pe_str (nomark _)) (pss_one (ps_ret (pe_and (pe_own D_is_whole_from (hr.mono (by omega)) (by rfl) (pa_cons (pv 2) (pa_cons pe_int pa_nil))) (pe_one (pe_cmp (pc_din (Nat.lt_of_le_of_lt (Nat.add_le_add_left (show 1 ≤ 64 by decide) _) hr.units) (pv 2) (pe_fld (pv 0) rfl))))))) pss_nil)
      (pss_one (ps_ret (pe_own D_is_plain_part (hr.mono (by omega)) (by rfl) (pa_cons (pv 1) (pa_cons (pv 2) pa_nil))))))), ?_⟩
    refine ⟨_, rfl, rfl, _, rfl, ite2 (fun e => ?_) (fun e => ?_)⟩
    · rw [if_pos (V.str.inj (of_decide_eq_true e))] at q
      refine ⟨_, rfl, fx, b, v, d, 0, rfl, hd, _, rfl, ?_⟩
      cases ew : isWf d 0 with
      | false => rw [ew] at q; exact iteF q
      | true =>
        obtain ⟨n, rfl, rfl⟩ := wf_int hd ew
        rw [ew, Bool.true_and] at q
        refine iteT ⟨_, rfl, _, rfl, p, _, dx, _, _, rfl, hob, TC.cM, TC.n1, fM_layers, L, _, rfl, .inl (.inl (.inl hL)), rfl, flat_ints _, ?_⟩
        show Q (.bl (inV (.int n) (S.layers.map V.int))) H
        rw [inV_ints]
        exact q
    rw [if_neg fun h => e (decide_eq_true (by rw [h]))] at q
    refine ⟨_, rfl, rfl, _, rfl, ite2 (fun e => ?_) (fun e => ?_)⟩
    · rw [if_pos (V.str.inj (of_decide_eq_true e))] at q
      refine ⟨_, rfl, fx, b, v, d, 0, rfl, hd, _, rfl, ?_⟩
      cases ew : isWf d 0 with
      | false => rw [ew] at q; exact iteF q
      | true =>
        obtain ⟨n, rfl, rfl⟩ := wf_int hd ew
        rw [ew, Bool.true_and] at q
        refine iteT ⟨_, rfl, _, rfl, p, _, dx, _, _, rfl, hob, TC.cM, TC.n2, fM_rows, R, _, rfl, DGet.k (k := Sum.inl n) hR, ?_⟩
        have ee : (valV kvs (Sum.inl n)).isSome = (asV S.rows n).isSome := by
          rcases AsP.val hA n with ⟨e1, e2⟩ | ⟨x, v', e1, e2, _⟩ <;> rw [e1, e2] <;> rfl
        rw [ee]
        exact q
    rw [if_neg fun h => e (decide_eq_true (by rw [h]))] at q
    exact ⟨_, rfl, _, rfl, fx, b, part, v, d, rfl, hd, q⟩
end

theorem tak_no {S : MS} {d : PyData} (h : ∀ z ds, d ≠ .tuple (.str z :: ds)) : takD S d = false := by
  unfold takD
  split
  · rename_i z ds
    exact absurd rfl (h z ds)
  · rfl
theorem tak_some {S : MS} {z : Str} {ds : List PyData} {ps : List Str} (h : partsOf z = some ps) : takD S (.tuple (.str z :: ds)) = (decide (ds.length = ps.length) && ((ps.zip ds).all fun q => fitD S q.1 q.2)) := by
  show (match partsOf z with | some ps => decide (ds.length = ps.length) && ((ps.zip ds).all fun q => fitD S q.1 q.2) | none => false) = _
  rw [h]
theorem tak_none {S : MS} {z : Str} {ds : List PyData} (h : partsOf z = none) : takD S (.tuple (.str z :: ds)) = false := by
  show (match partsOf z with | some ps => decide (ds.length = ps.length) && ((ps.zip ds).all fun q => fitD S q.1 q.2) | none => false) = _
  rw [h]
theorem parts_len {z : Str} {ps : List Str} (h : partsOf z = some ps) : ps.length ≤ 3 := by
  unfold partsOf at h
  repeat' split at h
  all_goals first | cases h; decide | cases h
theorem strOf {K : PySem.W.Frag} {fx H : Hp} {b : Bool} {v : V} {d : PyData} (h : Dg K fx H b v d) : (∃ z, v = .str z ∧ d = .str z) ∨ ∀ z, d ≠ .str z := by
  cases h with
  | str x => exact .inl ⟨x, rfl, rfl⟩
  | int i => exact .inr fun z => nofun
  | non => exact .inr fun z => nofun
  | bl x => exact .inr fun z => nofun
  | tup h q => exact .inr fun z => nofun
  | lst n h q => exact .inr fun z => nofun
  | dic0 n h => exact .inr fun z => nofun
  | dic1 n h => exact .inr fun z => nofun
def isS : PyData → Bool
  | .str _ => true
  | _ => false
theorem kS (d : PyData) : kitB (tyn d) "str" = some (isS d) := by cases d <;> simp only [tyn, isS] <;> decide +kernel
section
variable {P : Program} {w : World} {K : PySem.W.Frag} {mg : Str → Option Value} {base : Heap}
def sp_Made__takes (K : PySem.W.Frag) (CT : Nat → Addr) : Sp := fun vs H Q _ => ∃ (p L R B M : Addr) (S : MS) (fx : Hp) (b : Bool) (v : V) (d : PyData), vs = [.ref p, v] ∧ MadeC K (CT 0) H p L R B M S ∧ Dg K fx H b v d ∧ (∀ ds, d = .tuple ds → ds.length ≤ 1000) ∧ ∀ H', Same H H' → Q (.bl (takD S d)) H'
theorem ok_Made__takes {f : Addr} {fd : FuncData} (F : Fun K "takes" "Made.takes" s_Made__takes f fd) (T : Txt K mg) {CT : Nat → Addr} (TC : ClT K w mg CT) (D_Made__fits : Ml P w K mg base 5 (CT 0) "fits" ["self", "part", "thing"] (sp_Made__fits K CT)) : FnOk P w K mg base CX0 6 f fd ["self", "thing"] (sp_Made__takes K CT) := by
  refine F.ok sc_Made__takes (fun vs H Q E h => ?_) (fun cdv A outer s H vs Q E hr h => ?_)
  · obtain ⟨p, L, R, B, M, S, fx, b, v, d, rfl, _⟩ := h
    rfl
  · obtain ⟨p, L, R, B, M, S, fx, b, v, d, rfl, c, hd, hlen, q⟩ := h
    refine ⟨_, (pss_cons (ps_if (PW.pt (pw_or (pt_not (pt_val (pe_callB call_isi (by rfl) T.b_isinstance (by decide +kernel) (pa_cons (pv 1) (pa_cons (pe_bltn (v := .ty "tuple") (by rfl) T.b_tuple (by decide +kernel) rfl) pa_nil))))) (pw_or (pt_not (pt_truth (pv 1) (by intro _; rfl))) (pw_or1 (pt_not (pt_val (pe_callB call_isi (by rfl) T.b_isinstance (by decide +kernel) (pa_cons (pe_ix ix_tup (pv 1) pe_int (fun _ _ => rfl)) (pa_cons (pe_bltn (v := .ty "str") (by rfl) T.b_str (by decide +kernel) rfl) pa_nil))))))))) (pss_one (ps_ret pe_bl)) pss_nil)
      (pss_cons (ps_asg (pv 1) (pg_star (by rfl) (pg_name (i := 2) sc_Made__takes.nd rfl (Or.inl rfl)) (pg_name (i := 3) sc_Made__takes.nd rfl (Or.inl rfl))))
      (pss_cons (ps_if (PW.pt (pw_or (pt_cmpR (kd_notIn TC.pk) (pv 2) (pe_gref (by rfl) TC.gP) (by rfl)) (pw_or1 (pt_cmpR op_ne (pe_callB call_len_seq (by rfl) T.b_len (by decide +kernel) (pa_cons (pv 3) pa_nil)) (pe_callB call_len_seq (by rfl) T.b_len (by decide +kernel) (pa_cons (pe_ix (kd_item TC.pk) (pe_gref (by rfl) TC.gP) (pv 2) (fun _ _ => rfl)) pa_nil)) (nomark _))))) (pss_one (ps_ret pe_bl)) pss_nil)
      (pss_one (ps_ret (pe_callB (cr_all rfl) (by rfl) T.b_all (by decide +kernel) (pa_cons (pe_lc (own := [("part", 4), ("given", 5)]) (g := (gTup _ 2 (gCons (gName 4) (gCons (gName 5) gNil)))) (tt := tYes) (by rfl) sc_Made__takes.nd (pi_zipM (by rfl) T.b_zip (pa_cons (pe_ix (kd_item TC.pk) (pe_gref (by rfl) TC.gP) (pv 2) (fun _ _ => rfl)) (pa_cons (pv 3) pa_nil))) (blkOk_by (own := [("part", 4), ("given", 5)]) (N := ["self", "thing", "word", "told", "part", "given"]) (sc := defScope s_Made__takes) (by decide +kernel)) (fun _ _ _ _ _ => (pg_tup (by rfl) (pgs_cons (pg_name (i := 4) sc_Made__takes.nd rfl (Or.inl rfl)) (pgs_cons (pg_name (i := 5) sc_Made__takes.nd rfl (Or.inl rfl)) pgs_nil)))) (fun _ _ _ _ _ => pts_nil) (fun _ _ _ _ _ => (pe_mth D_Made__fits TC.cM (hr.mono (by omega)) (pv 0) (pa_cons (pv 4) (pa_cons (pv 5) pa_nil))))) pa_nil))))))), ?_⟩
    refine ⟨_, rfl, _, _, _, _, isT d, rfl, .ty _, Dg.ty hd, kit_ty (kT d), _, rfl, ?_⟩
    have no : (∀ z ds, d ≠ .tuple (.str z :: ds)) → Q (.bl false) H := fun h => by have := q H (Same.refl _); rw [tak_no h] at this; exact this
    cases eT : isT d with
    | false =>
      refine iteT (no fun z ds e => ?_)
      rw [e] at eT
      cases eT
    | true =>
    refine iteF ?_
    obtain ⟨a, xs, ds, rfl, rfl, hq, hD⟩ : ∃ a xs ds, v = .ref a ∧ d = .tuple ds ∧ SqT K H a xs ∧ DgAll K fx H b xs ds := by
      cases hd with
      | tup h qq => exact ⟨_, _, _, rfl, rfl, h, qq⟩
      | int i => cases eT
      | non => cases eT
      | bl x => cases eT
      | str x => cases eT
      | lst n h q => cases eT
      | dic0 n h => cases eT
      | dic1 n h => cases eT
    refine ⟨_, rfl, _, .inr (.inl ⟨xs, hq, rfl⟩), ?_⟩
    cases hD with
    | nil => exact iteT (no fun z ds e => by injection e with e; cases e)
    | @cons _ x xs d0 ds h0 hD =>
    refine iteF ?_
    refine ⟨_, rfl, a, _, 0, x, rfl, rfl, hq, at0, _, _, _, _, isS d0, rfl, .ty _, Dg.ty h0, kit_ty (kS d0), _, rfl, ?_⟩
    rcases strOf h0 with ⟨z, rfl, rfl⟩ | hn
    rotate_left 1
    · have : isS d0 = false := by
        cases e : isS d0 with
        | false => rfl
        | true =>
          cases d0 with
          | str y => exact absurd rfl (hn y)
          | none => cases e
          | bool _ => cases e
          | int _ => cases e
          | list _ => cases e
          | tuple _ => cases e
          | dict _ => cases e
      rw [this]
      exact iteT (no fun z ds e => by injection e with e; injection e with e1 e2; exact hn z e1)
    refine iteF ?_
    have hl := hlen _ rfl
    have lx : xs.length = ds.length := DgAll.len hD
    refine ⟨_, rfl, a, _, xs, rfl, hq, by simp only [List.length_cons] at hl; omega, fun t nt => ?_⟩
    obtain ⟨s1, e1⟩ := new_at (.lst xs) nt
    generalize upd H t (.lst xs) = H1 at s1 e1 ⊢
    cases hp : partsOf z with
    | none =>
      refine ⟨_, rfl, z, none, rfl, rfl, TC.p0 z hp, _, rfl, iteT ?_⟩
      have := q H1 s1
      rw [tak_none hp] at this
      exact this
    | some ps =>
    obtain ⟨tp, hns, hsq⟩ := TC.p1 z ps hp
    refine ⟨_, rfl, z, some (.ref tp), rfl, rfl, hns, _, rfl, iteF ?_⟩
    refine ⟨_, rfl, t, _, rfl, .inl (.inl (.inl e1)), _, rfl, z, .ref tp, .ref tp, rfl, rfl, hns, rfl, tp, _, rfl, .inr (hsq H1), rfl, _, rfl, ite2 (fun e => ?_) (fun e => ?_)⟩
    · have ne : ¬ ds.length = ps.length := fun h => by
        rw [decide_eq_true (show V.int (xs.length : Int) = V.int ((ps.map V.str).length : Int) by rw [List.length_map, lx, h])] at e
        cases e
      have := q H1 s1
      rw [tak_some hp, decide_eq_false ne] at this
      exact this
    have hln : ds.length = ps.length := by
      refine Classical.byContradiction fun h => e ?_
      rw [decide_eq_false (fun y => h (by have := V.int.inj y; rw [List.length_map] at this; omega))]
      rfl
    have l3 := parts_len hp
    refine ⟨_, rfl, z, .ref tp, .ref tp, rfl, rfl, hns, rfl, _, rfl, tp, t, ps.map V.str, xs, rfl, hsq H1, .inl (.inl e1), fun D hD' => ?_⟩
    refine lc_pairs (J := ItzM K tp t) (xs := ps.map V.str) (ys := xs) (fun i H' => Same H1 H' ∧ ∃ bs : List Bool, H' D = some (.lst (bs.map V.bl)) ∧ bs = (((ps.zip ds).map fun q => fitD S q.1 q.2)).take i)
      ⟨same_upd hD', [], upd_same, rfl⟩
      (fun i H' y hi => ⟨_, xs, _, xs[i]'(by rw [List.length_map] at hi; omega), hsq H', .inl (.inl (y.1 _ _ e1)), List.getElem?_eq_getElem hi, List.getElem?_eq_getElem _⟩)
      (fun H' y => ⟨_, xs, hsq H', .inl (.inl (y.1 _ _ e1)), by rw [List.length_map]; omega⟩)
      (fun i H' v H'' y ⟨T, x, y', f1, f2, f3, f4, f5⟩ => ⟨T, x, y', f1, f2, f3, f4 _ (hsq H'), f5 _ (.inl (.inl (y.1 _ _ e1)))⟩) (fun i x y T H4 hx hy p4 nT => ?_) (fun H4 p4 => ?_)
    · obtain ⟨s4, bs, eD, eb⟩ := p4
      obtain ⟨pn, hpn, rfl⟩ : ∃ pn, ps[i]? = some pn ∧ x = .str pn := by
        rw [List.getElem?_map] at hx
        cases e : ps[i]? with
        | none => rw [e] at hx; cases hx
        | some pn => rw [e] at hx; exact ⟨pn, rfl, (Option.some.inj hx).symm⟩
      obtain ⟨dy, hdy, hgy⟩ := DgAll.at hD hy
      obtain ⟨sT, eT⟩ := new_at (.tup [.str pn, y]) nT
      generalize upd H4 T (.tup [.str pn, y]) = H5 at sT eT ⊢
      have s5 := s4.trans sT
      have s05 := s1.trans s5
      have c5 := c.same s05
      obtain ⟨dx, hob⟩ := c5.ob
      refine ⟨T, _, rfl, .inl (.inl eT), rfl, _, _, rfl, _, _, rfl, rfl, rfl, yes_ok ⟨_, rfl, p, dx, _, rfl, hob, rfl, _, rfl, _, rfl, p, L, R, B, M, S, fx, b, pn, y, dy, rfl, c5, hgy.sm s05, ?_⟩⟩
      have hzip : ((ps.zip ds).map fun q => fitD S q.1 q.2)[i]? = some (fitD S pn dy) := by
        rw [List.getElem?_map, List.getElem?_zip_eq_some (z := (pn, dy)) |>.mpr ⟨hpn, hdy⟩]
        rfl
      refine ⟨bs.map V.bl, sT _ _ eD, small1000 ?_, ?_, bs ++ [fitD S pn dy], ?_, ?_⟩
      · rw [List.length_map, eb, List.length_take]
        have hi : i < ps.length := (List.getElem?_eq_some_iff.mp hpn).1
        omega
      · intro b' o e
        rw [upd_ne (ne_of_none e hD')]
        exact s5 _ _ e
      · rw [upd_same, List.map_append]
        rfl
      · rw [eb, List.take_add_one, hzip]
        rfl
    · obtain ⟨s4, bs, eD, eb⟩ := p4
      rw [List.length_map, List.take_of_length_le (by rw [List.length_map, List.length_zip]; omega)] at eb
      refine ⟨D, bs, rfl, .inl (.inl eD), ?_⟩
      have := q H4 (s1.trans s4)
      rw [tak_some hp, decide_eq_true hln, Bool.true_and] at this
      rw [eb, List.all_map]
      exact this
end

theorem asV_at {α : Type} : ∀ {l : List (Int × α)} {i : Nat} {n : Int} {x : α}, (l.map (·.1)).Nodup → l[i]? = some (n, x) → asV l n = some x
  | [], i, n, x, _, h => by cases h
  | r :: l, 0, n, x, _, h => by
    cases h
    unfold asV
    rw [List.find?_cons_of_pos (by simp)]
    rfl
  | r :: l, i + 1, n, x, nd, h => by
    have nd' := List.nodup_cons.mp nd
    have hm : n ∈ l.map (·.1) := List.mem_map.mpr ⟨(n, x), List.mem_of_getElem? h, rfl⟩
    have ne : ¬ r.1 = n := fun e => nd'.1 (by show r.1 ∈ _; rw [e]; exact hm)
    have : asV (r :: l) n = asV l n := by
      unfold asV
      rw [List.find?_cons_of_neg (by simp [ne])]
    rw [this]
    exact asV_at nd'.2 h
def rowsIn (S : MS) (l : Int) : List Int := (S.rows.filter fun r => decide (r.2.1 = l)).map (·.1)
def MS.nd (S : MS) : Prop := (S.rows.map (·.1)).Nodup
theorem lock_same {H H' : Hp} {R : Addr} {u : HO} {od : Obj} (e : H R = some u) (s : ∀ b o, b ≠ R → H b = some o → H' b = some o) : Same H (upd H' R u) := fun b o h => by
  by_cases hb : b = R
  · rw [hb, upd_same]
    rw [hb, e] at h
    exact h
  · rw [upd_ne hb]
    exact s b o hb h
section
variable {P : Program} {w : World} {K : PySem.W.Frag} {mg : Str → Option Value} {base : Heap}
def sp_Made__rows_in (K : PySem.W.Frag) (CT : Nat → Addr) : Sp := fun vs H Q _ => ∃ (p L R B M : Addr) (S : MS) (l : Int), vs = [.ref p, .int l] ∧ MadeC K (CT 0) H p L R B M S ∧ S.small 900 ∧ S.nd ∧ ∀ H' X, Same H H' → H X = none → H' X = some (.lst ((rowsIn S l).map V.int)) → Q (.ref X) H'
theorem ok_Made__rows_in {f : Addr} {fd : FuncData} (F : Fun K "rows_in" "Made.rows_in" s_Made__rows_in f fd) (T : Txt K mg) {CT : Nat → Addr} (TC : ClT K w mg CT) : FnOk P w K mg base CX0 1 f fd ["self", "layer"] (sp_Made__rows_in K CT) := by
  refine F.ok sc_Made__rows_in (fun vs H Q E h => ?_) (fun cdv A outer s H vs Q E hr h => ?_)
  · obtain ⟨p, L, R, B, M, S, l, rfl, _⟩ := h
    rfl
  · obtain ⟨p, L, R, B, M, S, l, rfl, c, sm, nd, q⟩ := h
    obtain ⟨dx, hob⟩ := c.ob
    obtain ⟨kvs, hR, hA⟩ := c.rw
    have nn := c.nn
    refine ⟨_, (pss_one (ps_ret (pe_lock (pe_lc (own := [("row", 2)]) (g := (gName 2)) (by rfl) sc_Made__rows_in.nd (pi_keys (pe_fld (pv 0) rfl)) (blkOk_by (own := [("row", 2)]) (N := ["self", "layer", "row"]) (sc := defScope s_Made__rows_in) (by decide +kernel)) (fun _ _ _ _ _ => (pg_name (i := 2) sc_Made__rows_in.nd rfl (Or.inl rfl))) (fun _ _ _ _ _ => (pts_one (pt_cmpR op_eq (pe_ix (r := rIxT K) ix_tup (pe_dget (Nat.lt_of_le_of_lt (Nat.add_le_add_left (show 1 ≤ 64 by decide) _) hr.units) (pe_fldK (K := K) (pv 0) rfl) (pv 2) (fun _ _ => rfl)) pe_int (fun _ _ => rfl)) (pv 1) (nomark _)))) (fun _ _ _ _ _ => (pv 2)))))), ?_⟩
    refine ⟨R, _, hR, trivial, fun od => ?_⟩
    have k1 : ∀ b o, b ≠ R → H b = some o → upd H R (.frz od (.dK kvs)) b = some o := fun b o hb e => by rw [upd_ne hb]; exact e
    have e1 : upd H R (.frz od (.dK kvs)) R = some (.frz od (.dK kvs)) := upd_same
    have t1 : TKeep K H (upd H R (.frz od (.dK kvs))) := tk_d hR
    have f1 : ∀ X, upd H R (.frz od (.dK kvs)) X = none → H X = none := fun X h => by
      by_cases hX : X = R
      · rw [hX, e1] at h; cases h
      · rw [upd_ne hX] at h; exact h
    generalize upd H R (.frz od (.dK kvs)) = H1 at k1 e1 t1 f1 ⊢
    refine ⟨_, rfl, p, _, dx, _, _, rfl, k1 _ _ nn.2.1 hob, TC.cM, TC.n2, fM_rows, R, od, rfl, .inl ⟨kvs, e1, fun D hD => ?_⟩⟩
    refine lc_it (walk_keys (d := R) (o := od) (kvs := kvs)) (fun i H' => Same H1 H' ∧ H' D = some (.lst ((((S.rows.take i).filter fun r => decide (r.2.1 = l)).map (·.1)).map V.int))) ⟨same_upd hD, upd_same⟩ (fun _ _ _ z => z.1 _ _ e1) (fun i x Ha Hb hi pa yx => ?_) (fun Ha pa => ?_)
    · obtain ⟨rfl, k, v, hkv, rfl⟩ := yx
      obtain ⟨sa, ea⟩ := pa
      obtain ⟨r, hr1, hk, _⟩ := Paired.at hA hkv
      dsimp only at hk
      subst hk
      have hi' : i < S.rows.length := (List.getElem?_eq_some_iff.mp hr1).1
      have has := asV_at nd (show S.rows[i]? = some (r.1, r.2) from hr1)
      obtain ⟨v', hv', pr, rfl, hpr⟩ : ∃ v', valV kvs (Sum.inl r.1) = some v' ∧ T3At K H v' r.2 := by
        rcases AsP.val hA r.1 with ⟨e, _⟩ | ⟨x', v', e1, e2, e3⟩
        · rw [has] at e; cases e
        · rw [has] at e1; cases e1; exact ⟨v', e2, e3⟩
      have hg : DGet Hb R (.int r.1) (some (.ref pr)) := by
        rw [← hv']
        exact .inl ⟨kvs, Sum.inl r.1, .inr ⟨od, sa _ _ e1⟩, rfl, rfl⟩
      have et : ((S.rows.take (i + 1)).filter fun r => decide (r.2.1 = l)).map (·.1) = ((S.rows.take i).filter fun r => decide (r.2.1 = l)).map (·.1) ++ (if r.2.1 = l then [r.1] else []) := by
        rw [List.take_add_one, hr1, List.filter_append, List.map_append]
        congr 1
        show (List.filter (fun r => decide (r.2.1 = l)) [r]).map (·.1) = _
        by_cases h : r.2.1 = l
        · rw [List.filter_cons_of_pos (by simp [h]), if_pos h]
          rfl
        · rw [List.filter_cons_of_neg (by simp [h]), if_neg h]
          rfl
      refine ⟨rfl, _, rfl, p, _, dx, _, _, rfl, sa _ _ (k1 _ _ nn.2.1 hob), TC.cM, TC.n2, fM_rows, _, rfl, R, _, rfl, hg, pr, _, 0, .int r.2.1, rfl, rfl, Same.sqT sa (t1 _ _ hpr), at0, _, rfl, rfl, _, rfl, ite2 (fun e => ?_) (fun e => ?_)⟩
      · have e' : r.2.1 = l := V.int.inj (of_decide_eq_true e)
        refine ⟨_, rfl, _, ea, small1000 ?_, ?_, ?_⟩
        · rw [List.length_map, List.length_map]
          refine Nat.le_trans (List.length_filter_le _ _) ?_
          rw [List.length_take]
          have := sm.2.1
          omega
        · intro b o eb
          rw [upd_ne (ne_of_none eb hD)]
          exact sa _ _ eb
        · rw [upd_same, et, if_pos e', List.map_append]
          rfl
      · have e' : ¬ r.2.1 = l := fun h => e (decide_eq_true (by rw [h]))
        refine ⟨sa, ?_⟩
        rw [et, if_neg e', List.append_nil]
        exact ea
    · obtain ⟨sa, ea⟩ := pa
      rw [AsP.len hA, List.take_length] at ea
      have nDR : D ≠ R := fun z => by rw [z, e1] at hD; cases hD
      refine ⟨sa _ _ e1, q _ D (lock_same (od := od) hR fun b o hb e => sa _ _ (k1 b o hb e)) (f1 D hD) ?_⟩
      rw [upd_ne nDR]
      exact ea
end

section
variable {P : Program} {w : World} {K : PySem.W.Frag} {mg : Str → Option Value} {base : Heap}
def sp_TooMany_init (c : Nat → Addr) (K : PySem.W.Frag) : Sp := fun vs H Q _ => ∃ (a : Addr) (m n : V), vs = [.ref a, m, n] ∧ OexC K (c 14) ∧ PySem.W.findIn K (.ref (c 14)) "many" = some none ∧ PySem.W.findIn K (.ref (c 14)) "most" = some none ∧ H a = some (exo a (c 14) none) ∧
  ∀ H' d, H' a = some (exo a (c 14) (some d)) → H' d = some (exd d [("most", n), ("many", m)]) → H d = none → (∀ b o, b ≠ a → H b = some o → H' b = some o) → Q .non H'
theorem ok_TooMany_init {f : Addr} {fd : FuncData} {c : Nat → Addr} (F : Fun K "__init__" "TooMany.__init__" s_TooMany_init f fd) : FnOk P w K mg base CX0 1 f fd ["self", "many", "most"] (sp_TooMany_init c K) := by
  refine F.ok sc_TooMany_init (fun vs H Q E h => ?_) (fun cdv A outer s H vs Q E hr h => ?_)
  · obtain ⟨a, m, n, rfl, _⟩ := h
    rfl
  · obtain ⟨a, m, n, rfl, o, f1, f2, ha, q⟩ := h
    refine ⟨_, (pss_cons (ps_ost (pv 0) (pv 1))
      (pss_one (ps_ost (pv 0) (pv 2)))), ?_⟩
    refine ⟨_, rfl, _, rfl, a, c 14, rfl, o, f1, .inl ⟨ha, fun d nd da => ?_⟩⟩
    refine ⟨_, rfl, _, rfl, a, c 14, rfl, o, f2, .inr ⟨d, [("many", m)], upd_same, ?_, (by show 1 ≤ 900; decide), ?_⟩⟩
    · rw [upd_ne da, upd_same]
    · refine q _ d ?_ upd_same nd fun b o' hb e => ?_
      · rw [upd_ne (Ne.symm da), upd_same]
      · rw [upd_ne (ne_of_none e nd), upd_ne hb, upd_ne (ne_of_none e nd)]
        exact e
def sp_need_at_most (K : PySem.W.Frag) (c : Nat → Addr) : Sp := fun vs H Q E => ∃ m n : Int, vs = [.int m, .int n] ∧ (m ≤ n → Q .non H) ∧ (n < m → ∀ H' d, Same H H' → H d = none → H' d = some (.xd [("most", .int n), ("many", .int m)]) → E (.ref (c 14)) (some d) H')
theorem ok_need_at_most {f : Addr} {fd : FuncData} {c : Nat → Addr} {LE : Addr} (F : Fun K "need_at_most" "need_at_most" s_need_at_most f fd) (T : Txt K mg) (TX : ExcN K mg c LE) (TI : IniT P w K mg base (c 14) 3 (sp_TooMany_init c K)) : FnOk P w K mg base (L2.CX P w) 3 f fd ["many", "most"] (sp_need_at_most K c) := by
  refine F.okX sc_need_at_most (fun vs H Q E h => ?_) (fun cdv A outer s H vs Q E hr h => ?_)
  · obtain ⟨m, n, rfl, _⟩ := h
    rfl
  · obtain ⟨m, n, rfl, q1, q2⟩ := h
    refine ⟨_, (pss_one (ps_if (pt_cmpR op_gt (pv 0) (pv 1) (nomark _)) (pss_one (ps_raise rfl (takes_of rfl rfl rfl rfl) (pmk_init TI (hr.mono (by omega)) (by rfl) (TX.g 14 "TooMany" rfl) (pa_cons (pv 0) (pa_cons (pv 1) pa_nil))))) pss_nil)), ?_⟩
    refine ⟨_, rfl, _, rfl, m, n, rfl, rfl, _, rfl, ite2 (fun e => ?_) (fun e => ?_)⟩
    · have e1 : n < m := of_decide_eq_true e
      obtain ⟨_, _, _, ox, _⟩ := TI.ex
      refine ⟨_, rfl, _, rfl, (by show 2 ≤ 1000; decide), fun a na => ⟨a, _, _, rfl, ox, TX.n1, TX.n2, upd_same, fun H' d e1' e2' nd hk => ⟨rfl, d, _, e1', e2', ?_, ?_⟩⟩⟩
      · have : d ≠ a := fun z => by rw [z, upd_same] at nd; cases nd
        rw [upd_ne this] at nd
        exact nd
      · have da : d ≠ a := fun z => by rw [z, upd_same] at nd; cases nd
        have nd' : H d = none := by rw [upd_ne da] at nd; exact nd
        refine q2 e1 _ d (fun b o hb => ?_) nd' upd_same
        have ba : b ≠ a := ne_of_none hb na
        rw [upd_ne (ne_of_none hb nd'), del_ne ba]
        exact hk b o ba (by rw [upd_ne ba]; exact hb)
    · exact q1 (by have := of_decide_eq_false (Bool.eq_false_iff.mpr e); omega)
end

def roomL (S : MS) : List Int → Option (Int × Int)
  | [] => none
  | l :: ls => if 8 < (rowsIn S l).length then some (((rowsIn S l).length : Int), 8) else roomL S ls
/-- how many there are where there are too many -/
def roomS (S : MS) : Option (Int × Int) := if 4 < S.layers.length then some ((S.layers.length : Int), 4) else match roomL S S.layers with
  | some x => some x
  | none => if 8 < S.moves.length then some ((S.moves.length : Int), 8) else none
theorem roomL_at {S : MS} : ∀ {ls : List Int} {i : Nat} {l : Int}, (∀ j l', j < i → ls[j]? = some l' → ¬ 8 < (rowsIn S l').length) → ls[i]? = some l → 8 < (rowsIn S l).length → roomL S ls = some (((rowsIn S l).length : Int), 8)
  | [], _, _, _, h, _ => by cases h
  | a :: ls, 0, l, _, h, h8 => by
    cases h
    exact if_pos h8
  | a :: ls, i + 1, l, hb, h, h8 => by
    show (if 8 < (rowsIn S a).length then _ else roomL S ls) = _
    rw [if_neg (hb 0 a (Nat.succ_pos _) rfl)]
    exact roomL_at (fun j l' hj e => hb (j + 1) l' (Nat.succ_lt_succ hj) e) h h8
theorem roomL_none {S : MS} : ∀ {ls : List Int}, (∀ (j : Nat) l', ls[j]? = some l' → ¬ 8 < (rowsIn S l').length) → roomL S ls = none
  | [], _ => rfl
  | a :: ls, hb => by
    show (if 8 < (rowsIn S a).length then _ else roomL S ls) = _
    rw [if_neg (hb 0 a rfl)]
    exact roomL_none fun j l' e => hb (j + 1) l' e
section
variable {P : Program} {w : World} {K : PySem.W.Frag} {mg : Str → Option Value} {base : Heap}
def sp_Made__need_room (K : PySem.W.Frag) (c : Nat → Addr) (CT : Nat → Addr) : Sp := fun vs H Q E => ∃ (p L R B M : Addr) (S : MS), vs = [.ref p] ∧ MadeC K (CT 0) H p L R B M S ∧ S.small 900 ∧ S.nd ∧ (roomS S = none → ∀ H', Same H H' → Q .non H') ∧ (∀ m n, roomS S = some (m, n) → ∀ H' d, Same H H' → H d = none → H' d = some (.xd [("most", .int n), ("many", .int m)]) → E (.ref (c 14)) (some d) H')
theorem ok_Made__need_room {f : Addr} {fd : FuncData} {c : Nat → Addr} {LE : Addr} (F : Fun K "need_room" "Made.need_room" s_Made__need_room f fd) (T : Txt K mg) (TX : ExcN K mg c LE) {CT : Nat → Addr} (TC : ClT K w mg CT) (D_need_at_most : ClX P w K mg base 3 "need_at_most" ["many", "most"] (sp_need_at_most K c)) (D_Made__rows_in : Ml P w K mg base 1 (CT 0) "rows_in" ["self", "layer"] (sp_Made__rows_in K CT)) : FnOk P w K mg base (L2.CX P w) 4 f fd ["self"] (sp_Made__need_room K c CT) := by
  refine F.okX sc_Made__need_room (fun vs H Q E h => ?_) (fun cdv A outer s H vs Q E hr h => ?_)
  · obtain ⟨p, L, R, B, M, S, rfl, _⟩ := h
    rfl
  · obtain ⟨p, L, R, B, M, S, rfl, cc, sm, nd, q0, q1⟩ := h
    obtain ⟨dx, hob⟩ := cc.ob
    have hL := cc.ly
    obtain ⟨ms, hM, hMs⟩ := cc.mv
    have lms : ms.length = S.moves.length := Paired.length hMs
    refine ⟨_, (pss_cons (ps_expr (pe_ownX D_need_at_most (hr.mono (by omega)) (takes_of rfl rfl rfl rfl) (by rfl) (pa_cons (pe_callB call_len_seq (by rfl) T.b_len (by decide +kernel) (pa_cons (pe_fld (pv 0) rfl) pa_nil)) (pa_cons (pe_gint (by rfl) T.c_MOST_LAYERS) pa_nil))))
      (pss_cons (ps_for (passes_of rfl) rfl (pi_list (pe_fld (pv 0) rfl)) (pg_name (i := 1) sc_Made__need_room.nd rfl (Or.inl rfl))
        (pss_one (ps_expr (pe_ownX D_need_at_most (hr.mono (by omega)) (takes_of rfl rfl rfl rfl) (by rfl) (pa_cons (pe_callB call_len_seq (by rfl) T.b_len (by decide +kernel) (pa_cons (pe_mth D_Made__rows_in TC.cM (hr.mono (by omega)) (pv 0) (pa_cons (pv 1) pa_nil)) pa_nil)) (pa_cons (pe_gint (by rfl) T.c_MOST_ROWS) pa_nil))))))
      (pss_one (ps_expr (pe_ownX D_need_at_most (hr.mono (by omega)) (takes_of rfl rfl rfl rfl) (by rfl) (pa_cons (pe_callB call_len_seq (by rfl) T.b_len (by decide +kernel) (pa_cons (pe_fld (pv 0) rfl) pa_nil)) (pa_cons (pe_gint (by rfl) T.c_MOST_MOVES) pa_nil))))))), ?_⟩
    refine ⟨_, rfl, p, _, dx, _, _, rfl, hob, TC.cM, TC.n1, fM_layers, L, _, rfl, .inl (.inl (.inl hL)), _, 4, rfl, fun h => ?_, fun h H' d s' nd' e' => ?_⟩
    rotate_left 1
    · refine q1 _ _ ?_ _ d s' nd' e'
      rw [List.length_map] at h ⊢
      exact if_pos (by omega)
    have h4 : ¬ 4 < S.layers.length := by rw [List.length_map] at h; omega
    have er : roomS S = match roomL S S.layers with
      | some x => some x
      | none => if 8 < S.moves.length then some ((S.moves.length : Int), 8) else none := if_neg h4
    refine ⟨_, rfl, p, _, dx, _, _, rfl, hob, TC.cM, TC.n1, fM_layers, L, rfl, ⟨_, .inl (.inl hL)⟩, for_list (K := K) (a := L) (xs := S.layers.map V.int) (fun i σ H' => Same H H' ∧ (∃ y1, σ = [some (.ref p), y1]) ∧ ∀ (j : Nat) l', j < i → S.layers[j]? = some l' → ¬ 8 < (rowsIn S l').length)
      ⟨Same.refl _, ⟨none, rfl⟩, fun j l' hj => absurd hj (Nat.not_lt_zero _)⟩ (fun i σ H' _ z => .inl (.inl (z.1 _ _ hL))) ?_ ?_⟩
    · rintro i x σ H1 hx ⟨s1, ⟨y1, rfl⟩, hb⟩
      obtain ⟨l, hl, rfl⟩ : ∃ l, S.layers[i]? = some l ∧ x = .int l := by
        rw [List.getElem?_map] at hx
        cases e : S.layers[i]? with
        | none => rw [e] at hx; cases hx
        | some l => rw [e] at hx; exact ⟨l, rfl, (Option.some.inj hx).symm⟩
      refine ⟨_, rfl, p, dx, _, rfl, s1 _ _ hob, rfl, _, rfl, p, L, R, B, M, S, l, rfl, cc.same s1, sm, nd, fun H2 X s2 nX eX => ?_⟩
      have s12 := s1.trans s2
      refine ⟨X, _, rfl, .inl (.inl (.inl eX)), _, 8, rfl, fun h => ⟨s12, ⟨_, rfl⟩, fun j l' hj e => ?_⟩, fun h H' d s' nd' e' => ?_⟩
      · rcases Nat.lt_succ_iff_lt_or_eq.mp hj with hj | hj
        · exact hb j l' hj e
        · rw [hj, hl] at e
          cases e
          rw [List.length_map] at h
          omega
      · refine q1 _ _ ?_ _ d (s12.trans s') (s12.free nd') e'
        rw [List.length_map] at h ⊢
        rw [er, roomL_at hb hl (by omega)]
    · rintro σ H1 ⟨s1, ⟨y1, rfl⟩, hb⟩
      rw [List.length_map] at hb
      have en : roomL S S.layers = none := roomL_none fun j l' e => hb j l' (List.getElem?_eq_some_iff.mp e).1 e
      rw [en] at er
      refine ⟨_, rfl, p, _, dx, _, _, rfl, s1 _ _ hob, TC.cM, TC.n4, fM_moves, M, _, rfl, .inl (.inl (.inl (s1 _ _ hM))), _, 8, rfl, fun h => q0 ?_ _ s1, fun h H' d s' nd' e' => ?_⟩
      · rw [er]
        exact if_neg (by omega)
      · refine q1 _ _ ?_ _ d (s1.trans s') (s1.free nd') e'
        rw [er, lms]
        exact if_pos (by omega)
end

theorem lcnew_listR {α : Type} {K : PySem.W.Frag} {a : Addr} {xs : List V} {g : TG} {tt : TT} {te : TE} {vs : List Nat} {σ : L2.St} {H1 : Hp} {D : Addr} {Qd : Hp → Prop} (At : Hp → V → α → Prop) (as : List α) (keep : ∀ {H H' : Hp} {v : V} {c : α}, TKeep K H H' → At H v c → At H' v c) (hl : as.length = xs.length) (hz : xs.length ≤ 1000) (hS : SqL K H1 a xs) (hD : H1 D = none)
    (hs : ∀ (i : Nat) (x : V) (c : α) (H : Hp) (R : V → Hp → Prop) (Z : Hp → Prop), xs[i]? = some x → as[i]? = some c → Same H1 H → (∀ y H4, Same H H4 → At H4 y c → R y H4) → g x (wipe σ vs) H fun σ2 H2 => wipe σ2 vs = wipe σ vs ∧ tt σ2 H2 fun b H3 => if b = true then te σ2 H3 R else Z H3)
    (hd : ∀ H ts, Same H1 H → H D = some (.lst ts) → Paired (At H) ts as → Qd H) :
    ∃ W : Nat → Nat → Hp → Prop, (∃ m, W 0 m (upd H1 D (.lst []))) ∧ ∀ i m H, W i m H →
      ((Itl K a).stop i H ∧ Qd H) ∨ ((Itl K a).go i H ∧ ∃ Nx : Hp → Prop, (∀ H', Nx H' → ∃ m', m' < m ∧ W (i + 1) m' H') ∧ ∀ x H', (Itl K a).yld i H x H' → g x (wipe σ vs) H' fun σ2 H2 => wipe σ2 vs = wipe σ vs ∧ tt σ2 H2 fun b H3 =>
        if b = true then te σ2 H3 fun y H4 => ∃ acc, H4 D = some (.lst acc) ∧ acc.length < sizeLine ∧ Nx (upd H4 D (.lst (acc ++ [y]))) else Nx H3) := by
  refine lc_list (K := K) (a := a) (xs := xs) (fun i H => Same H1 H ∧ ∃ ts, H D = some (.lst ts) ∧ ts.length = i ∧ Paired (At H) ts (as.take i)) ⟨same_upd hD, [], upd_same, rfl, .nil⟩ (fun i H _ p => p.1.seq hS) (fun i x H hx p => ?_) (fun H p => ?_)
  · have hi : i < xs.length := (List.getElem?_eq_some_iff.mp hx).1
    obtain ⟨c, hc⟩ : ∃ c, as[i]? = some c := ⟨_, List.getElem?_eq_getElem (by omega)⟩
    obtain ⟨s0, ts, eD, lt, pd⟩ := p
    refine hs i x c H _ _ hx hc s0 (fun y H4 s4 hy => ⟨ts, s4 _ _ eD, small1000 (by omega), ?_, ts ++ [y], upd_same, by rw [List.length_append, lt]; rfl, ?_⟩)
    · intro b o e
      rw [upd_ne (ne_of_none e hD)]
      exact s4 _ _ (s0 _ _ e)
    · have k : TKeep K H4 (upd H4 D (.lst (ts ++ [y]))) := fun a zs h => tk_updL (s4 _ _ eD) _ _ h
      rw [List.take_add_one, hc]
      exact Paired.snocP (Paired.mono pd fun _ _ h => keep k (keep (Same.tk s4) h)) (keep k hy)
  · obtain ⟨s0, ts, eD, lt, pd⟩ := p
    refine hd H ts s0 eD ?_
    rw [List.take_of_length_le (by omega)] at pd
    exact pd
def rowsOf (S : MS) (l : Int) : List RW := (S.rows.filter fun r => decide (r.2.1 = l)).map fun r => (r.2.2.1, r.2.2.2)
def backS (S : MS) (l : Int) : Option Int := (asV S.backs l).getD none
def backI (S : MS) (l : Int) : Option Int := match backS S l with
  | none => none
  | some b => if b ∈ rowsIn S l then some (((rowsIn S l).idxOf b : Nat) : Int) else none
def sheetS (S : MS) : List LY := S.layers.map fun l => (rowsOf S l, backI S l)
theorem asV_mem {α : Type} {l : List (Int × α)} {r : Int × α} (nd : (l.map (·.1)).Nodup) (h : r ∈ l) : asV l r.1 = some r.2 := by
  obtain ⟨i, hi⟩ := List.mem_iff_getElem?.mp h
  exact asV_at nd hi
theorem idx_before {b : Int} : ∀ {l : List Int} {m : Nat}, m < l.idxOf b → l[m]? ≠ some b
  | [], m, h => by simp at h
  | a :: l, m, h => by
    by_cases e : a = b
    · subst e
      simp at h
    · have hc : (a :: l).idxOf b = l.idxOf b + 1 := by
        have hb : (a == b) = false := by simpa using e
        rw [List.idxOf_cons, hb]
        rfl
      rw [hc] at h
      cases m with
      | zero =>
        intro z
        exact e (Option.some.inj z)
      | succ m => exact idx_before (l := l) (m := m) (by omega)
theorem inV_non (l : List Int) : inV .non (l.map V.int) = false := by
  induction l with
  | nil => rfl
  | cons a l ih => exact ih
section
variable {P : Program} {w : World} {K : PySem.W.Frag} {mg : Str → Option Value} {base : Heap}
def sp_Made__layer_made (K : PySem.W.Frag) (CT : Nat → Addr) : Sp := fun vs H Q _ => ∃ (p L R B M : Addr) (S : MS) (l : Int), vs = [.ref p, .int l] ∧ MadeC K (CT 0) H p L R B M S ∧ S.small 900 ∧ S.nd ∧ ∀ H' v, Same H H' → LyAt K H' v (rowsOf S l, backI S l) → Q v H'
theorem ok_Made__layer_made {f : Addr} {fd : FuncData} (F : Fun K "layer_made" "Made.layer_made" s_Made__layer_made f fd) (T : Txt K mg) {CT : Nat → Addr} (TC : ClT K w mg CT) (D_Made__rows_in : Ml P w K mg base 1 (CT 0) "rows_in" ["self", "layer"] (sp_Made__rows_in K CT)) : FnOk P w K mg base CX0 2 f fd ["self", "layer"] (sp_Made__layer_made K CT) := by
  refine F.ok sc_Made__layer_made (fun vs H Q E h => ?_) (fun cdv A outer s H vs Q E hr h => ?_)
  · obtain ⟨p, L, R, B, M, S, l, rfl, _⟩ := h
    rfl
  · obtain ⟨p, L, R, B, M, S, l, rfl, c, sm, nd, q⟩ := h
    obtain ⟨dx, hob⟩ := c.ob
    refine ⟨_, (pss_cons (ps_set (i := 2) sc_Made__layer_made.nd rfl (Or.inl rfl) (pe_mth D_Made__rows_in TC.cM (hr.mono (by omega)) (pv 0) (pa_cons (pv 1) pa_nil)))
      (pss_cons (ps_set (i := 3) sc_Made__layer_made.nd rfl (Or.inl rfl) (pe_dget1 (Nat.lt_of_le_of_lt (Nat.add_le_add_left (show 1 ≤ 64 by decide) _) hr.units) (pe_fld (pv 0) rfl) (pv 1) ⟨rfl, rfl, rfl, rfl⟩))
      (pss_cons (ps_set (i := 4) sc_Made__layer_made.nd rfl (Or.inl rfl) (pe_callTy call_tuple_of (by rfl) T.b_tuple (by decide +kernel) (pa_cons (pe_lc (own := [("number", 5)]) (g := (gName 5)) (tt := tYes) (by rfl) sc_Made__layer_made.nd (pi_list (pv 2)) (blkOk_by (own := [("number", 5)]) (N := ["self", "layer", "numbers", "back", "rows", "number"]) (sc := defScope s_Made__layer_made) (by decide +kernel)) (fun _ _ _ _ _ => (pg_name (i := 5) sc_Made__layer_made.nd rfl (Or.inl rfl))) (fun _ _ _ _ _ => pts_nil) (fun _ _ _ _ _ => (pe_slice (r := rSlA K) sl_tupA (pe_dget (Nat.lt_of_le_of_lt (Nat.add_le_add_left (show 1 ≤ 64 by decide) _) hr.units) (pe_fldK (K := K) (pv 0) rfl) (pv 5) (fun _ _ => rfl)) (po_some pe_int) po_none))) pa_nil)))
      (pss_one (ps_ret (pe_tup (pa_cons (pv 4) (pa_cons (pe_ifExp (pt_cmpR op_in_seq (pv 3) (pv 2) (by rfl)) (pe_bm PySem.F.plainAttrs_list PySem.F.slot_list_index PySem.F.type_list_index mt_index (pv 2) (pa_cons (pv 3) pa_nil)) pe_non) pa_nil)))))))), ?_⟩
    refine ⟨_, rfl, p, dx, _, rfl, hob, rfl, _, rfl, p, L, R, B, M, S, l, rfl, c, sm, nd, fun H1 X s1 nX eX => ?_⟩
    have c1 := c.same s1
    obtain ⟨kb, hB, hBk⟩ := c1.bk
    obtain ⟨kvs, hR, hA⟩ := c1.rw
    have hob1 := s1 _ _ hob
    refine ⟨_, rfl, p, _, dx, _, _, rfl, hob1, TC.cM, TC.n3, fM_backs, B, rfl, .inl ⟨_, .inl hB⟩, _, rfl, _, DGet.k (k := Sum.inl l) hB, ?_⟩
    have eb : (valV kb (Sum.inl l)).getD .non = bkV (backS S l) := by
      unfold backS
      rcases AsP.val hBk l with ⟨e1, e2⟩ | ⟨x, v, e1, e2, e3⟩
      · rw [e1, e2]; rfl
      · rw [e1, e2]; exact e3
    rw [eb]
    generalize hbk : backS S l = bk
    refine ⟨_, rfl, X, rfl, ⟨_, .inl (.inl eX)⟩, fun D hD => ?_⟩
    have lf : (S.rows.filter fun r => decide (r.2.1 = l)).length ≤ 900 := Nat.le_trans (List.length_filter_le _ _) sm.2.1
    refine lcnew_listR (RowAt K) (rowsOf S l) (fun k h => RowAt.keep k h) (by unfold rowsOf rowsIn; simp) (by unfold rowsIn; rw [List.length_map, List.length_map]; omega) (.inl (.inl eX)) hD (fun i u m H2 R' Z hx hm s2 hR' => ?_) (fun H2 ts s2 hL pd => ?_)
    · obtain ⟨r, hr1, rfl, rfl⟩ : ∃ r, (S.rows.filter fun r => decide (r.2.1 = l))[i]? = some r ∧ u = .int r.1 ∧ m = (r.2.2.1, r.2.2.2) := by
        unfold rowsIn at hx
        unfold rowsOf at hm
        rw [List.getElem?_map] at hm
        rw [List.getElem?_map, List.getElem?_map] at hx
        cases e : (S.rows.filter fun r => decide (r.2.1 = l))[i]? with
        | none => rw [e] at hm; cases hm
        | some r =>
          rw [e] at hm hx
          exact ⟨r, rfl, (Option.some.inj hx).symm, (Option.some.inj hm).symm⟩
      have has := asV_mem nd (List.mem_filter.mp (List.mem_of_getElem? hr1)).1
      obtain ⟨v', hv', pr, rfl, hpr⟩ : ∃ v', valV kvs (Sum.inl r.1) = some v' ∧ T3At K H1 v' r.2 := by
        rcases AsP.val hA r.1 with ⟨e, _⟩ | ⟨x', v', e1, e2, e3⟩
        · rw [has] at e; cases e
        · rw [has] at e1; cases e1; exact ⟨v', e2, e3⟩
      have hg : DGet H2 R (.int r.1) (some (.ref pr)) := by
        rw [← hv']
        exact DGet.k (k := Sum.inl r.1) (s2 _ _ hR)
      refine ⟨rfl, yes_ok ⟨_, rfl, p, _, dx, _, _, rfl, s2 _ _ hob1, TC.cM, TC.n2, fM_rows, _, rfl, R, _, rfl, hg, 1, rfl, pr, _, rfl, Same.sqT s2 hpr, fun z => absurd z.1 (by show ¬ (1 : Nat) = 0; decide), fun _ t nt => ?_⟩⟩
      have e1 : upd H2 t (.tup (cutV [.int r.2.1, .int r.2.2.1, .int r.2.2.2] (some 1) none)) t = some (.tup [.int r.2.2.1, .int r.2.2.2]) := upd_same
      exact hR' _ _ (same_upd nt) ⟨t, rfl, .inl (.inl e1)⟩
    · refine ⟨D, ts, rfl, .inl ⟨.inl (.inl hL), fun P nP => ?_⟩⟩
      obtain ⟨s3, e3⟩ := new_at (.tup ts) nP
      generalize upd H2 P (.tup ts) = H3 at s3 e3 ⊢
      have eX3 := s3 _ _ (s2 _ _ eX)
      have sA := (s1.trans s2).trans s3
      have fin : ∀ (o : Option Int) p5, H3 p5 = none → backI S l = o → LyAt K (upd H3 p5 (.tup [.ref P, bkV o])) (.ref p5) (rowsOf S l, backI S l) := fun o p5 np5 ho => by
        have s5 := same_upd (o := .tup [.ref P, bkV o]) np5
        rw [ho]
        exact ⟨p5, _, rfl, .inl (.inl upd_same), P, ts, rfl, .inl (.inl (s5 _ _ e3)), Paired.mono pd fun _ _ h => RowAt.keep (Same.tk (s3.trans s5)) h⟩
      have fb : flatV (bkV bk) = true := by cases bk <;> rfl
      refine ⟨_, rfl, _, rfl, _, rfl, X, _, rfl, .inl (.inl (.inl eX3)), fb, flat_ints _, ?_⟩
      show ∃ k, V.bl (inV (bkV bk) ((rowsIn S l).map V.int)) = .bl k ∧ _
      cases bk with
      | none =>
        refine ⟨_, rfl, ifN (inV_non _) ⟨(by show 2 ≤ sizeLine; decide), fun p5 np5 => ?_⟩⟩
        have hbI : backI S l = none := by
          unfold backI
          rw [hbk]
        exact q _ _ (sA.trans (same_upd np5)) (fin none p5 np5 hbI)
      | some b =>
        have ei : inV (bkV (some b)) ((rowsIn S l).map V.int) = decide (b ∈ rowsIn S l) := inV_ints b _
        refine ⟨_, rfl, ?_⟩
        rw [ei]
        by_cases hm : b ∈ rowsIn S l
        · rw [decide_eq_true hm]
          refine iteT ?_
          have hlt := List.idxOf_lt_length_iff.mpr hm
          have hget : (rowsIn S l)[(rowsIn S l).idxOf b]? = some b := by
            rw [List.getElem?_eq_getElem hlt, List.getElem_idxOf hlt]
          refine ⟨_, rfl, .inl ⟨rfl, _, .inl (.inl eX3)⟩, _, rfl, X, _, _, (rowsIn S l).idxOf b, .int b, rfl, rfl, .inl (.inl eX3), rfl, flat_ints _, by rw [List.getElem?_map, hget]; rfl, by show (b == b) = true; simp, fun m z' hm' hz' => ?_, (by show 2 ≤ sizeLine; decide), fun p5 np5 => ?_⟩
          · rw [List.getElem?_map] at hz'
            cases e : (rowsIn S l)[m]? with
            | none => rw [e] at hz'; cases hz'
            | some b' =>
              rw [e] at hz'
              cases hz'
              show (b' == b) = false
              have hne : b' ≠ b := fun h => idx_before hm' (by rw [e, h])
              simpa using hne
          · have hbI : backI S l = some (((rowsIn S l).idxOf b : Nat) : Int) := by
              unfold backI
              rw [hbk]
              exact if_pos hm
            exact q _ _ (sA.trans (same_upd np5)) (fin _ p5 np5 hbI)
        · rw [decide_eq_false hm]
          refine iteF ⟨(by show 2 ≤ sizeLine; decide), fun p5 np5 => ?_⟩
          have hbI : backI S l = none := by
            unfold backI
            rw [hbk]
            exact if_neg hm
          exact q _ _ (sA.trans (same_upd np5)) (fin none p5 np5 hbI)
def sp_Made__sheet_made (K : PySem.W.Frag) (CT : Nat → Addr) : Sp := fun vs H Q _ => ∃ (p L R B M : Addr) (S : MS), vs = [.ref p] ∧ MadeC K (CT 0) H p L R B M S ∧ S.small 900 ∧ S.nd ∧ (S.layers = [] → ∀ H', Same H H' → Q .non H') ∧ (S.layers ≠ [] → ∀ H' v, Same H H' → ShAt K H' v (sheetS S) 0 0 S.moves → Q v H')
theorem ok_Made__sheet_made {f : Addr} {fd : FuncData} (F : Fun K "sheet_made" "Made.sheet_made" s_Made__sheet_made f fd) (T : Txt K mg) {CT : Nat → Addr} (TC : ClT K w mg CT) (D_Made__layer_made : Ml P w K mg base 2 (CT 0) "layer_made" ["self", "layer"] (sp_Made__layer_made K CT)) : FnOk P w K mg base CX0 3 f fd ["self"] (sp_Made__sheet_made K CT) := by
  refine F.ok sc_Made__sheet_made (fun vs H Q E h => ?_) (fun cdv A outer s H vs Q E hr h => ?_)
  · obtain ⟨p, L, R, B, M, S, rfl, _⟩ := h
    rfl
  · obtain ⟨p, L, R, B, M, S, rfl, c, sm, nd, q0, q1⟩ := h
    obtain ⟨dx, hob⟩ := c.ob
    have hL := c.ly
    obtain ⟨ms, hM, hMs⟩ := c.mv
    refine ⟨_, (pss_cons (ps_if (pt_not (pt_truth (pe_fld (pv 0) rfl) (by intro _; rfl))) (pss_one (ps_ret pe_non)) pss_nil)
      (pss_one (ps_ret (pe_tup (pa_cons (pe_callTy call_tuple_of (by rfl) T.b_tuple (by decide +kernel) (pa_cons (pe_lc (own := [("layer", 1)]) (g := (gName 1)) (tt := tYes) (by rfl) sc_Made__sheet_made.nd (pi_list (pe_fld (pv 0) rfl)) (blkOk_by (own := [("layer", 1)]) (N := ["self", "layer"]) (sc := defScope s_Made__sheet_made) (by decide +kernel)) (fun _ _ _ _ _ => (pg_name (i := 1) sc_Made__sheet_made.nd rfl (Or.inl rfl))) (fun _ _ _ _ _ => pts_nil) (fun _ _ _ _ _ => (pe_mth D_Made__layer_made TC.cM (hr.mono (by omega)) (pv 0) (pa_cons (pv 1) pa_nil)))) pa_nil)) (pa_cons (pe_tup (pa_cons pe_int (pa_cons pe_int (pa_cons (pe_callTy call_tuple_of (by rfl) T.b_tuple (by decide +kernel) (pa_cons (pe_fld (pv 0) rfl) pa_nil)) pa_nil)))) pa_nil)))))), ?_⟩
    refine ⟨_, rfl, p, _, dx, _, _, rfl, hob, TC.cM, TC.n1, fM_layers, _, .inl ⟨_, .inl (.inl hL), rfl⟩, ?_⟩
    by_cases hn : S.layers = []
    · rw [hn]
      exact iteT (q0 hn _ (Same.refl _))
    have : (!(S.layers.map V.int).isEmpty) = true := by
      cases h : S.layers with
      | nil => exact absurd h hn
      | cons a t => rfl
    rw [this]
    refine iteF ?_
    refine ⟨_, rfl, p, _, dx, _, _, rfl, hob, TC.cM, TC.n1, fM_layers, L, rfl, ⟨_, .inl (.inl hL)⟩, fun D hD => ?_⟩
    refine lcnew_listR (LyAt K) (sheetS S) (fun k h => LyAt.keep k h) (by unfold sheetS; rw [List.length_map, List.length_map]) (by rw [List.length_map]; have := sm.1; omega) (.inl (.inl hL)) hD (fun i u m H2 R' Z hx hm s2 hR' => ?_) (fun H2 ts s2 hL2 pd => ?_)
    · obtain ⟨l, hl, rfl, rfl⟩ : ∃ l, S.layers[i]? = some l ∧ u = .int l ∧ m = (rowsOf S l, backI S l) := by
        unfold sheetS at hm
        rw [List.getElem?_map] at hm hx
        cases e : S.layers[i]? with
        | none => rw [e] at hm; cases hm
        | some l =>
          rw [e] at hm hx
          exact ⟨l, rfl, (Option.some.inj hx).symm, (Option.some.inj hm).symm⟩
      exact ⟨rfl, yes_ok ⟨_, rfl, p, dx, _, rfl, s2 _ _ hob, rfl, _, rfl, p, L, R, B, M, S, l, rfl, c.same s2, sm, nd, fun H3 v s3 hv => hR' _ _ s3 hv⟩⟩
    · refine ⟨D, ts, rfl, .inl ⟨.inl (.inl hL2), fun P nP => ?_⟩⟩
      obtain ⟨s3, e3⟩ := new_at (.tup ts) nP
      generalize upd H2 P (.tup ts) = H3 at s3 e3 ⊢
      have s23 := s2.trans s3
      refine ⟨_, rfl, p, _, dx, _, _, rfl, s23 _ _ hob, TC.cM, TC.n4, fM_moves, M, ms, rfl, .inl ⟨.inl (.inl (s23 _ _ hM)), fun P2 nP2 => ?_⟩⟩
      obtain ⟨s4, e4⟩ := new_at (.tup ms) nP2
      generalize upd H3 P2 (.tup ms) = H4 at s4 e4 ⊢
      refine ⟨(by show 3 ≤ sizeLine; decide), fun P3 nP3 => ?_⟩
      obtain ⟨s5, e5⟩ := new_at (.tup [.int 0, .int 0, .ref P2]) nP3
      generalize upd H4 P3 (.tup [.int 0, .int 0, .ref P2]) = H5 at s5 e5 ⊢
      refine ⟨(by show 2 ≤ sizeLine; decide), fun P4 nP4 => ?_⟩
      obtain ⟨s6, e6⟩ := new_at (.tup [.ref P, .ref P3]) nP4
      generalize upd H5 P4 (.tup [.ref P, .ref P3]) = H6 at s6 e6 ⊢
      have s46 := s4.trans (s5.trans s6)
      have s36 := s3.trans s46
      exact q1 hn _ _ (s2.trans s36) ⟨P4, _, _, rfl, .inl (.inl e6), ⟨P, ts, rfl, .inl (.inl (s46 _ _ e3)), Paired.mono pd fun _ _ h => LyAt.keep (Same.tk s36) h⟩, ⟨P3, _, rfl, .inl (.inl (s6 _ _ e5)), P2, ms, rfl, .inl (.inl ((s5.trans s6) _ _ e4)), Paired.mono hMs fun _ _ h => MoveAt.keep (Same.tk (s2.trans s36)) h⟩⟩
end

/-! ### rolls -/
def mkS (ds : List (Int × Dd)) : MS := ds.foldl (fun S x => fol S x.1 x.2) MS.nil
theorem mkS_snoc (ds : List (Int × Dd)) (n : Int) (δ : Dd) : mkS (ds ++ [(n, δ)]) = fol (mkS ds) n δ := by
  unfold mkS
  rw [List.foldl_append]
  rfl
structure RollC (K : PySem.W.Frag) (CT : Nat → Addr) (H : Hp) (p D m L R B M : Addr) (n : Int) (ds : List (Int × Dd)) : Prop where
  ob : ∃ dx, H p = some (.ins (CT 1) dx (fR D m n))
  dd : ∃ kvs, H D = some (.dK kvs) ∧ AsP (DeedAt K H) kvs ds
  md : MadeC K (CT 0) H m L R B M (mkS ds)
  pm : p ≠ m
  dr : D ≠ R
  db : D ≠ B
theorem RollC.same {K : PySem.W.Frag} {CT : Nat → Addr} {H H' : Hp} {p D m L R B M : Addr} {n : Int} {ds : List (Int × Dd)} (h : RollC K CT H p D m L R B M n ds) (s : Same H H') : RollC K CT H' p D m L R B M n ds := by
  obtain ⟨⟨dx, h1⟩, ⟨kvs, h2, h3⟩, h4, a, b, c⟩ := h
  exact ⟨⟨dx, s _ _ h1⟩, ⟨kvs, s _ _ h2, AsP.mono (fun _ _ => DeedAt.keep (Same.tk s)) h3⟩, h4.same s, a, b, c⟩
theorem ints_dg' {K : PySem.W.Frag} {fx H : Hp} {b : Bool} : ∀ ns : List Int, DgAll K fx H b (ns.map V.int) (ns.map .int)
  | [] => .nil
  | _ :: t => .cons (.int _) (ints_dg' t)
theorem DeedAt.dg {K : PySem.W.Frag} {fx H : Hp} {b : Bool} {v : V} {δ : Dd} (h : DeedAt K H v δ) : Dg K fx H b v (ddD δ) := by
  obtain ⟨p, rfl, hp⟩ := h
  exact .tup hp (.cons (.str _) (ints_dg' _))
theorem asPut_new {α : Type} {l : List (Int × α)} {n : Int} {x : α} (h : ∀ y ∈ l, y.1 ≠ n) : asPut l n x = l ++ [(n, x)] := by
  unfold asPut
  rw [if_neg]
  intro z
  obtain ⟨y, hy, hn⟩ := List.any_eq_true.mp z
  exact h y hy (of_decide_eq_true hn)
def DsOk (ds : List (Int × Dd)) (n : Int) : Prop := ds.length ≤ 300 ∧ ∀ x ∈ ds, x.1 < n
section
variable {P : Program} {w : World} {K : PySem.W.Frag} {mg : Str → Option Value} {base : Heap}
def sp_Roll__init (K : PySem.W.Frag) (CT : Nat → Addr) : Sp := fun vs H Q _ => ∃ (H0 : Hp) (p dx : Addr), vs = [.ref p] ∧ H p = some (.ins (CT 1) dx []) ∧ Same H0 H ∧ H0 p = none ∧ ∀ (H' : Hp) (D m L R B M : Addr), Same H0 H' → H0 D = none → H0 L = none → H0 M = none → RollC K CT H' p D m L R B M 0 [] → Q .non H'
theorem ok_Roll__init {f : Addr} {fd : FuncData} (F : Fun K "__init__" "Roll.__init__" s_Roll__init f fd) (T : Txt K mg) {CT : Nat → Addr} (TC : ClT K w mg CT) (D_Made__init : Mi P w K mg base 1 (CT 0) "Made" ["self"] (sp_Made__init K CT)) : FnOk P w K mg base CX0 3 f fd ["self"] (sp_Roll__init K CT) := by
  refine F.ok sc_Roll__init (fun vs H Q E h => ?_) (fun cdv A outer s H vs Q E hr h => ?_)
  · obtain ⟨H0, p, dx, rfl, _⟩ := h
    rfl
  · obtain ⟨H0, p, dx, rfl, hp, s0, n0, q⟩ := h
    refine ⟨_, (pss_cons (ps_fld (pv 0) pe_dnewK rfl)
      (pss_cons (ps_fld (pv 0) (pe_new D_Made__init (hr.mono (by omega)) (by rfl)) rfl)
      (pss_one (ps_fld (pv 0) pe_int rfl)))), ?_⟩
    refine fun D nD => ?_
    obtain ⟨s1, e1⟩ := new_at (.dK []) nD
    generalize upd H D (.dK []) = H1 at s1 e1 ⊢
    have p1 := s1 _ _ hp
    have D0 : H0 D = none := s0.free nD
    refine ⟨_, rfl, p, _, dx, _, rfl, p1, TC.cR, TC.r1, (by show 0 < 1000; decide), ?_⟩
    have s2 := same_n (s0.trans s1) n0 (.ins (CT 1) dx (putF "deeds" (.ref D) []))
    have e2 : upd H1 p (.ins (CT 1) dx (putF "deeds" (.ref D) [])) D = some (.dK []) := by rw [upd_ne (ne_of e1 p1 (by intro z; cases z))]; exact e1
    have p2 : upd H1 p (.ins (CT 1) dx (putF "deeds" (.ref D) [])) p = some (.ins (CT 1) dx (putF "deeds" (.ref D) [])) := upd_same
    generalize upd H1 p (.ins (CT 1) dx (putF "deeds" (.ref D) [])) = H2 at s2 e2 p2 ⊢
    intro x dm nx ndm nex
    have s3 : Same H2 (upd (upd H2 dm (.own x)) x (.ins (CT 0) dm [])) := fun b o e => by
      rw [upd_ne (ne_of_none e nx), upd_ne (ne_of_none e ndm)]
      exact e
    refine ⟨H2, x, dm, rfl, upd_same, s3, nx, fun H3 L R B M mN => ⟨rfl, ?_⟩⟩
    have p3 := mN.s _ _ p2
    refine ⟨_, rfl, p, _, dx, _, rfl, p3, TC.cR, TC.r2, (by show 1 < 1000; decide), _, rfl, p, _, dx, _, rfl, upd_same, TC.cR, TC.r3, (by show 2 < 1000; decide), ?_⟩
    have ne : ∀ {y : Addr}, H2 y = none → y ≠ p := fun {y} h z => by rw [z, p2] at h; cases h
    have s4 := same_n (s2.trans mN.s) n0 (.ins (CT 1) dx (putF "made" (.ref x) (putF "deeds" (.ref D) [])))
    have s5 := same_n s4 n0 (.ins (CT 1) dx (putF "numbered" (.int 0) (putF "made" (.ref x) (putF "deeds" (.ref D) []))))
    have ky : ∀ (y : Addr) (o : HO), y ≠ p → H3 y = some o → upd (upd H3 p (.ins (CT 1) dx (putF "made" (.ref x) (putF "deeds" (.ref D) [])))) p (.ins (CT 1) dx (putF "numbered" (.int 0) (putF "made" (.ref x) (putF "deeds" (.ref D) [])))) y = some o := fun y o hy e => by rw [upd_ne hy, upd_ne hy]; exact e
    have tk : TKeep K H3 (upd (upd H3 p (.ins (CT 1) dx (putF "made" (.ref x) (putF "deeds" (.ref D) [])))) p (.ins (CT 1) dx (putF "numbered" (.int 0) (putF "made" (.ref x) (putF "deeds" (.ref D) []))))) := fun a xs h => tk_i (K := K) upd_same a xs (tk_i (K := K) p3 a xs h)
    refine q _ D x L R B M s5 D0 (s2.free mN.nL) (s2.free mN.nM) ⟨⟨dx, upd_same⟩, ⟨[], ky _ _ (ne_of (mN.s _ _ e2) p3 (by intro z; cases z)) (mN.s _ _ e2), .nil⟩, ?_, Ne.symm (ne nx), ?_, ?_⟩
    · exact mN.c.keep tk (fun o => ky _ o (ne nx)) (fun o => ky _ o (ne mN.nL)) (fun o => ky _ o (ne mN.nR)) (fun o => ky _ o (ne mN.nB)) (fun o => ky _ o (ne mN.nM))
    · intro z
      have := mN.nR
      rw [← z, e2] at this
      cases this
    · intro z
      have := mN.nB
      rw [← z, e2] at this
      cases this
def sp_Roll__put (K : PySem.W.Frag) (c : Nat → Addr) (CT : Nat → Addr) : Sp := fun vs H Q E => ∃ (p D m L R B M : Addr) (n : Int) (ds : List (Int × Dd)) (fx : Hp) (b : Bool) (v : V) (d : PyData), vs = [.ref p, v] ∧ RollC K CT H p D m L R B M n ds ∧ DsOk ds n ∧ (mkS ds).small 300 ∧ (mkS ds).nd ∧ Dg K fx H b v d ∧ (∀ es, d = .tuple es → es.length ≤ 1000) ∧
  (takD (mkS ds) d = false → ∀ H', Same H H' → E (.ref (c 11)) none H') ∧ (takD (mkS ds) d = true → ∃ δ, DeedAt K H v δ ∧ rowOk (mkS ds) δ ∧ (fol (mkS ds) n δ).nd ∧
    (∀ a b', roomS (fol (mkS ds) n δ) = some (a, b') → ∀ H' d', Same H H' → H d' = none → H' d' = some (.xd [("most", .int b'), ("many", .int a)]) → E (.ref (c 14)) (some d') H') ∧
    (roomS (fol (mkS ds) n δ) = none → ∀ H' m' L' R' B' M', (∀ y o, y ≠ p → y ≠ D → H y = some o → H' y = some o) → H L' = none → H M' = none → RollC K CT H' p D m' L' R' B' M' (n + 1) (ds ++ [(n, δ)]) → Q (.int n) H'))
theorem ok_Roll__put {f : Addr} {fd : FuncData} {c : Nat → Addr} {LE : Addr} (F : Fun K "put" "Roll.put" s_Roll__put f fd) (T : Txt K mg) (TX : ExcN K mg c LE) {CT : Nat → Addr} (TC : ClT K w mg CT) (D_Made__takes : Ml P w K mg base 6 (CT 0) "takes" ["self", "thing"] (sp_Made__takes K CT)) (D_Made__twin : Ml P w K mg base 3 (CT 0) "twin" ["self"] (sp_Made__twin K CT)) (D_Made__follow : Ml P w K mg base 2 (CT 0) "follow" ["self", "number", "deed"] (sp_Made__follow K CT)) (D_Made__need_room : MlX P w K mg base 4 (CT 0) "need_room" ["self"] (sp_Made__need_room K c CT)) : FnOk P w K mg base (L2.CX P w) 7 f fd ["self", "deed"] (sp_Roll__put K c CT) := by
  refine F.okX sc_Roll__put (fun vs H Q E h => ?_) (fun cdv A outer s H vs Q E hr h => ?_)
  · obtain ⟨p, D, m, L, R, B, M, n, ds, fx, b, v, d, rfl, _⟩ := h
    rfl
  · obtain ⟨p, D, m, L, R, B, M, n, ds, fx, b, v, d, rfl, rc, dok, sm, nd, hd, hlen, q0, q1⟩ := h
    obtain ⟨dx, hob⟩ := rc.ob
    obtain ⟨dm, mob⟩ := rc.md.ob
    refine ⟨_, (pss_cons (ps_if (pt_not (pt_val (pe_mth D_Made__takes TC.cM (hr.mono (by omega)) (pe_fld (pv 0) rfl) (pa_cons (pv 1) pa_nil)))) (pss_one (ps_raise rfl (takes_of rfl rfl rfl rfl) (pmk_own PySem.F.excBase_ValueError (TX.nw 11 (by decide)) (TX.g 11 "NoDeed" rfl) (TX.kp 11 (by decide)) (TX.rs (i := 11) (by decide)) rfl))) pss_nil)
      (pss_cons (ps_set (i := 2) sc_Roll__put.nd rfl (Or.inl rfl) (pe_fld (pv 0) rfl))
      (pss_cons (ps_set (i := 3) sc_Roll__put.nd rfl (Or.inl rfl) (pe_mth0 D_Made__twin TC.cM (hr.mono (by omega)) (pe_fld (pv 0) rfl)))
      (pss_cons (ps_expr (pe_mth D_Made__follow TC.cM (hr.mono (by omega)) (pv 3) (pa_cons (pv 2) (pa_cons (pv 1) pa_nil))))
      (pss_cons (ps_expr (pe_mthX0 D_Made__need_room TC.cM (hr.mono (by omega)) (takes_of rfl rfl rfl rfl) (pv 3)))
      (pss_cons (ps_dput (Nat.lt_of_le_of_lt (Nat.add_le_add_left (show 1 ≤ 64 by decide) _) hr.units) (pe_fld (pv 0) rfl) (pv 2) (pv 1) rfl)
      (pss_cons (ps_fld (pv 0) (pv 3) rfl)
      (pss_cons (ps_fld (pv 0) (pe_op op_add (pv 2) pe_int) rfl)
      (pss_one (ps_ret (pv 2))))))))))), ?_⟩
    refine ⟨_, rfl, p, _, dx, _, _, rfl, hob, TC.cR, TC.r2, fR_made, m, dm, _, rfl, mob, rfl, _, rfl, m, L, R, B, M, mkS ds, fx, b, v, d, rfl, rc.md, hd, hlen, fun H1 s1 => ⟨_, rfl, ?_⟩⟩
    cases et : takD (mkS ds) d with
    | false => exact iteT (q0 et _ s1)
    | true =>
    refine iteF ?_
    obtain ⟨δ, hδ, hok, ndf, qr, qt⟩ := q1 et
    have rc1 := rc.same s1
    obtain ⟨dx, hob⟩ := rc1.ob
    obtain ⟨dm, mob⟩ := rc1.md.ob
    refine ⟨_, rfl, p, _, dx, _, _, rfl, hob, TC.cR, TC.r3, fR_numbered, ?_⟩
    refine ⟨_, rfl, p, _, dx, _, _, rfl, hob, TC.cR, TC.r2, fR_made, m, dm, _, rfl, mob, rfl, m, L, R, B, M, mkS ds, rfl, rc1.md, fun H2 m' L' R' B' M' mN => ?_⟩
    obtain ⟨d', mob'⟩ := mN.c.ob
    refine ⟨_, rfl, m', d', _, rfl, mob', rfl, _, rfl, _, rfl, H1, m', L', R', B', M', mkS ds, δ, v, n, rfl, hδ.keep (Same.tk (s1.trans mN.s)), hok, ⟨by have := sm.1; omega, by have := sm.2.1; omega, by have := sm.2.2.1; omega, by have := sm.2.2.2; omega⟩, mN, fun H3 mN3 => ?_⟩
    obtain ⟨d3, mob3⟩ := mN3.c.ob
    have sm3 : (fol (mkS ds) n δ).small 900 := by
      obtain ⟨a1, a2, a3, a4⟩ := fol_small (n := n) hok sm
      exact ⟨by omega, by omega, by omega, by omega⟩
    refine ⟨_, rfl, m', d3, _, rfl, mob3, rfl, m', L', R', B', M', fol (mkS ds) n δ, rfl, mN3.c, sm3, ndf, fun hr H4 s4 => ?_, fun a b' hr H4 dd s4 nd4 e4 => ?_⟩
    rotate_left 1
    · exact qr a b' hr H4 dd ((s1.trans mN3.s).trans s4) ((s1.trans mN3.s).free nd4) e4
    have s14 := mN3.s.trans s4
    have c4 := mN3.c.same s4
    have hob4 := s14 _ _ hob
    obtain ⟨kvs, hD, hA⟩ := rc1.dd
    have hD4 := s14 _ _ hD
    have lk : kvs.length ≤ 300 := by rw [AsP.len hA]; exact dok.1
    refine ⟨_, rfl, _, rfl, p, _, dx, _, _, rfl, hob4, TC.cR, TC.r1, fR_deeds, _, rfl, D, _, rfl, DPut.k (k := Sum.inl n) hD4 (small1000 (by omega)), ?_⟩
    have hpD : p ≠ D := ne_of hob4 hD4 (by intro z; cases z)
    have hob5 : upd H4 D (.dK (putK kvs (Sum.inl n) v)) p = some (.ins (CT 1) dx (fR D m n)) := by rw [upd_ne hpD]; exact hob4
    have e5 : upd H4 D (.dK (putK kvs (Sum.inl n) v)) D = some (.dK (putK kvs (Sum.inl n) v)) := upd_same
    have k5 : ∀ y o, y ≠ D → H4 y = some o → upd H4 D (.dK (putK kvs (Sum.inl n) v)) y = some o := fun y o hy e => by rw [upd_ne hy]; exact e
    have t5 : TKeep K H4 (upd H4 D (.dK (putK kvs (Sum.inl n) v))) := tk_d hD4
    generalize upd H4 D (.dK (putK kvs (Sum.inl n) v)) = H5 at hob5 e5 k5 t5 ⊢
    refine ⟨_, rfl, _, rfl, p, _, dx, _, rfl, hob5, TC.cR, TC.r2, (by show 3 < 1000; decide), ?_⟩
    rw [fR_p2]
    refine ⟨_, rfl, _, _, rfl, rfl, _, rfl, p, _, dx, _, rfl, upd_same, TC.cR, TC.r3, (by show 3 < 1000; decide), _, rfl, ?_⟩
    rw [fR_p3]
    have k7 : ∀ (y : Addr) (o : HO), y ≠ p → H5 y = some o → upd (upd H5 p (.ins (CT 1) dx (fR D m' n))) p (.ins (CT 1) dx (fR D m' (n + 1))) y = some o := fun y o hy e => by rw [upd_ne hy, upd_ne hy]; exact e
    have t7 : TKeep K H5 (upd (upd H5 p (.ins (CT 1) dx (fR D m' n))) p (.ins (CT 1) dx (fR D m' (n + 1)))) := fun a xs h => tk_i (K := K) upd_same a xs (tk_i (K := K) hob5 a xs h)
    have nP : ∀ {y : Addr}, H1 y = none → y ≠ p := fun {y} h z => by rw [z, hob] at h; cases h
    have nD : ∀ {y : Addr}, H1 y = none → y ≠ D := fun {y} h z => by rw [z, hD] at h; cases h
    have t47 : TKeep K H4 (upd (upd H5 p (.ins (CT 1) dx (fR D m' n))) p (.ins (CT 1) dx (fR D m' (n + 1)))) := fun a xs h => t7 a xs (t5 a xs h)
    have kk : ∀ (y : Addr) (o : HO), y ≠ p → y ≠ D → H4 y = some o → upd (upd H5 p (.ins (CT 1) dx (fR D m' n))) p (.ins (CT 1) dx (fR D m' (n + 1))) y = some o := fun y o h1 h2 e => k7 y o h1 (k5 y o h2 e)
    refine qt hr _ m' L' R' B' M' (fun y o h1 h2 e => kk y o h1 h2 ((s1.trans s14) _ _ e)) (s1.free mN.nL) (s1.free mN.nM) ⟨⟨dx, upd_same⟩, ⟨_, k7 _ _ (Ne.symm hpD) e5, ?_⟩, ?_, Ne.symm (nP mN.np), Ne.symm (nD mN.nR), Ne.symm (nD mN.nB)⟩
    · have hA4 : AsP (DeedAt K (upd (upd H5 p (.ins (CT 1) dx (fR D m' n))) p (.ins (CT 1) dx (fR D m' (n + 1))))) kvs ds := AsP.mono (fun _ _ h => DeedAt.keep t47 (DeedAt.keep (Same.tk s14) h)) hA
      have := AsP.put hA4 (k := n) (v := v) (x := δ) (DeedAt.keep t47 (DeedAt.keep (Same.tk (s1.trans s14)) hδ))
      rw [asPut_new (fun y hy => by have := dok.2 y hy; omega)] at this
      exact this
    · rw [mkS_snoc]
      exact c4.keep t47 (fun o => kk _ o (nP mN.np) (nD mN.np)) (fun o => kk _ o (nP mN.nL) (nD mN.nL)) (fun o => kk _ o (nP mN.nR) (nD mN.nR)) (fun o => kk _ o (nP mN.nB) (nD mN.nB)) (fun o => kk _ o (nP mN.nM) (nD mN.nM))
end

def NdAt (K : PySem.W.Frag) (H : Hp) (v : V) (x : Int × Dd) : Prop := ∃ t u, v = .ref t ∧ SqT K H t [.int x.1, u] ∧ DeedAt K H u x.2
theorem NdAt.keep {K : PySem.W.Frag} {H H' : Hp} {v : V} {x : Int × Dd} (k : TKeep K H H') (h : NdAt K H v x) : NdAt K H' v x := by
  obtain ⟨t, u, e, h1, h2⟩ := h
  exact ⟨t, u, e, k _ _ h1, h2.keep k⟩
def namO : Dd → Option Int
  | .layer => none
  | .move _ _ _ => none
  | .row l _ _ => some l
  | .draw r _ => some r
  | .hold r _ => some r
  | .drop r => some r
  | .round r => some r
  | .straight l => some l
def stdD (ds : List (Int × Dd)) (d : PyData) : Bool := isWf d 0 && (match d with
  | .int n => (asV ds n).isSome
  | _ => false)
def leanL (ds : List (Int × Dd)) (k : Int) : List Int := (ds.filter fun x => decide (namO x.2 = some k)).map (·.1)
theorem bkV_eq {o : Option Int} {k : Int} : (bkV o = .int k) ↔ o = some k := by
  cases o with
  | none => exact ⟨(fun h => nomatch h), (fun h => nomatch h)⟩
  | some b =>
    constructor
    · intro h
      rw [V.int.inj h]
    · intro h
      rw [Option.some.inj h]
      rfl
theorem pd_items {K : PySem.W.Frag} {H H' : Hp} (tk : TKeep K H H') : ∀ {ts : List Addr} {kvs : List (Key × V)} {ds : List (Int × Dd)}, Paired (fun (t : Addr) (q : Key × V) => H' t = some (.tup [kV q.1, q.2])) ts kvs → AsP (DeedAt K H) kvs ds → Paired (NdAt K H') (ts.map V.ref) ds
  | _, _, _, .nil, h => by
    cases h
    exact .nil
  | _, _, _, .cons h t, hA => by
    cases hA with
    | cons h2 t2 =>
      refine .cons ⟨_, _, rfl, ?_, DeedAt.keep tk h2.2⟩ (pd_items tk t t2)
      rw [h2.1] at h
      exact .inl (.inl h)
section
variable {P : Program} {w : World} {K : PySem.W.Frag} {mg : Str → Option Value} {base : Heap}
def sp_Roll__sheet_now (K : PySem.W.Frag) (CT : Nat → Addr) : Sp := fun vs H Q _ => ∃ (p D m L R B M : Addr) (n : Int) (ds : List (Int × Dd)), vs = [.ref p] ∧ RollC K CT H p D m L R B M n ds ∧ (mkS ds).small 900 ∧ (mkS ds).nd ∧ ((mkS ds).layers = [] → ∀ H', Same H H' → Q .non H') ∧ ((mkS ds).layers ≠ [] → ∀ H' v, Same H H' → ShAt K H' v (sheetS (mkS ds)) 0 0 (mkS ds).moves → Q v H')
theorem ok_Roll__sheet_now {f : Addr} {fd : FuncData} (F : Fun K "sheet_now" "Roll.sheet_now" s_Roll__sheet_now f fd) (T : Txt K mg) {CT : Nat → Addr} (TC : ClT K w mg CT) (D_Made__sheet_made : Ml P w K mg base 3 (CT 0) "sheet_made" ["self"] (sp_Made__sheet_made K CT)) : FnOk P w K mg base CX0 4 f fd ["self"] (sp_Roll__sheet_now K CT) := by
  refine F.ok sc_Roll__sheet_now (fun vs H Q E h => ?_) (fun cdv A outer s H vs Q E hr h => ?_)
  · obtain ⟨p, D, m, L, R, B, M, n, ds, rfl, _⟩ := h
    rfl
  · obtain ⟨p, D, m, L, R, B, M, n, ds, rfl, rc, sm, nd, q0, q1⟩ := h
    obtain ⟨dx, hob⟩ := rc.ob
    obtain ⟨dm, mob⟩ := rc.md.ob
    refine ⟨_, (pss_one (ps_ret (pe_mth0 D_Made__sheet_made TC.cM (hr.mono (by omega)) (pe_fld (pv 0) rfl)))), ?_⟩
    exact ⟨_, rfl, p, _, dx, _, _, rfl, hob, TC.cR, TC.r2, fR_made, m, dm, _, rfl, mob, rfl, m, L, R, B, M, mkS ds, rfl, rc.md, sm, nd, q0, q1⟩
def sp_Roll__standing (K : PySem.W.Frag) (CT : Nat → Addr) : Sp := fun vs H Q _ => ∃ (p D m L R B M : Addr) (n : Int) (ds : List (Int × Dd)), vs = [.ref p] ∧ RollC K CT H p D m L R B M n ds ∧ ∀ H' X us, Same H H' → H X = none → H' X = some (.lst us) → Paired (NdAt K H') us ds → Q (.ref X) H'
theorem ok_Roll__standing {f : Addr} {fd : FuncData} (F : Fun K "standing" "Roll.standing" s_Roll__standing f fd) (T : Txt K mg) {CT : Nat → Addr} (TC : ClT K w mg CT) : FnOk P w K mg base CX0 1 f fd ["self"] (sp_Roll__standing K CT) := by
  refine F.ok sc_Roll__standing (fun vs H Q E h => ?_) (fun cdv A outer s H vs Q E hr h => ?_)
  · obtain ⟨p, D, m, L, R, B, M, n, ds, rfl, _⟩ := h
    rfl
  · obtain ⟨p, D, m, L, R, B, M, n, ds, rfl, rc, q⟩ := h
    obtain ⟨dx, hob⟩ := rc.ob
    obtain ⟨kvs, hD, hA⟩ := rc.dd
    refine ⟨_, (pss_one (ps_ret (LiI.pe_listItems (by rfl) (pe_fld (pv 0) rfl) (by rfl) T.b_list (by decide +kernel)))), ?_⟩
    refine ⟨_, rfl, p, _, dx, _, _, rfl, hob, TC.cR, TC.r1, fR_deeds, D, kvs, rfl, hD, fun H' X ts s' nX nts _ eX pt => ?_⟩
    exact q H' X _ s' nX eX (pd_items (Same.tk s') pt hA)
def sp_named (K : PySem.W.Frag) : Sp := fun vs H Q _ => ∃ (v : V) (δ : Dd), vs = [v] ∧ DeedAt K H v δ ∧ ∀ H', Same H H' → Q (bkV (namO δ)) H'
theorem ok_named {f : Addr} {fd : FuncData} (F : Fun K "named" "named" s_named f fd) (T : Txt K mg) : FnOk P w K mg base CX0 1 f fd ["deed"] (sp_named K) := by
  refine F.ok sc_named (fun vs H Q E h => ?_) (fun cdv A outer s H vs Q E hr h => ?_)
  · obtain ⟨v, δ, rfl, _⟩ := h
    rfl
  · obtain ⟨v, δ, rfl, ⟨y, rfl, hy⟩, q⟩ := h
    refine ⟨_, (pss_one (ps_ret (pe_ifExp (pt_cmpR op_in_seq (pe_ix ix_tup (pv 0) pe_int (fun _ _ => rfl)) (pe_tup (pa_cons pe_str (pa_cons pe_str pa_nil))) (by rfl)) pe_non (pe_ix ix_tup (pv 0) pe_int (fun _ _ => rfl))))), ?_⟩
    refine ⟨_, rfl, y, _, 0, .str δ.word, rfl, rfl, hy, at0, (by show 2 ≤ sizeLine; decide), fun t nt => ?_⟩
    have s1 := same_upd (o := .tup [.str "layer", .str "move"]) nt
    have e1 : upd H t (.tup [.str "layer", .str "move"]) t = some (.tup [.str "layer", .str "move"]) := upd_same
    generalize upd H t (.tup [.str "layer", .str "move"]) = H1 at s1 e1 ⊢
    have hy1 := Same.sqT s1 hy
    refine ⟨t, _, rfl, .inr (.inl (.inl e1)), rfl, rfl, _, rfl, ?_⟩
    cases δ with
    | layer => exact ifY (by decide +kernel) (q _ s1)
    | move a b c => exact ifY (by show inV (.str "move") [.str "layer", .str "move"] = true; decide +kernel) (q _ s1)
    | row a b c => exact ifN (by show inV (.str "row") [.str "layer", .str "move"] = false; decide +kernel) ⟨_, rfl, y, _, 1, _, rfl, rfl, hy1, at_n 1 rfl, q _ s1⟩
    | draw a b => exact ifN (by show inV (.str "draw") [.str "layer", .str "move"] = false; decide +kernel) ⟨_, rfl, y, _, 1, _, rfl, rfl, hy1, at_n 1 rfl, q _ s1⟩
    | hold a b => exact ifN (by show inV (.str "hold") [.str "layer", .str "move"] = false; decide +kernel) ⟨_, rfl, y, _, 1, _, rfl, rfl, hy1, at_n 1 rfl, q _ s1⟩
    | drop a => exact ifN (by show inV (.str "drop") [.str "layer", .str "move"] = false; decide +kernel) ⟨_, rfl, y, _, 1, _, rfl, rfl, hy1, at_n 1 rfl, q _ s1⟩
    | round a => exact ifN (by show inV (.str "round") [.str "layer", .str "move"] = false; decide +kernel) ⟨_, rfl, y, _, 1, _, rfl, rfl, hy1, at_n 1 rfl, q _ s1⟩
    | straight a => exact ifN (by show inV (.str "straight") [.str "layer", .str "move"] = false; decide +kernel) ⟨_, rfl, y, _, 1, _, rfl, rfl, hy1, at_n 1 rfl, q _ s1⟩
def sp_Roll__need_standing (K : PySem.W.Frag) (c : Nat → Addr) (CT : Nat → Addr) : Sp := fun vs H Q E => ∃ (p D m L R B M : Addr) (n : Int) (ds : List (Int × Dd)) (fx : Hp) (b : Bool) (v : V) (d : PyData), vs = [.ref p, v] ∧ RollC K CT H p D m L R B M n ds ∧ Dg K fx H b v d ∧ (stdD ds d = true → Q .non H) ∧ (stdD ds d = false → E (.ref (c 5)) none H)
theorem ok_Roll__need_standing {f : Addr} {fd : FuncData} {c : Nat → Addr} {LE : Addr} (F : Fun K "need_standing" "Roll.need_standing" s_Roll__need_standing f fd) (T : Txt K mg) (TX : ExcN K mg c LE) {CT : Nat → Addr} (TC : ClT K w mg CT) (D_is_whole_from : Cl P w K mg base 1 "is_whole_from" ["thing", "least"] (sp_is_whole_from K)) : FnOk P w K mg base (L2.CX P w) 2 f fd ["self", "number"] (sp_Roll__need_standing K c CT) := by
  refine F.okX sc_Roll__need_standing (fun vs H Q E h => ?_) (fun cdv A outer s H vs Q E hr h => ?_)
  · obtain ⟨p, D, m, L, R, B, M, n, ds, fx, b, v, d, rfl, _⟩ := h
    rfl
  · obtain ⟨p, D, m, L, R, B, M, n, ds, fx, b, v, d, rfl, rc, hd, q1, q0⟩ := h
    obtain ⟨dx, hob⟩ := rc.ob
    obtain ⟨kvs, hD, hA⟩ := rc.dd
    refine ⟨_, (pss_one (ps_if (PW.pt (pw_or (pt_not (pt_val (pe_own D_is_whole_from (hr.mono (by omega)) (by rfl) (pa_cons (pv 1) (pa_cons pe_int pa_nil))))) (pw_or1 (pt_cmp (pc_dnotin (Nat.lt_of_le_of_lt (Nat.add_le_add_left (show 1 ≤ 64 by decide) _) hr.units) (pv 1) (pe_fld (pv 0) rfl)) (by rfl))))) (pss_one (ps_raise rfl (takes_of rfl rfl rfl rfl) (pmk_own PySem.F.excBase_ValueError (TX.nw 5 (by decide)) (TX.g 5 "NoNumber" rfl) (TX.kp 5 (by decide)) (TX.rs (i := 5) (by decide)) rfl))) pss_nil)), ?_⟩
    refine ⟨_, rfl, fx, b, v, d, 0, rfl, hd, _, rfl, ?_⟩
    unfold stdD at q0 q1
    cases ew : isWf d 0 with
    | false =>
      rw [ew] at q0
      exact iteT (q0 rfl)
    | true =>
      obtain ⟨k, rfl, rfl⟩ := wf_int hd ew
      rw [ew, Bool.true_and] at q0 q1
      refine iteF ⟨_, rfl, _, rfl, p, _, dx, _, _, rfl, hob, TC.cR, TC.r1, fR_deeds, D, _, rfl, DGet.k (k := Sum.inl k) hD, _, rfl, ?_⟩
      have ee : (valV kvs (Sum.inl k)).isSome = (asV ds k).isSome := by
        rcases AsP.val hA k with ⟨e1, e2⟩ | ⟨x, v', e1, e2, _⟩ <;> rw [e1, e2] <;> rfl
      rw [ee]
      cases es : (asV ds k).isSome with
      | false => exact iteT (q0 es)
      | true => exact iteF (q1 es)
end

section
variable {P : Program} {w : World} {K : PySem.W.Frag} {mg : Str → Option Value} {base : Heap}
def sp_Roll__leaning (K : PySem.W.Frag) (c : Nat → Addr) (CT : Nat → Addr) : Sp := fun vs H Q E => ∃ (p D m L R B M : Addr) (n : Int) (ds : List (Int × Dd)) (fx : Hp) (b : Bool) (v : V) (d : PyData), vs = [.ref p, v] ∧ RollC K CT H p D m L R B M n ds ∧ ds.length ≤ 300 ∧ Dg K fx H b v d ∧ (stdD ds d = false → E (.ref (c 5)) none H) ∧ (∀ k, v = .int k → stdD ds d = true → ∀ H' X, Same H H' → H X = none → H' X = some (.lst ((leanL ds k).map V.int)) → Q (.ref X) H')
theorem ok_Roll__leaning {f : Addr} {fd : FuncData} {c : Nat → Addr} {LE : Addr} (F : Fun K "leaning" "Roll.leaning" s_Roll__leaning f fd) (T : Txt K mg) (TX : ExcN K mg c LE) {CT : Nat → Addr} (TC : ClT K w mg CT) (D_Roll__need_standing : MlX P w K mg base 2 (CT 1) "need_standing" ["self", "number"] (sp_Roll__need_standing K c CT)) (D_named : Cl P w K mg base 1 "named" ["deed"] (sp_named K)) : FnOk P w K mg base (L2.CX P w) 3 f fd ["self", "number"] (sp_Roll__leaning K c CT) := by
  refine F.okX sc_Roll__leaning (fun vs H Q E h => ?_) (fun cdv A outer s H vs Q E hr h => ?_)
  · obtain ⟨p, D, m, L, R, B, M, n, ds, fx, b, v, d, rfl, _⟩ := h
    rfl
  · obtain ⟨p, D, m, L, R, B, M, n, ds, fx, b, v, d, rfl, rc, l3, hd, q0, q1⟩ := h
    obtain ⟨dx, hob⟩ := rc.ob
    obtain ⟨kvs, hD, hA⟩ := rc.dd
    have hpD : p ≠ D := ne_of hob hD (by intro z; cases z)
    refine ⟨_, (pss_cons (ps_expr (pe_mthX D_Roll__need_standing TC.cR (hr.mono (by omega)) (takes_of rfl rfl rfl rfl) (pv 0) (pa_cons (pv 1) pa_nil)))
      (pss_one (ps_ret (pe_lock (pe_lc (own := [("later", 2), ("deed", 3)]) (g := (gTup _ 2 (gCons (gName 2) (gCons (gName 3) gNil)))) (by rfl) sc_Roll__leaning.nd (pi_items (pe_fld (pv 0) rfl)) (blkOk_by (own := [("later", 2), ("deed", 3)]) (N := ["self", "number", "later", "deed"]) (sc := defScope s_Roll__leaning) (by decide +kernel)) (fun _ _ _ _ _ => (pg_tup (by rfl) (pgs_cons (pg_name (i := 2) sc_Roll__leaning.nd rfl (Or.inl rfl)) (pgs_cons (pg_name (i := 3) sc_Roll__leaning.nd rfl (Or.inl rfl)) pgs_nil)))) (fun _ _ _ _ _ => (pts_one (pt_cmpR op_eq (pe_own D_named (hr.mono (by omega)) (by rfl) (pa_cons (pv 3) pa_nil)) (pv 1) (nomark _)))) (fun _ _ _ _ _ => (pv 2))))))), ?_⟩
    refine ⟨_, rfl, p, dx, _, rfl, hob, rfl, _, rfl, p, D, m, L, R, B, M, n, ds, fx, b, v, d, rfl, rc, hd, fun hs => ?_, q0⟩
    obtain ⟨k, rfl, rfl⟩ : ∃ k : Int, v = .int k ∧ d = .int k := by
      unfold stdD at hs
      rw [Bool.and_eq_true] at hs
      exact wf_int hd hs.1
    refine ⟨D, _, hD, trivial, fun od => ?_⟩
    have k1 : ∀ b o, b ≠ D → H b = some o → upd H D (.frz od (.dK kvs)) b = some o := fun b o hb e => by rw [upd_ne hb]; exact e
    have e1 : upd H D (.frz od (.dK kvs)) D = some (.frz od (.dK kvs)) := upd_same
    have t1 : TKeep K H (upd H D (.frz od (.dK kvs))) := tk_d hD
    have f1 : ∀ X, upd H D (.frz od (.dK kvs)) X = none → H X = none := fun X h => by
      by_cases hX : X = D
      · rw [hX, e1] at h; cases h
      · rw [upd_ne hX] at h; exact h
    generalize upd H D (.frz od (.dK kvs)) = H1 at k1 e1 t1 f1 ⊢
    refine ⟨_, rfl, p, _, dx, _, _, rfl, k1 _ _ hpD hob, TC.cR, TC.r1, fR_deeds, D, od, kvs, rfl, e1, fun X hX => ?_⟩
    refine lc_it (walk_items (d := D) (o := od) (kvs := kvs)) (fun i H' => Same H1 H' ∧ H' X = some (.lst ((((ds.take i).filter fun x => decide (namO x.2 = some k)).map (·.1)).map V.int))) ⟨same_upd hX, upd_same⟩ (fun _ _ _ z => z.1 _ _ e1) (fun i x Ha Hb hi pa yx => ?_) (fun Ha pa => ?_)
    · obtain ⟨T, x1, x2, rfl, nT, rfl, g1, g2⟩ := yx
      obtain ⟨sa, ea⟩ := pa
      obtain ⟨kv, hkv⟩ : ∃ kv, kvs[i]? = some kv := ⟨_, List.getElem?_eq_getElem hi⟩
      dsimp only at g1 g2
      rw [hkv] at g1 g2
      cases g1
      cases g2
      obtain ⟨r, hr1, hk, hdd⟩ := Paired.at hA hkv
      obtain ⟨kk, u⟩ := kv
      dsimp only at hk hdd
      subst hk
      obtain ⟨sT, eT⟩ := new_at (.tup [.int r.1, u]) nT
      have sT' : Same Ha (upd Ha T (.tup [kV (Sum.inl r.1), u])) := sT
      have eT' : upd Ha T (.tup [kV (Sum.inl r.1), u]) T = some (.tup [.int r.1, u]) := eT
      generalize upd Ha T (.tup [kV (Sum.inl r.1), u]) = H2 at sT' eT' ⊢
      have s2 := sa.trans sT'
      have et : ((ds.take (i + 1)).filter fun x => decide (namO x.2 = some k)).map (·.1) = ((ds.take i).filter fun x => decide (namO x.2 = some k)).map (·.1) ++ (if namO r.2 = some k then [r.1] else []) := by
        rw [List.take_add_one, hr1, List.filter_append, List.map_append]
        congr 1
        show (List.filter (fun x => decide (namO x.2 = some k)) [r]).map (·.1) = _
        by_cases h : namO r.2 = some k
        · rw [List.filter_cons_of_pos (by simp [h]), if_pos h]
          rfl
        · rw [List.filter_cons_of_neg (by simp [h]), if_neg h]
          rfl
      refine ⟨T, _, rfl, .inl (.inl eT'), rfl, _, _, rfl, _, _, rfl, rfl, rfl, _, rfl, u, r.2, rfl, DeedAt.keep (Same.tk s2) (DeedAt.keep t1 hdd), fun H3 s3 => ⟨_, rfl, (by cases namO r.2 <;> rfl), _, rfl, ite2 (fun e => ?_) (fun e => ?_)⟩⟩
      · have e' : namO r.2 = some k := bkV_eq.mp (of_decide_eq_true e)
        refine ⟨_, rfl, _, s3 _ _ (sT' _ _ ea), small1000 ?_, ?_, ?_⟩
        · rw [List.length_map, List.length_map]
          refine Nat.le_trans (List.length_filter_le _ _) ?_
          rw [List.length_take]
          omega
        · intro b o eb
          rw [upd_ne (ne_of_none eb hX)]
          exact s3 _ _ (s2 _ _ eb)
        · rw [upd_same, et, if_pos e', List.map_append]
          rfl
      · have e' : ¬ namO r.2 = some k := fun h => e (decide_eq_true (bkV_eq.mpr h))
        refine ⟨s2.trans s3, ?_⟩
        rw [et, if_neg e', List.append_nil]
        exact s3 _ _ (sT' _ _ ea)
    · obtain ⟨sa, ea⟩ := pa
      rw [AsP.len hA, List.take_length] at ea
      have nXD : X ≠ D := fun z => by rw [z, e1] at hX; cases hX
      refine ⟨sa _ _ e1, q1 k rfl hs _ X (lock_same (od := od) hD fun b o hb e => sa _ _ (k1 b o hb e)) (f1 X hX) ?_⟩
      rw [upd_ne nXD]
      exact ea
/-- each deed names what stands when it is done -/
def WFd (ds : List (Int × Dd)) : Prop := ∀ (i : Nat) (n : Int) (δ : Dd), ds[i]? = some (n, δ) → rowOk (mkS (ds.take i)) δ
theorem mkS_small {ds : List (Int × Dd)} (h : WFd ds) : ∀ i : Nat, i ≤ ds.length → (mkS (ds.take i)).small i
  | 0, _ => ⟨Nat.le_refl _, Nat.le_refl _, Nat.le_refl _, Nat.le_refl _⟩
  | i + 1, hi => by
    have ih := mkS_small h i (by omega)
    obtain ⟨x, hx⟩ : ∃ x, ds[i]? = some x := ⟨_, List.getElem?_eq_getElem (by omega)⟩
    rw [List.take_add_one, hx]
    show (mkS (ds.take i ++ [(x.1, x.2)])).small (i + 1)
    rw [mkS_snoc]
    exact fol_small (h i x.1 x.2 hx) ih
def sp_made_anew (K : PySem.W.Frag) (CT : Nat → Addr) : Sp := fun vs H Q _ => ∃ (D : Addr) (kvs : List (Key × V)) (ds : List (Int × Dd)), vs = [.ref D] ∧ H D = some (.dK kvs) ∧ AsP (DeedAt K H) kvs ds ∧ WFd ds ∧ ds.length ≤ 300 ∧ ∀ H' m L R B M, MadeN K (CT 0) H H' m L R B M (mkS ds) → Q (.ref m) H'
theorem ok_made_anew {f : Addr} {fd : FuncData} (F : Fun K "made_anew" "made_anew" s_made_anew f fd) (T : Txt K mg) {CT : Nat → Addr} (TC : ClT K w mg CT) (D_Made__init : Mi P w K mg base 1 (CT 0) "Made" ["self"] (sp_Made__init K CT)) (D_Made__follow : Ml P w K mg base 2 (CT 0) "follow" ["self", "number", "deed"] (sp_Made__follow K CT)) : FnOk P w K mg base CX0 3 f fd ["deeds"] (sp_made_anew K CT) := by
  refine F.ok sc_made_anew (fun vs H Q E h => ?_) (fun cdv A outer s H vs Q E hr h => ?_)
  · obtain ⟨D, kvs, ds, rfl, _⟩ := h
    rfl
  · obtain ⟨D, kvs, ds, rfl, hD, hA, wf, l3, q⟩ := h
    refine ⟨_, (pss_cons (ps_set (i := 1) sc_made_anew.nd rfl (Or.inl rfl) (pe_new D_Made__init (hr.mono (by omega)) (by rfl)))
      (pss_cons (ps_lock (ps_for PassesOwn.never rfl (pi_items (pv 0)) (pg_tup (by rfl) (pgs_cons (pg_name (i := 2) sc_made_anew.nd rfl (Or.inl rfl)) (pgs_cons (pg_name (i := 3) sc_made_anew.nd rfl (Or.inl rfl)) pgs_nil)))
        (pss_one (ps_expr (pe_mth D_Made__follow TC.cM (hr.mono (by omega)) (pv 1) (pa_cons (pv 2) (pa_cons (pv 3) pa_nil)))))))
      (pss_one (ps_ret (pv 1))))), ?_⟩
    intro x dx nx ndx nex
    have s0 : Same H (upd (upd H dx (.own x)) x (.ins (CT 0) dx [])) := fun b o e => by
      rw [upd_ne (ne_of_none e nx), upd_ne (ne_of_none e ndx)]
      exact e
    refine ⟨H, x, dx, rfl, upd_same, s0, nx, fun H1 L R B M mN => ⟨rfl, ?_⟩⟩
    have hD1 := mN.s _ _ hD
    refine ⟨D, _, hD1, trivial, fun od => ?_⟩
    have nD : ∀ {y : Addr}, H y = none → y ≠ D := fun {y} h z => by rw [z, hD] at h; cases h
    -- below, all is told of the heap in which the dict is locked
    have kH : ∀ b o, b ≠ D → H b = some o → upd H D (.frz od (.dK kvs)) b = some o := fun b o hb e => by rw [upd_ne hb]; exact e
    have mL : MadeN K (CT 0) (upd H D (.frz od (.dK kvs))) (upd H1 D (.frz od (.dK kvs))) x L R B M MS.nil := by
      obtain ⟨s, c, a1, a2, a3, a4, a5⟩ := mN
      have kk : ∀ {y : Addr}, H y = none → ∀ o, H1 y = some o → upd H1 D (.frz od (.dK kvs)) y = some o := fun {y} h o e => by rw [upd_ne (nD h)]; exact e
      have nn : ∀ {y : Addr}, H y = none → upd H D (.frz od (.dK kvs)) y = none := fun {y} h => by rw [upd_ne (nD h)]; exact h
      refine ⟨fun b o e => ?_, c.keep (tk_d hD1) (kk a1) (kk a2) (kk a3) (kk a4) (kk a5), nn a1, nn a2, nn a3, nn a4, nn a5⟩
      by_cases hb : b = D
      · rw [hb, upd_same] at e ⊢
        exact e
      · rw [upd_ne hb] at e ⊢
        exact s _ _ e
    have eL : upd H D (.frz od (.dK kvs)) D = some (.frz od (.dK kvs)) := upd_same
    have tL : TKeep K H (upd H D (.frz od (.dK kvs))) := tk_d hD
    have fL : ∀ y, upd H D (.frz od (.dK kvs)) y = none → H y = none := fun y h => by
      by_cases hy : y = D
      · rw [hy, upd_same] at h; cases h
      · rw [upd_ne hy] at h; exact h
    generalize upd H1 D (.frz od (.dK kvs)) = H2 at mL ⊢
    have hAL : AsP (DeedAt K (upd H D (.frz od (.dK kvs)))) kvs ds := AsP.mono (fun _ _ => DeedAt.keep tL) hA
    obtain ⟨HL, hHL⟩ : ∃ HL, upd H D (.frz od (.dK kvs)) = HL := ⟨_, rfl⟩
    rw [hHL] at mL eL tL fL hAL
    have kH' : ∀ b o, b ≠ D → H b = some o → HL b = some o := fun b o hb e => by rw [← hHL]; exact kH b o hb e
    clear kH hHL
    refine ⟨_, rfl, D, od, kvs, rfl, mL.s _ _ eL, for_it (walk_items (d := D) (o := od) (kvs := kvs)) (fun i σ H' => (∃ y2 y3, σ = [some (.ref D), some (.ref x), y2, y3]) ∧ MadeN K (CT 0) HL H' x L R B M (mkS (ds.take i))) ⟨⟨none, none, rfl⟩, mL⟩ (fun _ _ _ _ z => z.2.s _ _ eL) ?_ ?_⟩
    · rintro i v σ Ha Hb hi ⟨⟨y2, y3, rfl⟩, ma⟩ yx
      obtain ⟨T, x1, x2, rfl, nT, rfl, g1, g2⟩ := yx
      obtain ⟨kv, hkv⟩ : ∃ kv, kvs[i]? = some kv := ⟨_, List.getElem?_eq_getElem hi⟩
      dsimp only at g1 g2
      rw [hkv] at g1 g2
      cases g1
      cases g2
      obtain ⟨r, hr1, hk, hdd⟩ := Paired.at hAL hkv
      obtain ⟨kk, u⟩ := kv
      dsimp only at hk hdd
      subst hk
      obtain ⟨sT, eT⟩ := new_at (.tup [.int r.1, u]) nT
      have sT' : Same Ha (upd Ha T (.tup [kV (Sum.inl r.1), u])) := sT
      have eT' : upd Ha T (.tup [kV (Sum.inl r.1), u]) T = some (.tup [.int r.1, u]) := eT
      generalize upd Ha T (.tup [kV (Sum.inl r.1), u]) = H3 at sT' eT' ⊢
      have m3 := ma.same sT'
      obtain ⟨d3, mob3⟩ := m3.c.ob
      have hi' : i < ds.length := (List.getElem?_eq_some_iff.mp hr1).1
      obtain ⟨z1, z2, z3, z4⟩ := mkS_small wf i (by omega)
      refine ⟨T, _, rfl, .inl (.inl eT'), rfl, _, _, rfl, _, _, rfl, rfl, ?_⟩
      refine ⟨_, rfl, x, d3, _, rfl, mob3, rfl, _, rfl, _, rfl, HL, x, L, R, B, M, mkS (ds.take i), r.2, u, r.1, rfl, DeedAt.keep (Same.tk m3.s) hdd, wf i r.1 r.2 hr1, ⟨by omega, by omega, by omega, by omega⟩, m3, fun H4 m4 => ?_⟩
      refine ⟨⟨_, _, rfl⟩, ?_⟩
      rw [List.take_add_one, hr1]
      show MadeN K (CT 0) HL H4 x L R B M (mkS (ds.take i ++ [(r.1, r.2)]))
      rw [mkS_snoc]
      exact m4
    · rintro σ Ha ⟨⟨y2, y3, rfl⟩, ma⟩
      rw [AsP.len hA, List.take_length] at ma
      refine ⟨ma.s _ _ eL, _, rfl, q _ x L R B M ?_⟩
      obtain ⟨s, c, a1, a2, a3, a4, a5⟩ := ma
      have eDa := s _ _ eL
      have kk : ∀ {y : Addr}, HL y = none → ∀ o, Ha y = some o → upd Ha D (.dK kvs) y = some o := fun {y} h o e => by rw [upd_ne (nD (fL _ h))]; exact e
      refine ⟨lock_same (od := od) hD fun b o hb e => s _ _ (kH' b o hb e), c.keep ?_ (kk a1) (kk a2) (kk a3) (kk a4) (kk a5), fL _ a1, fL _ a2, fL _ a3, fL _ a4, fL _ a5⟩
      exact tk_at (no_tup eDa (fun _ z => by cases z) (fun _ _ z => by cases z))
end

theorem dc_it {J : It} {n : Nat} {G : Hp → Prop} {Y : Nat → Hp → V → Hp → Prop} (wk : Walk J n G Y) {g : TG} {tt : TT} {tk tv : TE} {vs : List Nat} {σ : L2.St} {H1 : Hp} {D : Addr} {Qd : Hp → Prop} (Pv : Nat → Hp → Prop) (h0 : Pv 0 (upd H1 D (.dK []))) (hG : ∀ i H, i ≤ n → Pv i H → G H)
    (hstep : ∀ i x H H', i < n → Pv i H → Y i H x H' → g x (wipe σ vs) H' fun σ2 H2 => wipe σ2 vs = wipe σ vs ∧ tt σ2 H2 fun b H3 => if b = true then tk σ2 H3 fun y H4 => tv σ2 H4 fun z H5 => ∃ kvs k, y = kV k ∧ H5 D = some (.dK kvs) ∧ kvs.length < sizeLine ∧ Pv (i + 1) (upd H5 D (.dK (putK kvs k z))) else Pv (i + 1) H3) (hend : ∀ H, Pv n H → Qd H) :
    ∃ W : Nat → Nat → Hp → Prop, (∃ m, W 0 m (upd H1 D (.dK []))) ∧ ∀ i m H, W i m H → (J.stop i H ∧ Qd H) ∨ (J.go i H ∧ ∃ Nx : Hp → Prop, (∀ H', Nx H' → ∃ m', m' < m ∧ W (i + 1) m' H') ∧ ∀ x H', J.yld i H x H' → g x (wipe σ vs) H' fun σ2 H2 => wipe σ2 vs = wipe σ vs ∧ tt σ2 H2 fun b H3 => if b = true then tk σ2 H3 fun y H4 => tv σ2 H4 fun z H5 => ∃ kvs k, y = kV k ∧ H5 D = some (.dK kvs) ∧ kvs.length < sizeLine ∧ Nx (upd H5 D (.dK (putK kvs k z))) else Nx H3) := by
  refine ⟨fun i m H => m + i = n ∧ Pv i H, ⟨n, Nat.add_zero n, h0⟩, fun i m H hw => ?_⟩
  obtain ⟨e, hp⟩ := hw
  have hg := hG i H (by omega) hp
  rcases Nat.lt_or_ge i n with lt | ge
  · right
    refine ⟨wk.goes i H lt hg, Pv (i + 1), fun H' p' => ⟨m - 1, by omega, by omega, p'⟩, fun x H' y => ?_⟩
    exact hstep i x H H' lt hp (wk.yields i H x H' lt hg y)
  · left
    obtain rfl : i = n := by omega
    exact ⟨wk.stops H hg, hend H hp⟩
theorem drop_take {ds : List (Int × Dd)} {k : Int} {i : Nat} {r : Int × Dd} (h : ds[i]? = some r) : asDrop (ds.take (i + 1)) k = asDrop (ds.take i) k ++ (if r.1 = k then [] else [r]) := by
  unfold asDrop
  rw [List.take_add_one, h, List.filter_append]
  congr 1
  show List.filter (fun kv : Int × Dd => decide (kv.1 ≠ k)) [r] = _
  by_cases e : r.1 = k
  · rw [List.filter_cons_of_neg (by simp [e]), if_pos e]
    rfl
  · rw [List.filter_cons_of_pos (by simp [e]), if_neg e]
    rfl
theorem nodup_take {ds : List (Int × Dd)} (nd : (ds.map (·.1)).Nodup) {i : Nat} {r : Int × Dd} (h : ds[i]? = some r) : ∀ y ∈ ds.take i, y.1 ≠ r.1 := fun y hy e => by
  obtain ⟨j, hj⟩ := List.mem_iff_getElem?.mp hy
  have hji : j < i := by
    have := (List.getElem?_eq_some_iff.mp hj).1
    rw [List.length_take] at this
    omega
  rw [List.getElem?_take_of_lt hji] at hj
  have h1 : (ds.map (·.1))[j]? = some r.1 := by rw [List.getElem?_map, hj, ← e]; rfl
  have h2 : (ds.map (·.1))[i]? = some r.1 := by rw [List.getElem?_map, h]; rfl
  obtain ⟨l1, g1⟩ := List.getElem?_eq_some_iff.mp h1
  obtain ⟨l2, g2⟩ := List.getElem?_eq_some_iff.mp h2
  exact (List.pairwise_iff_getElem.mp nd) j i l1 l2 hji (by rw [g1, g2])
section
variable {P : Program} {w : World} {K : PySem.W.Frag} {mg : Str → Option Value} {base : Heap}
def sp_Leaned_init (c : Nat → Addr) (K : PySem.W.Frag) : Sp := fun vs H Q _ => ∃ (a : Addr) (m : V), vs = [.ref a, m] ∧ OexC K (c 15) ∧ PySem.W.findIn K (.ref (c 15)) "numbers" = some none ∧ H a = some (exo a (c 15) none) ∧
  ∀ H' d, H' a = some (exo a (c 15) (some d)) → H' d = some (exd d [("numbers", m)]) → H d = none → (∀ b o, b ≠ a → H b = some o → H' b = some o) → Q .non H'
theorem ok_Leaned_init {f : Addr} {fd : FuncData} {c : Nat → Addr} (F : Fun K "__init__" "Leaned.__init__" s_Leaned_init f fd) : FnOk P w K mg base CX0 1 f fd ["self", "numbers"] (sp_Leaned_init c K) := by
  refine F.ok sc_Leaned_init (fun vs H Q E h => ?_) (fun cdv A outer s H vs Q E hr h => ?_)
  · obtain ⟨a, m, rfl, _⟩ := h
    rfl
  · obtain ⟨a, m, rfl, o, f1, ha, q⟩ := h
    refine ⟨_, (pss_one (ps_ost (pv 0) (pv 1))), ?_⟩
    refine ⟨_, rfl, _, rfl, a, c 15, rfl, o, f1, .inl ⟨ha, fun d nd da => ?_⟩⟩
    refine q _ d upd_same ?_ nd fun b o' hb e => ?_
    · rw [upd_ne da, upd_same]
    · rw [upd_ne hb, upd_ne (ne_of_none e nd)]
      exact e
def sp_Roll__undo (K : PySem.W.Frag) (c : Nat → Addr) (CT : Nat → Addr) : Sp := fun vs H Q E => ∃ (p D m L R B M : Addr) (n : Int) (ds : List (Int × Dd)) (fx : Hp) (b : Bool) (v : V) (d : PyData), vs = [.ref p, v] ∧ RollC K CT H p D m L R B M n ds ∧ ds.length ≤ 300 ∧ (ds.map (·.1)).Nodup ∧ Dg K fx H b v d ∧ (stdD ds d = false → ∀ H', Same H H' → E (.ref (c 5)) none H') ∧
  (∀ k, v = .int k → stdD ds d = true → (leanL ds k ≠ [] → ∀ H' dd t, Same H H' → H dd = none → H' dd = some (.xd [("numbers", .ref t)]) → SqT K H' t ((leanL ds k).map V.int) → E (.ref (c 15)) (some dd) H') ∧
    (leanL ds k = [] → WFd (asDrop ds k) ∧ (mkS (asDrop ds k)).nd ∧ (∀ a b', roomS (mkS (asDrop ds k)) = some (a, b') → ∀ H' d', Same H H' → H d' = none → H' d' = some (.xd [("most", .int b'), ("many", .int a)]) → E (.ref (c 14)) (some d') H') ∧
      (roomS (mkS (asDrop ds k)) = none → ∀ H' D' m' L' R' B' M', (∀ y o, y ≠ p → H y = some o → H' y = some o) → H D' = none → H L' = none → H M' = none → RollC K CT H' p D' m' L' R' B' M' n (asDrop ds k) → Q .non H')))
theorem ok_Roll__undo {f : Addr} {fd : FuncData} {c : Nat → Addr} {LE : Addr} (F : Fun K "undo" "Roll.undo" s_Roll__undo f fd) (T : Txt K mg) (TX : ExcN K mg c LE) {CT : Nat → Addr} (TC : ClT K w mg CT) (TI : IniT P w K mg base (c 15) 2 (sp_Leaned_init c K)) (D_Roll__leaning : MlX P w K mg base 3 (CT 1) "leaning" ["self", "number"] (sp_Roll__leaning K c CT)) (D_made_anew : Cl P w K mg base 3 "made_anew" ["deeds"] (sp_made_anew K CT)) (D_Made__need_room : MlX P w K mg base 4 (CT 0) "need_room" ["self"] (sp_Made__need_room K c CT)) : FnOk P w K mg base (L2.CX P w) 5 f fd ["self", "number"] (sp_Roll__undo K c CT) := by
  refine F.okX sc_Roll__undo (fun vs H Q E h => ?_) (fun cdv A outer s H vs Q E hr h => ?_)
  · obtain ⟨p, D, m, L, R, B, M, n, ds, fx, b, v, d, rfl, _⟩ := h
    rfl
  · obtain ⟨p, D, m, L, R, B, M, n, ds, fx, b, v, d, rfl, rc, l3, ndk, hd, q0, q1⟩ := h
    obtain ⟨dx, hob⟩ := rc.ob
    refine ⟨_, (pss_cons (ps_set (i := 2) sc_Roll__undo.nd rfl (Or.inl rfl) (pe_callTy call_tuple_of (by rfl) T.b_tuple (by decide +kernel) (pa_cons (pe_mthX D_Roll__leaning TC.cR (hr.mono (by omega)) (takes_of rfl rfl rfl rfl) (pv 0) (pa_cons (pv 1) pa_nil)) pa_nil)))
      (pss_cons (ps_if (pt_truth (pv 2) (by intro _; rfl)) (pss_one (ps_raise rfl (takes_of rfl rfl rfl rfl) (pmk_init TI (hr.mono (by omega)) (by rfl) (TX.g 15 "Leaned" rfl) (pa_cons (pv 2) pa_nil)))) pss_nil)
      (pss_cons (ps_lock (ps_setDc (i := 3) (own := [("other", 5), ("deed", 6)]) (g := (gTup _ 2 (gCons (gName 5) (gCons (gName 6) gNil)))) (by rfl) sc_Roll__undo.nd rfl rfl (sw_dict rfl rfl rfl (by decide +kernel)) (pi_items (pe_fld (pv 0) rfl)) (blkOk_by (own := [("other", 5), ("deed", 6)]) (N := ["self", "number", "numbers", "deeds", "made", "other", "deed"]) (sc := defScope s_Roll__undo) (by decide +kernel)) (fun _ _ _ _ _ => (pg_tup (by rfl) (pgs_cons (pg_name (i := 5) sc_Roll__undo.nd rfl (Or.inl rfl)) (pgs_cons (pg_name (i := 6) sc_Roll__undo.nd rfl (Or.inl rfl)) pgs_nil)))) (fun _ _ _ _ _ => (pts_one (pt_cmpR op_ne (pv 5) (pv 1) (nomark _)))) (fun _ _ _ _ _ => (pv 5)) (fun _ _ _ _ _ => (pv 6))))
      (pss_cons (ps_set (i := 4) sc_Roll__undo.nd rfl (Or.inl rfl) (pe_own D_made_anew (hr.mono (by omega)) (by rfl) (pa_cons (pv 3) pa_nil)))
      (pss_cons (ps_expr (pe_mthX0 D_Made__need_room TC.cM (hr.mono (by omega)) (takes_of rfl rfl rfl rfl) (pv 4)))
      (pss_cons (ps_fld (pv 0) (pv 3) rfl)
      (pss_one (ps_fld (pv 0) (pv 4) rfl)))))))), ?_⟩
    refine ⟨_, rfl, p, dx, _, rfl, hob, rfl, _, rfl, p, D, m, L, R, B, M, n, ds, fx, b, v, d, rfl, rc, l3, hd, fun hs => q0 hs _ (Same.refl _), fun k ev hs H1 X s1 nX eX => ?_⟩
    subst ev
    obtain ⟨qa, qb⟩ := q1 k rfl hs
    refine ⟨X, _, rfl, .inl ⟨.inl (.inl eX), fun t nt => ?_⟩⟩
    obtain ⟨s2, e2⟩ := new_at (.tup ((leanL ds k).map V.int)) nt
    generalize upd H1 t (.tup ((leanL ds k).map V.int)) = H2 at s2 e2 ⊢
    have s12 := s1.trans s2
    refine ⟨_, rfl, _, .inr (.inl ⟨_, .inl (.inl e2), rfl⟩), ?_⟩
    cases hl : leanL ds k with
    | cons a0 r0 =>
      have hne : leanL ds k ≠ [] := by rw [hl]; simp
      rw [hl] at e2
      refine iteT ?_
      obtain ⟨_, _, _, ox, _⟩ := TI.ex
      refine ⟨_, rfl, (by show 1 ≤ 1000; decide), fun a na => ⟨a, _, rfl, ox, TX.n3, upd_same, fun H' dd e1' e2' nd hk => ⟨rfl, dd, _, e1', e2', ?_, ?_⟩⟩⟩
      · have : dd ≠ a := fun z => by rw [z, upd_same] at nd; cases nd
        rw [upd_ne this] at nd
        exact nd
      · have da : dd ≠ a := fun z => by rw [z, upd_same] at nd; cases nd
        have nd' : H2 dd = none := by rw [upd_ne da] at nd; exact nd
        have sF : Same H2 (upd (del H' a) dd (.xd [("numbers", .ref t)])) := fun b o hb => by
          have ba : b ≠ a := ne_of_none hb na
          rw [upd_ne (ne_of_none hb nd'), del_ne ba]
          exact hk b o ba (by rw [upd_ne ba]; exact hb)
        refine qa hne _ dd t (s12.trans sF) (s12.free nd') upd_same ?_
        rw [hl]
        exact .inl (.inl (sF _ _ e2))
    | nil =>
    refine iteF ?_
    obtain ⟨wf, nd', qr, qt⟩ := qb hl
    have rc2 := rc.same s12
    obtain ⟨dx, hob⟩ := rc2.ob
    obtain ⟨kvs, hD, hA⟩ := rc2.dd
    have hpD : p ≠ D := ne_of hob hD (by intro z; cases z)
    refine ⟨D, _, hD, trivial, fun od => ?_⟩
    have k1 : ∀ b o, b ≠ D → H2 b = some o → upd H2 D (.frz od (.dK kvs)) b = some o := fun b o hb e => by rw [upd_ne hb]; exact e
    have e1 : upd H2 D (.frz od (.dK kvs)) D = some (.frz od (.dK kvs)) := upd_same
    have t1 : TKeep K H2 (upd H2 D (.frz od (.dK kvs))) := tk_d hD
    have f1 : ∀ X, upd H2 D (.frz od (.dK kvs)) X = none → H2 X = none := fun X h => by
      by_cases hX : X = D
      · rw [hX, e1] at h; cases h
      · rw [upd_ne hX] at h; exact h
    generalize upd H2 D (.frz od (.dK kvs)) = H3 at k1 e1 t1 f1 ⊢
    refine ⟨_, rfl, p, _, dx, _, _, rfl, k1 _ _ hpD hob, TC.cR, TC.r1, fR_deeds, D, od, kvs, rfl, e1, fun Y hY => ?_⟩
    have nYD : Y ≠ D := fun z => by rw [z, e1] at hY; cases hY
    refine dc_it (walk_items (d := D) (o := od) (kvs := kvs)) (fun i H' => Same H3 H' ∧ ∃ kv', H' Y = some (.dK kv') ∧ AsP (DeedAt K H') kv' (asDrop (ds.take i) k)) ⟨same_upd hY, [], upd_same, .nil⟩ (fun _ _ _ z => z.1 _ _ e1) (fun i x Ha Hb hi pa yx => ?_) (fun Ha pa => ?_)
    · obtain ⟨T, x1, x2, rfl, nT, rfl, g1, g2⟩ := yx
      obtain ⟨sa, kv', ea, ha'⟩ := pa
      obtain ⟨kv, hkv⟩ : ∃ kv, kvs[i]? = some kv := ⟨_, List.getElem?_eq_getElem hi⟩
      dsimp only at g1 g2
      rw [hkv] at g1 g2
      cases g1
      cases g2
      obtain ⟨r, hr1, hk, hdd⟩ := Paired.at hA hkv
      obtain ⟨kk, u⟩ := kv
      dsimp only at hk hdd
      subst hk
      obtain ⟨sT, eT⟩ := new_at (.tup [.int r.1, u]) nT
      have sT' : Same Ha (upd Ha T (.tup [kV (Sum.inl r.1), u])) := sT
      have eT' : upd Ha T (.tup [kV (Sum.inl r.1), u]) T = some (.tup [.int r.1, u]) := eT
      generalize upd Ha T (.tup [kV (Sum.inl r.1), u]) = H4 at sT' eT' ⊢
      have s4 := sa.trans sT'
      have eY4 := sT' _ _ ea
      have ha4 : AsP (DeedAt K H4) kv' (asDrop (ds.take i) k) := AsP.mono (fun _ _ => DeedAt.keep (Same.tk sT')) ha'
      have hdd4 : DeedAt K H4 u r.2 := DeedAt.keep (Same.tk s4) (DeedAt.keep t1 hdd)
      refine ⟨T, _, rfl, .inl (.inl eT'), rfl, _, _, rfl, _, _, rfl, rfl, rfl, _, rfl, _, rfl, rfl, _, rfl, ite2 (fun e => ?_) (fun e => ?_)⟩
      · have e' : ¬ r.1 = k := fun h => by
          rw [decide_eq_true (show V.int r.1 = V.int k by rw [h])] at e
          cases e
        refine ⟨_, rfl, _, rfl, kv', Sum.inl r.1, rfl, eY4, small1000 ?_, ?_, _, upd_same, ?_⟩
        · rw [AsP.len ha4]
          refine Nat.le_trans asDrop_len ?_
          rw [List.length_take]
          omega
        · intro b o eb
          rw [upd_ne (ne_of_none eb hY)]
          exact s4 _ _ eb
        · rw [drop_take hr1, if_neg e']
          have tY : TKeep K H4 (upd H4 Y (.dK (putK kv' (Sum.inl r.1) u))) := tk_d eY4
          have := AsP.put (AsP.mono (fun _ _ => DeedAt.keep tY) ha4) (k := r.1) (v := u) (x := r.2) (DeedAt.keep tY hdd4)
          rw [asPut_new (l := asDrop (ds.take i) k) fun y hy => nodup_take ndk hr1 y (List.mem_filter.mp hy).1] at this
          exact this
      · have e' : r.1 = k := by
          refine Classical.byContradiction fun h => e ?_
          rw [decide_eq_false fun z => h (V.int.inj z)]
          rfl
        refine ⟨s4, kv', eY4, ?_⟩
        rw [drop_take hr1, if_pos e', List.append_nil]
        exact ha4
    obtain ⟨sa, kv', ea, ha'⟩ := pa
    rw [AsP.len hA, List.take_length] at ha'
    refine ⟨sa _ _ e1, ?_⟩
    have s24 : Same H2 (upd Ha D (.dK kvs)) := lock_same (od := od) hD fun b o hb e => sa _ _ (k1 b o hb e)
    have eY : upd Ha D (.dK kvs) Y = some (.dK kv') := by rw [upd_ne nYD]; exact ea
    have tD : TKeep K Ha (upd Ha D (.dK kvs)) := tk_at (no_tup (sa _ _ e1) (fun _ z => by cases z) (fun _ _ z => by cases z))
    generalize upd Ha D (.dK kvs) = H4 at s24 eY tD ⊢
    have ha4 : AsP (DeedAt K H4) kv' (asDrop ds k) := AsP.mono (fun _ _ => DeedAt.keep tD) ha'
    have Y2 : H2 Y = none := f1 Y hY
    have lD : (asDrop ds k).length ≤ 300 := Nat.le_trans asDrop_len l3
    refine ⟨_, rfl, Y, kv', asDrop ds k, rfl, eY, ha4, wf, lD, fun H5 m' L' R' B' M' mN => ?_⟩
    obtain ⟨d5, mob5⟩ := mN.c.ob
    have sm5 : (mkS (asDrop ds k)).small 900 := by
      have := mkS_small wf (asDrop ds k).length (Nat.le_refl _)
      rw [List.take_length] at this
      obtain ⟨z1, z2, z3, z4⟩ := this
      exact ⟨by omega, by omega, by omega, by omega⟩
    have s05 := (s12.trans s24).trans mN.s
    refine ⟨_, rfl, m', d5, _, rfl, mob5, rfl, m', L', R', B', M', mkS (asDrop ds k), rfl, mN.c, sm5, nd', fun hr H6 s6 => ?_, fun a b' hr H6 dd s6 nd6 e6 => ?_⟩
    rotate_left 1
    · exact qr a b' hr H6 dd (s05.trans s6) (s05.free nd6) e6
    have s26 := (s24.trans mN.s).trans s6
    have hob6 := s26 _ _ hob
    have eY6 := (mN.s.trans s6) _ _ eY
    have c6 := mN.c.same s6
    refine ⟨_, rfl, _, rfl, p, _, dx, _, rfl, hob6, TC.cR, TC.r1, (by show 3 < 1000; decide), ?_⟩
    rw [fR_p1]
    refine ⟨_, rfl, _, rfl, p, _, dx, _, rfl, upd_same, TC.cR, TC.r2, (by show 3 < 1000; decide), ?_⟩
    rw [fR_p2]
    have k8 : ∀ (y : Addr) (o : HO), y ≠ p → H6 y = some o → upd (upd H6 p (.ins (CT 1) dx (fR Y m n))) p (.ins (CT 1) dx (fR Y m' n)) y = some o := fun y o hy e => by rw [upd_ne hy, upd_ne hy]; exact e
    have t8 : TKeep K H6 (upd (upd H6 p (.ins (CT 1) dx (fR Y m n))) p (.ins (CT 1) dx (fR Y m' n))) := fun a xs h => tk_i (K := K) upd_same a xs (tk_i (K := K) hob6 a xs h)
    have nP : ∀ {y : Addr}, H4 y = none → y ≠ p := fun {y} h z => by rw [z, s24 _ _ hob] at h; cases h
    have nY : ∀ {y : Addr}, H4 y = none → Y ≠ y := fun {y} h z => by rw [← z, eY] at h; cases h
    have s02 := s12
    refine qt hr _ Y m' L' R' B' M' (fun y o hy e => k8 y o hy ((s12.trans s26) _ _ e)) (s12.free Y2) ((s12.trans s24).free mN.nL) ((s12.trans s24).free mN.nM) ⟨⟨dx, upd_same⟩, ⟨kv', k8 _ _ (ne_of eY6 hob6 (by intro z; cases z)) eY6, ?_⟩, ?_, Ne.symm (nP mN.np), nY mN.nR, nY mN.nB⟩
    · exact AsP.mono (fun _ _ h => DeedAt.keep t8 (DeedAt.keep (Same.tk (mN.s.trans s6)) h)) ha4
    · exact c6.keep t8 (fun o => k8 _ o (nP mN.np)) (fun o => k8 _ o (nP mN.nL)) (fun o => k8 _ o (nP mN.nR)) (fun o => k8 _ o (nP mN.nB)) (fun o => k8 _ o (nP mN.nM))
end

/-! ### tables, looked at -/
section
variable {α : Type}
theorem asV_cons {r : Int × α} {l : List (Int × α)} {k : Int} : asV (r :: l) k = if r.1 = k then some r.2 else asV l k := by
  unfold asV
  by_cases h : r.1 = k
  · rw [List.find?_cons_of_pos (by simp [h]), if_pos h]
    rfl
  · rw [List.find?_cons_of_neg (by simp [h]), if_neg h]
theorem asV_none {k : Int} : ∀ {l : List (Int × α)}, asV l k = none ↔ k ∉ l.map (·.1)
  | [] => by simp [asV]
  | r :: l => by
    rw [asV_cons, List.map_cons, List.mem_cons]
    by_cases h : r.1 = k
    · rw [if_pos h]
      simp [h]
    · rw [if_neg h, asV_none (l := l)]
      have h' : ¬ k = r.1 := fun e => h e.symm
      simp [h']
theorem asV_some {k : Int} {l : List (Int × α)} : (asV l k).isSome = true ↔ k ∈ l.map (·.1) := by
  cases e : asV l k with
  | none =>
    have := asV_none.mp e
    simp [this]
  | some x =>
    have h : ¬ asV l k = none := by rw [e]; simp
    have := fun z => h (asV_none.mpr z)
    simp only [Option.isSome_some, true_iff]
    exact Classical.byContradiction fun z => this z
theorem asV_app {k : Int} {v : α} {j : Int} : ∀ {l : List (Int × α)}, asV (l ++ [(k, v)]) j = match asV l j with | some x => some x | none => if k = j then some v else none
  | [] => by
    show asV [(k, v)] j = _
    rw [asV_cons]
    rfl
  | r :: l => by
    rw [List.cons_append, asV_cons, asV_cons]
    by_cases h : r.1 = j
    · rw [if_pos h, if_pos h]
    · rw [if_neg h, if_neg h]
      exact asV_app
theorem any_iff {l : List (Int × α)} {k : Int} : (l.any fun kv => decide (kv.1 = k)) = true ↔ k ∈ l.map (·.1) := by
  rw [List.any_eq_true, List.mem_map]
  constructor
  · rintro ⟨x, hx, e⟩
    exact ⟨x, hx, of_decide_eq_true e⟩
  · rintro ⟨x, hx, e⟩
    exact ⟨x, hx, decide_eq_true e⟩
theorem asV_map {k j : Int} {v : α} : ∀ {l : List (Int × α)}, asV (l.map fun kv => if kv.1 = k then (kv.1, v) else kv) j = if j = k then (asV l j).map (fun _ => v) else asV l j
  | [] => by
    show asV [] j = _
    split <;> rfl
  | r :: l => by
    have ih := asV_map (k := k) (j := j) (v := v) (l := l)
    rw [List.map_cons, asV_cons, asV_cons]
    by_cases h : r.1 = k
    · rw [if_pos h]
      by_cases hj : r.1 = j
      · have : j = k := hj.symm.trans h
        rw [if_pos hj, if_pos hj, if_pos this]
        rfl
      · rw [if_neg hj, if_neg hj]
        exact ih
    · rw [if_neg h]
      by_cases hj : r.1 = j
      · have : ¬ j = k := fun e => h (hj.trans e)
        rw [if_pos hj, if_neg this, if_pos hj]
      · rw [if_neg hj, if_neg hj]
        exact ih
theorem asV_put {l : List (Int × α)} {k j : Int} {v : α} : asV (asPut l k v) j = if j = k then some v else asV l j := by
  unfold asPut
  by_cases h : (l.any fun kv => decide (kv.1 = k)) = true
  · rw [if_pos h, asV_map]
    by_cases e : j = k
    · rw [if_pos e, if_pos e, e]
      obtain ⟨x, hx⟩ := Option.isSome_iff_exists.mp (asV_some.mpr (any_iff.mp h))
      rw [hx]
      rfl
    · rw [if_neg e, if_neg e]
  · rw [if_neg h, asV_app]
    by_cases e : j = k
    · have : asV l j = none := asV_none.mpr fun z => h (any_iff.mpr (by rw [← e]; exact z))
      rw [this, if_pos e, e]
      simp
    · rw [if_neg e]
      cases asV l j with
      | some x => rfl
      | none => exact if_neg fun z => e z.symm
theorem asV_drop {l : List (Int × α)} {k j : Int} : asV (asDrop l k) j = if j = k then none else asV l j := by
  unfold asDrop
  induction l with
  | nil =>
    show asV [] j = _
    split <;> rfl
  | cons r l ih =>
    by_cases h : r.1 = k
    · rw [List.filter_cons_of_neg (by simp [h]), ih, asV_cons]
      by_cases e : j = k
      · rw [if_pos e, if_pos e]
      · rw [if_neg e, if_neg e, if_neg fun z => e (z.symm.trans h)]
    · rw [List.filter_cons_of_pos (by simp [h]), asV_cons, asV_cons, ih]
      by_cases e : j = k
      · rw [if_pos e, if_pos e, if_neg fun z => h (z.trans e)]
      · rw [if_neg e, if_neg e]
theorem put_keys_old {l : List (Int × α)} {k : Int} {v : α} (h : k ∈ l.map (·.1)) : (asPut l k v).map (·.1) = l.map (·.1) := by
  unfold asPut
  rw [if_pos (any_iff.mpr h), List.map_map]
  refine List.map_congr_left fun x _ => ?_
  show (if x.1 = k then (x.1, v) else x).1 = x.1
  split <;> rfl
theorem put_keys_new {l : List (Int × α)} {k : Int} {v : α} (h : k ∉ l.map (·.1)) : asPut l k v = l ++ [(k, v)] := by
  unfold asPut
  rw [if_neg fun z => h (any_iff.mp z)]
theorem drop_keys {l : List (Int × α)} {k : Int} : (asDrop l k).map (·.1) = (l.map (·.1)).filter fun j => decide (j ≠ k) := by
  unfold asDrop
  rw [List.filter_map]
  rfl
end
/-! ### what the law reckons of deeds -/
def num1 (δ : Dd) : Int := δ.nums.headD 0
def goneL (ds : List (Int × Dd)) : List Int := (ds.filter fun x => decide (x.2.word = ("drop" : Str))).map fun x => num1 x.2
def layersL (ds : List (Int × Dd)) : List Int := (ds.filter fun x => decide (x.2.word = ("layer" : Str))).map (·.1)
def rowsL (ds : List (Int × Dd)) : List Int := (ds.filter fun x => decide (x.2.word = ("row" : Str)) && !decide (x.1 ∈ goneL ds)).map (·.1)
structure LS where
  of : List (Int × Int)
  told : List (Int × RW)
  backs : List (Int × Option Int)
  moves : List MV
def lfol (L : LS) (n : Int) : Dd → LS
  | .row l d h => { L with of := asPut L.of n l, told := asPut L.told n (d, h) }
  | .draw r d => match asV L.told r with | some x => { L with told := asPut L.told r (d, x.2) } | none => L
  | .hold r h => match asV L.told r with | some x => { L with told := asPut L.told r (x.1, h) } | none => L
  | .round r => match asV L.of r with | some l => { L with backs := asPut L.backs l (some r) } | none => L
  | .straight l => { L with backs := asPut L.backs l none }
  | .move x y m => { L with moves := L.moves ++ [(x, y, m)] }
  | _ => L
def lawS (ds : List (Int × Dd)) : LS := ds.foldl (fun L x => lfol L x.1 x.2) ⟨[], [], [], []⟩
theorem lawS_snoc (ds : List (Int × Dd)) (n : Int) (δ : Dd) : lawS (ds ++ [(n, δ)]) = lfol (lawS ds) n δ := by
  unfold lawS
  rw [List.foldl_append]
  rfl
theorem lfol_draw {L : LS} {n r d : Int} {x : RW} (e : asV L.told r = some x) : lfol L n (.draw r d) = { L with told := asPut L.told r (d, x.2) } := by
  show (match asV L.told r with | some x => { L with told := asPut L.told r (d, x.2) } | none => L) = _
  rw [e]
theorem lfol_hold {L : LS} {n r h : Int} {x : RW} (e : asV L.told r = some x) : lfol L n (.hold r h) = { L with told := asPut L.told r (x.1, h) } := by
  show (match asV L.told r with | some x => { L with told := asPut L.told r (x.1, h) } | none => L) = _
  rw [e]
theorem lfol_round {L : LS} {n r l : Int} (e : asV L.of r = some l) : lfol L n (.round r) = { L with backs := asPut L.backs l (some r) } := by
  show (match asV L.of r with | some l => { L with backs := asPut L.backs l (some r) } | none => L) = _
  rw [e]
/-- the program's state and the law's go together -/
structure Lnk (ds : List (Int × Dd)) : Prop where
  ly : (mkS ds).layers = layersL ds
  ks : (mkS ds).rows.map (·.1) = rowsL ds
  of : ∀ r x, asV (mkS ds).rows r = some x → asV (lawS ds).of r = some x.1 ∧ asV (lawS ds).told r = some (x.2.1, x.2.2)
  bk : (mkS ds).backs = (lawS ds).backs
  mv : (mkS ds).moves = (lawS ds).moves
  gn : ∀ r ∈ goneL ds, r ∈ ds.map (·.1)
theorem gone_snoc {ds : List (Int × Dd)} {n : Int} {δ : Dd} : goneL (ds ++ [(n, δ)]) = goneL ds ++ (if δ.word = ("drop" : Str) then [num1 δ] else []) := by
  unfold goneL
  rw [List.filter_append, List.map_append]
  congr 1
  show (List.filter (fun x : Int × Dd => decide (x.2.word = ("drop" : Str))) [(n, δ)]).map _ = _
  by_cases h : δ.word = ("drop" : Str)
  · rw [List.filter_cons_of_pos (by simp [h]), if_pos h]
    rfl
  · rw [List.filter_cons_of_neg (by simp [h]), if_neg h]
    rfl
theorem layers_snoc {ds : List (Int × Dd)} {n : Int} {δ : Dd} : layersL (ds ++ [(n, δ)]) = layersL ds ++ (if δ.word = ("layer" : Str) then [n] else []) := by
  unfold layersL
  rw [List.filter_append, List.map_append]
  congr 1
  show (List.filter (fun x : Int × Dd => decide (x.2.word = ("layer" : Str))) [(n, δ)]).map _ = _
  by_cases h : δ.word = ("layer" : Str)
  · rw [List.filter_cons_of_pos (by simp [h]), if_pos h]
    rfl
  · rw [List.filter_cons_of_neg (by simp [h]), if_neg h]
    rfl
theorem rows_snoc {ds : List (Int × Dd)} {n : Int} {δ : Dd} (h : δ.word ≠ ("drop" : Str)) : rowsL (ds ++ [(n, δ)]) = rowsL ds ++ (if δ.word = ("row" : Str) ∧ n ∉ goneL ds then [n] else []) := by
  have hg : goneL (ds ++ [(n, δ)]) = goneL ds := by rw [gone_snoc, if_neg h, List.append_nil]
  unfold rowsL
  rw [hg, List.filter_append, List.map_append]
  congr 1
  show (List.filter (fun x : Int × Dd => decide (x.2.word = ("row" : Str)) && !decide (x.1 ∈ goneL ds)) [(n, δ)]).map _ = _
  by_cases h1 : δ.word = ("row" : Str) ∧ n ∉ goneL ds
  · rw [List.filter_cons_of_pos (by simp [h1.1, h1.2]), if_pos h1]
    rfl
  · rw [List.filter_cons_of_neg, if_neg h1]
    · rfl
    · intro z
      rw [Bool.and_eq_true, decide_eq_true_eq] at z
      refine h1 ⟨z.1, fun y => ?_⟩
      have := z.2
      rw [decide_eq_true y] at this
      cases this
theorem rows_drop {ds : List (Int × Dd)} {n r : Int} : rowsL (ds ++ [(n, .drop r)]) = (rowsL ds).filter fun j => decide (j ≠ r) := by
  have hg : goneL (ds ++ [(n, .drop r)]) = goneL ds ++ [r] := by rw [gone_snoc, if_pos (show (Dd.drop r).word = ("drop" : Str) from rfl)]; rfl
  unfold rowsL
  rw [hg, List.filter_append, List.map_append]
  have e2 : (List.filter (fun x : Int × Dd => decide (x.2.word = ("row" : Str)) && !decide (x.1 ∈ goneL ds ++ [r])) [(n, .drop r)]).map (·.1) = [] := by
    rw [List.filter_cons_of_neg]
    · rfl
    · intro z
      rw [Bool.and_eq_true] at z
      have : (Dd.drop r).word = ("row" : Str) := of_decide_eq_true z.1
      exact absurd this (by show ("drop" : Str) ≠ "row"; decide +kernel)
  rw [e2, List.append_nil, List.filter_map, List.filter_filter]
  congr 1
  refine List.filter_congr fun x _ => ?_
  show (decide (x.2.word = ("row" : Str)) && !decide (x.1 ∈ goneL ds ++ [r])) = (decide (x.1 ≠ r) && (decide (x.2.word = ("row" : Str)) && !decide (x.1 ∈ goneL ds)))
  by_cases h1 : x.1 = r
  · simp [h1]
  · simp [h1]

theorem fd {a b : Str} {l : List Int} (h : a ≠ b) : (if a = b then l else []) = [] := if_neg h
theorem fd2 {a b : Str} {q : Prop} [Decidable q] {l : List Int} (h : a ≠ b) : (if a = b ∧ q then l else []) = [] := if_neg fun z => h z.1
theorem lnk_step {ds : List (Int × Dd)} {n : Int} {δ : Dd} (h : Lnk ds) (hr : rowOk (mkS ds) δ) (hn : n ∉ ds.map (·.1)) : Lnk (ds ++ [(n, δ)]) := by
  obtain ⟨ly, ks, of, bk, mv, gn⟩ := h
  have sub : ∀ r ∈ rowsL ds, r ∈ ds.map (·.1) := fun r hr => by
    obtain ⟨x, hx, rfl⟩ := List.mem_map.mp hr
    exact List.mem_map.mpr ⟨x, (List.mem_filter.mp hx).1, rfl⟩
  have nk : n ∉ (mkS ds).rows.map (·.1) := by rw [ks]; exact fun z => hn (sub n z)
  have gn' : ∀ r ∈ goneL ds, r ∈ (ds ++ [(n, δ)]).map (·.1) := fun r z => by rw [List.map_append]; exact List.mem_append_left _ (gn r z)
  have gx : δ.word ≠ ("drop" : Str) → ∀ r ∈ goneL (ds ++ [(n, δ)]), r ∈ (ds ++ [(n, δ)]).map (·.1) := fun hd r z => by
    rw [gone_snoc, if_neg hd, List.append_nil] at z
    exact gn' r z
  cases δ with
  | layer =>
    have w1 : Dd.layer.word = ("layer" : Str) := rfl
    have wd : Dd.layer.word ≠ ("drop" : Str) := by decide +kernel
    have wr : Dd.layer.word ≠ ("row" : Str) := by decide +kernel
    refine ⟨?_, ?_, ?_, ?_, ?_, gx wd⟩ <;> rw [mkS_snoc]
    · rw [layers_snoc, if_pos w1, ← ly]; rfl
    · rw [rows_snoc wd, fd2 wr, List.append_nil, ← ks]; rfl
    · rw [lawS_snoc]; exact of
    · rw [lawS_snoc]; exact bk
    · rw [lawS_snoc]; exact mv
  | row l d h =>
    have w1 : (Dd.row l d h).word = ("row" : Str) := rfl
    have wd : (Dd.row l d h).word ≠ ("drop" : Str) := by show ("row" : Str) ≠ "drop"; decide +kernel
    have wl : (Dd.row l d h).word ≠ ("layer" : Str) := by show ("row" : Str) ≠ "layer"; decide +kernel
    have ng : n ∉ goneL ds := fun z => hn (gn n z)
    have e : (fol (mkS ds) n (.row l d h)).rows = (mkS ds).rows ++ [(n, (l, d, h))] := put_keys_new nk
    refine ⟨?_, ?_, ?_, ?_, ?_, gx wd⟩ <;> rw [mkS_snoc]
    · rw [layers_snoc, fd wl, List.append_nil, ← ly]; rfl
    · rw [rows_snoc wd, if_pos ⟨w1, ng⟩, e, List.map_append, ks]; rfl
    · rw [lawS_snoc]
      intro r x hx
      have hx' : asV (asPut (mkS ds).rows n (l, d, h)) r = some x := hx
      show asV (asPut (lawS ds).of n l) r = _ ∧ asV (asPut (lawS ds).told n (d, h)) r = _
      rw [asV_put] at hx' ⊢
      rw [asV_put]
      by_cases hrn : r = n
      · rw [if_pos hrn] at hx' ⊢
        rw [if_pos hrn]
        cases hx'
        exact ⟨rfl, rfl⟩
      · rw [if_neg hrn] at hx' ⊢
        rw [if_neg hrn]
        exact of r x hx'
    · rw [lawS_snoc]; exact bk
    · rw [lawS_snoc]; exact mv
  | draw r d =>
    have wd : (Dd.draw r d).word ≠ ("drop" : Str) := by show ("draw" : Str) ≠ "drop"; decide +kernel
    have wl : (Dd.draw r d).word ≠ ("layer" : Str) := by show ("draw" : Str) ≠ "layer"; decide +kernel
    have wr : (Dd.draw r d).word ≠ ("row" : Str) := by show ("draw" : Str) ≠ "row"; decide +kernel
    obtain ⟨x, hx⟩ := Option.isSome_iff_exists.mp hr
    obtain ⟨o1, o2⟩ := of r x hx
    have mem : r ∈ (mkS ds).rows.map (·.1) := asV_some.mp (by rw [hx]; rfl)
    refine ⟨?_, ?_, ?_, ?_, ?_, gx wd⟩ <;> rw [mkS_snoc, fol_draw hx]
    · rw [layers_snoc, fd wl, List.append_nil, ← ly]
    · rw [rows_snoc wd, fd2 wr, List.append_nil, ← ks]; exact put_keys_old mem
    · rw [lawS_snoc, lfol_draw o2]
      intro r' x' hx'
      have hx'' : asV (asPut (mkS ds).rows r (x.1, d, x.2.2)) r' = some x' := hx'
      show asV (lawS ds).of r' = _ ∧ asV (asPut (lawS ds).told r (d, x.2.2)) r' = _
      rw [asV_put] at hx'' ⊢
      by_cases e : r' = r
      · rw [if_pos e] at hx'' ⊢
        cases hx''
        exact ⟨by rw [e]; exact o1, rfl⟩
      · rw [if_neg e] at hx'' ⊢
        exact of r' x' hx''
    · rw [lawS_snoc, lfol_draw o2]; exact bk
    · rw [lawS_snoc, lfol_draw o2]; exact mv
  | hold r d =>
    have wd : (Dd.hold r d).word ≠ ("drop" : Str) := by show ("hold" : Str) ≠ "drop"; decide +kernel
    have wl : (Dd.hold r d).word ≠ ("layer" : Str) := by show ("hold" : Str) ≠ "layer"; decide +kernel
    have wr : (Dd.hold r d).word ≠ ("row" : Str) := by show ("hold" : Str) ≠ "row"; decide +kernel
    obtain ⟨x, hx⟩ := Option.isSome_iff_exists.mp hr
    obtain ⟨o1, o2⟩ := of r x hx
    have mem : r ∈ (mkS ds).rows.map (·.1) := asV_some.mp (by rw [hx]; rfl)
    refine ⟨?_, ?_, ?_, ?_, ?_, gx wd⟩ <;> rw [mkS_snoc, fol_hold hx]
    · rw [layers_snoc, fd wl, List.append_nil, ← ly]
    · rw [rows_snoc wd, fd2 wr, List.append_nil, ← ks]; exact put_keys_old mem
    · rw [lawS_snoc, lfol_hold o2]
      intro r' x' hx'
      have hx'' : asV (asPut (mkS ds).rows r (x.1, x.2.1, d)) r' = some x' := hx'
      show asV (lawS ds).of r' = _ ∧ asV (asPut (lawS ds).told r (x.2.1, d)) r' = _
      rw [asV_put] at hx'' ⊢
      by_cases e : r' = r
      · rw [if_pos e] at hx'' ⊢
        cases hx''
        exact ⟨by rw [e]; exact o1, rfl⟩
      · rw [if_neg e] at hx'' ⊢
        exact of r' x' hx''
    · rw [lawS_snoc, lfol_hold o2]; exact bk
    · rw [lawS_snoc, lfol_hold o2]; exact mv
  | drop r =>
    have w1 : (Dd.drop r).word = ("drop" : Str) := rfl
    have wl : (Dd.drop r).word ≠ ("layer" : Str) := by show ("drop" : Str) ≠ "layer"; decide +kernel
    have mem : r ∈ (mkS ds).rows.map (·.1) := asV_some.mp hr
    refine ⟨?_, ?_, ?_, ?_, ?_, ?_⟩
    · rw [mkS_snoc, layers_snoc, fd wl, List.append_nil, ← ly]; rfl
    · rw [mkS_snoc, rows_drop, ← ks]; exact drop_keys
    · rw [mkS_snoc, lawS_snoc]
      intro r' x' hx'
      have hx'' : asV (asDrop (mkS ds).rows r) r' = some x' := hx'
      rw [asV_drop] at hx''
      by_cases e : r' = r
      · rw [if_pos e] at hx''; cases hx''
      · rw [if_neg e] at hx''
        exact of r' x' hx''
    · rw [mkS_snoc, lawS_snoc]; exact bk
    · rw [mkS_snoc, lawS_snoc]; exact mv
    · intro r' z
      rw [gone_snoc, if_pos w1] at z
      rcases List.mem_append.mp z with z | z
      · exact gn' r' z
      · rw [List.mem_singleton.mp z, List.map_append]
        refine List.mem_append_left _ (sub _ ?_)
        rw [← ks]
        exact mem
  | round r =>
    have wd : (Dd.round r).word ≠ ("drop" : Str) := by show ("round" : Str) ≠ "drop"; decide +kernel
    have wl : (Dd.round r).word ≠ ("layer" : Str) := by show ("round" : Str) ≠ "layer"; decide +kernel
    have wr : (Dd.round r).word ≠ ("row" : Str) := by show ("round" : Str) ≠ "row"; decide +kernel
    obtain ⟨x, hx⟩ := Option.isSome_iff_exists.mp hr
    obtain ⟨o1, o2⟩ := of r x hx
    refine ⟨?_, ?_, ?_, ?_, ?_, gx wd⟩ <;> rw [mkS_snoc, fol_round hx]
    · rw [layers_snoc, fd wl, List.append_nil, ← ly]
    · rw [rows_snoc wd, fd2 wr, List.append_nil, ← ks]
    · rw [lawS_snoc, lfol_round o1]; exact of
    · rw [lawS_snoc, lfol_round o1]
      show asPut (mkS ds).backs x.1 (some r) = asPut (lawS ds).backs x.1 (some r)
      rw [bk]
    · rw [lawS_snoc, lfol_round o1]; exact mv
  | straight l =>
    have wd : (Dd.straight l).word ≠ ("drop" : Str) := by show ("straight" : Str) ≠ "drop"; decide +kernel
    have wl : (Dd.straight l).word ≠ ("layer" : Str) := by show ("straight" : Str) ≠ "layer"; decide +kernel
    have wr : (Dd.straight l).word ≠ ("row" : Str) := by show ("straight" : Str) ≠ "row"; decide +kernel
    refine ⟨?_, ?_, ?_, ?_, ?_, gx wd⟩ <;> rw [mkS_snoc]
    · rw [layers_snoc, fd wl, List.append_nil, ← ly]; rfl
    · rw [rows_snoc wd, fd2 wr, List.append_nil, ← ks]; rfl
    · rw [lawS_snoc]; exact of
    · rw [lawS_snoc]
      show asPut (mkS ds).backs l none = asPut (lawS ds).backs l none
      rw [bk]
    · rw [lawS_snoc]; exact mv
  | move x y m =>
    have wd : (Dd.move x y m).word ≠ ("drop" : Str) := by show ("move" : Str) ≠ "drop"; decide +kernel
    have wl : (Dd.move x y m).word ≠ ("layer" : Str) := by show ("move" : Str) ≠ "layer"; decide +kernel
    have wr : (Dd.move x y m).word ≠ ("row" : Str) := by show ("move" : Str) ≠ "row"; decide +kernel
    refine ⟨?_, ?_, ?_, ?_, ?_, gx wd⟩ <;> rw [mkS_snoc]
    · rw [layers_snoc, fd wl, List.append_nil, ← ly]; rfl
    · rw [rows_snoc wd, fd2 wr, List.append_nil, ← ks]; rfl
    · rw [lawS_snoc]; exact of
    · rw [lawS_snoc]; exact bk
    · rw [lawS_snoc]
      show (mkS ds).moves ++ [(x, y, m)] = (lawS ds).moves ++ [(x, y, m)]
      rw [mv]
theorem lnk_take {ds : List (Int × Dd)} (wf : WFd ds) (nd : (ds.map (·.1)).Nodup) : ∀ i : Nat, i ≤ ds.length → Lnk (ds.take i)
  | 0, _ => ⟨rfl, rfl, (fun r x h => by cases h), rfl, rfl, (fun r h => by cases h)⟩
  | i + 1, hi => by
    obtain ⟨x, hx⟩ : ∃ x, ds[i]? = some x := ⟨_, List.getElem?_eq_getElem (by omega)⟩
    rw [List.take_add_one, hx]
    refine lnk_step (n := x.1) (δ := x.2) (lnk_take wf nd i (by omega)) (wf i x.1 x.2 hx) fun z => ?_
    obtain ⟨y, hy, e⟩ := List.mem_map.mp z
    exact nodup_take nd hx y hy e
theorem lnk {ds : List (Int × Dd)} (wf : WFd ds) (nd : (ds.map (·.1)).Nodup) : Lnk ds := by
  have := lnk_take wf nd ds.length (Nat.le_refl _)
  rw [List.take_length] at this
  exact this
theorem rows_nodup {ds : List (Int × Dd)} (nd : (ds.map (·.1)).Nodup) : (rowsL ds).Nodup := by
  unfold rowsL
  exact (List.Nodup.sublist ((List.filter_sublist).map _) nd)
theorem lnk_nd {ds : List (Int × Dd)} (wf : WFd ds) (nd : (ds.map (·.1)).Nodup) : (mkS ds).nd := by
  unfold MS.nd
  rw [(lnk wf nd).ks]
  exact rows_nodup nd

def LdK (K : PySem.W.Frag) (H : Hp) (A : Addr) (ds : List (Int × Dd)) : Prop := ∃ us, H A = some (.lst us) ∧ Paired (NdAt K H) us ds
theorem LdK.same {K : PySem.W.Frag} {H H' : Hp} {A : Addr} {ds : List (Int × Dd)} (h : LdK K H A ds) (s : Same H H') : LdK K H' A ds := by
  obtain ⟨us, e, pd⟩ := h
  exact ⟨us, s _ _ e, Paired.mono pd fun _ _ => NdAt.keep (Same.tk s)⟩
/-- a comprehension over the law's deeds: some of them, a number of each -/
theorem lcfil {K : PySem.W.Frag} {A : Addr} {us : List V} {ds : List (Int × Dd)} {g : TG} {tt : TT} {te : TE} {vs : List Nat} {σ : L2.St} {H1 : Hp} {D : Addr} {Qd : Hp → Prop} (f : Int × Dd → Bool) (v : Int × Dd → Int) (hA : H1 A = some (.lst us)) (pd : Paired (NdAt K H1) us ds) (hl : ds.length ≤ 900) (hD : H1 D = none)
    (hs : ∀ (i : Nat) (u : V) (x : Int × Dd) (H : Hp) (R : V → Hp → Prop) (Z : Hp → Prop), us[i]? = some u → ds[i]? = some x → NdAt K H u x → Same H1 H → (f x = true → ∀ H4, Same H H4 → R (.int (v x)) H4) → (f x = false → ∀ H4, Same H H4 → Z H4) → g u (wipe σ vs) H fun σ2 H2 => wipe σ2 vs = wipe σ vs ∧ tt σ2 H2 fun b H3 => if b = true then te σ2 H3 R else Z H3)
    (hd : ∀ H, Same H1 H → H D = some (.lst (((ds.filter f).map v).map V.int)) → Qd H) :
    ∃ W : Nat → Nat → Hp → Prop, (∃ m, W 0 m (upd H1 D (.lst []))) ∧ ∀ i m H, W i m H →
      ((Itl K A).stop i H ∧ Qd H) ∨ ((Itl K A).go i H ∧ ∃ Nx : Hp → Prop, (∀ H', Nx H' → ∃ m', m' < m ∧ W (i + 1) m' H') ∧ ∀ x H', (Itl K A).yld i H x H' → g x (wipe σ vs) H' fun σ2 H2 => wipe σ2 vs = wipe σ vs ∧ tt σ2 H2 fun b H3 =>
        if b = true then te σ2 H3 fun y H4 => ∃ acc, H4 D = some (.lst acc) ∧ acc.length < sizeLine ∧ Nx (upd H4 D (.lst (acc ++ [y]))) else Nx H3) := by
  have lu := Paired.length pd
  refine lc_list (K := K) (a := A) (xs := us) (fun i H => Same H1 H ∧ H D = some (.lst ((((ds.take i).filter f).map v).map V.int))) ⟨same_upd hD, upd_same⟩ (fun i H _ p => .inl (.inl (p.1 _ _ hA))) (fun i u H hu p => ?_) (fun H p => ?_)
  · obtain ⟨s0, eD⟩ := p
    obtain ⟨x, hx, hn⟩ := Paired.at pd hu
    have et : ((ds.take (i + 1)).filter f).map v = ((ds.take i).filter f).map v ++ (if f x = true then [v x] else []) := by
      rw [List.take_add_one, hx, List.filter_append, List.map_append]
      congr 1
      show (List.filter f [x]).map v = _
      by_cases h : f x = true
      · rw [List.filter_cons_of_pos h, if_pos h]
        rfl
      · rw [List.filter_cons_of_neg h, if_neg h]
        rfl
    refine hs i u x H _ _ hu hx (hn.keep (Same.tk s0)) s0 (fun hf H4 s4 => ⟨_, s4 _ _ eD, small1000 ?_, ?_, ?_⟩) (fun hf H4 s4 => ⟨s0.trans s4, ?_⟩)
    · rw [List.length_map, List.length_map]
      refine Nat.le_trans (List.length_filter_le _ _) ?_
      rw [List.length_take]
      omega
    · intro b o e
      rw [upd_ne (ne_of_none e hD)]
      exact s4 _ _ (s0 _ _ e)
    · rw [upd_same, et, if_pos hf, List.map_append]
      rfl
    · rw [et, if_neg (by rw [hf]; decide), List.append_nil]
      exact s4 _ _ eD
  · obtain ⟨s0, eD⟩ := p
    rw [lu, List.take_length] at eD
    exact hd H s0 eD
theorem word_nums {δ : Dd} {w : Str} (h : δ.word = w) (hw : w ≠ "layer") : ∃ r, δ.nums = num1 δ :: r := by
  cases δ with
  | layer => exact absurd h (fun e => hw e.symm)
  | row a b c => exact ⟨_, rfl⟩
  | draw a b => exact ⟨_, rfl⟩
  | hold a b => exact ⟨_, rfl⟩
  | drop a => exact ⟨_, rfl⟩
  | round a => exact ⟨_, rfl⟩
  | straight a => exact ⟨_, rfl⟩
  | move a b c => exact ⟨_, rfl⟩
theorem deed1 {δ : Dd} (hw : δ.word ≠ ("layer" : Str)) : atI (ddV δ) 1 = some (.int (num1 δ)) := by
  obtain ⟨r, e⟩ := word_nums rfl hw
  unfold ddV
  rw [e]
  exact at_n 1 rfl
theorem notin_ints {n : Int} {l : List Int} : (if true = true then !inV (.int n) (l.map V.int) else inV (.int n) (l.map V.int)) = !decide (n ∈ l) := by
  rw [if_pos rfl, inV_ints]
section
variable {P : Program} {w : World} {K : PySem.W.Frag} {mg : Str → Option Value} {base : Heap}
def sp__law_known (K : PySem.W.Frag) : Sp := fun vs H Q _ => ∃ (A : Addr) (ds : List (Int × Dd)), vs = [.ref A] ∧ LdK K H A ds ∧ ds.length ≤ 300 ∧ ∀ H' t X Y, Same H H' → SqT K H' t [.ref X, .ref Y] → H X = none → H Y = none → H' X = some (.lst ((layersL ds).map V.int)) → H' Y = some (.lst ((rowsL ds).map V.int)) → Q (.ref t) H'
theorem ok__law_known {f : Addr} {fd : FuncData} (F : Fun K "_law_known" "_law_known" s__law_known f fd) (T : Txt K mg) : FnOk P w K mg base CX0 1 f fd ["_law_deeds"] (sp__law_known K) := by
  refine F.ok sc__law_known (fun vs H Q E h => ?_) (fun cdv A outer s H vs Q E hr h => ?_)
  · obtain ⟨A, ds, rfl, _⟩ := h
    rfl
  · obtain ⟨A, ds, rfl, ⟨us, eA, pd⟩, l3, q⟩ := h
    refine ⟨_, (pss_cons (ps_set (i := 1) sc__law_known.nd rfl (Or.inr rfl) (pe_lc (own := [("_law_number", 3), ("_law_deed_here", 4)]) (g := (gTup _ 2 (gCons (gName 3) (gCons (gName 4) gNil)))) (by rfl) sc__law_known.nd (pi_list (pv 0)) (blkOk_by (own := [("_law_number", 3), ("_law_deed_here", 4)]) (N := ["_law_deeds", "_law_gone", "_law_layers", "_law_number", "_law_deed_here"]) (sc := defScope s__law_known) (by decide +kernel)) (fun _ _ _ _ _ => (pg_tup (by rfl) (pgs_cons (pg_name (i := 3) sc__law_known.nd rfl (Or.inl rfl)) (pgs_cons (pg_name (i := 4) sc__law_known.nd rfl (Or.inl rfl)) pgs_nil)))) (fun _ _ _ _ _ => (pts_one (pt_cmpR op_eq (pe_ix (r := rIxT K) ix_tup (pv 4) pe_int (fun _ _ => rfl)) pe_str (nomark _)))) (fun _ _ _ _ _ => (pe_ix (r := rIxT K) ix_tup (pv 4) pe_int (fun _ _ => rfl)))))
      (pss_cons (ps_setLc (i := 2) (own := [("_law_number", 3), ("_law_deed_here", 4)]) (g := (gTup _ 2 (gCons (gName 3) (gCons (gName 4) gNil)))) (by rfl) sc__law_known.nd rfl rfl (sw_true rfl rfl rfl (by decide +kernel)) (pi_list (pv 0)) (blkOk_by (own := [("_law_number", 3), ("_law_deed_here", 4)]) (N := ["_law_deeds", "_law_gone", "_law_layers", "_law_number", "_law_deed_here"]) (sc := defScope s__law_known) (by decide +kernel)) (fun _ _ _ _ _ => (pg_tup (by rfl) (pgs_cons (pg_name (i := 3) sc__law_known.nd rfl (Or.inl rfl)) (pgs_cons (pg_name (i := 4) sc__law_known.nd rfl (Or.inl rfl)) pgs_nil)))) (fun _ _ _ _ _ => (pts_one (pt_cmpR op_eq (pe_ix (r := rIxT K) ix_tup (pv 4) pe_int (fun _ _ => rfl)) pe_str (nomark _)))) (fun _ _ _ _ _ => (pv 3)))
      (pss_one (ps_ret (pe_tup (pa_cons (pv 2) (pa_cons (pe_lc (own := [("_law_number", 3), ("_law_deed_here", 4)]) (g := (gTup _ 2 (gCons (gName 3) (gCons (gName 4) gNil)))) (by rfl) sc__law_known.nd (pi_list (pv 0)) (blkOk_by (own := [("_law_number", 3), ("_law_deed_here", 4)]) (N := ["_law_deeds", "_law_gone", "_law_layers", "_law_number", "_law_deed_here"]) (sc := defScope s__law_known) (by decide +kernel)) (fun _ _ _ _ _ => (pg_tup (by rfl) (pgs_cons (pg_name (i := 3) sc__law_known.nd rfl (Or.inl rfl)) (pgs_cons (pg_name (i := 4) sc__law_known.nd rfl (Or.inl rfl)) pgs_nil)))) (fun _ _ _ _ _ => (pts_one (PW.pt (pw_and (pt_cmpR op_eq (pe_ix (r := rIxT K) ix_tup (pv 4) pe_int (fun _ _ => rfl)) pe_str (nomark _)) (pw_and1 (pt_cmpR (r := rIn K true) op_notIn_seq (pv 3) (pv 1) (by rfl))))))) (fun _ _ _ _ _ => (pv 3))) pa_nil))))))), ?_⟩
    refine ⟨_, rfl, A, rfl, ⟨_, .inl (.inl eA)⟩, fun G hG => ?_⟩
    refine lcfil (fun x => decide (x.2.word = ("drop" : Str))) (fun x => num1 x.2) eA pd (by omega) hG (fun i u x H1 R Z hu hx hn s1 hR hZ => ?_) (fun H1 s1 eG => ?_)
    · obtain ⟨t, y, rfl, ht, py, rfl, hy⟩ := hn
      refine ⟨t, _, rfl, ht, rfl, _, _, rfl, _, _, rfl, rfl, rfl, _, rfl, py, _, 0, .str x.2.word, rfl, rfl, hy, at0, rfl, _, rfl, ite2 (fun e => ?_) (fun e => ?_)⟩
      · have e' : x.2.word = ("drop" : Str) := V.str.inj (of_decide_eq_true e)
        exact ⟨_, rfl, py, _, 1, _, rfl, rfl, hy, deed1 (by rw [e']; decide +kernel), hR (decide_eq_true e') _ (Same.refl _)⟩
      · exact hZ (decide_eq_false fun h => e (decide_eq_true (by rw [h]))) _ (Same.refl _)
    have eG' : H1 G = some (.lst ((goneL ds).map V.int)) := eG
    refine ⟨_, rfl, A, rfl, ⟨_, .inl (.inl (s1 _ _ eA))⟩, fun X hX => ?_⟩
    refine lcfil (fun x => decide (x.2.word = ("layer" : Str))) (fun x => x.1) (s1 _ _ eA) (Paired.mono pd fun _ _ => NdAt.keep (Same.tk s1)) (by omega) hX (fun i u x H2 R Z hu hx hn s2 hR hZ => ?_) (fun H2 s2 eX => ?_)
    · obtain ⟨t, y, rfl, ht, py, rfl, hy⟩ := hn
      refine ⟨t, _, rfl, ht, rfl, _, _, rfl, _, _, rfl, rfl, rfl, _, rfl, py, _, 0, .str x.2.word, rfl, rfl, hy, at0, rfl, _, rfl, ite2 (fun e => ?_) (fun e => ?_)⟩
      · have e' : x.2.word = ("layer" : Str) := V.str.inj (of_decide_eq_true e)
        exact ⟨_, rfl, hR (decide_eq_true e') _ (Same.refl _)⟩
      · exact hZ (decide_eq_false fun h => e (decide_eq_true (by rw [h]))) _ (Same.refl _)
    have s12 := s1.trans s2
    refine ⟨_, rfl, _, rfl, A, rfl, ⟨_, .inl (.inl (s12 _ _ eA))⟩, fun Y hY => ?_⟩
    refine lcfil (fun x => decide (x.2.word = ("row" : Str)) && !decide (x.1 ∈ goneL ds)) (fun x => x.1) (s12 _ _ eA) (Paired.mono pd fun _ _ => NdAt.keep (Same.tk s12)) (by omega) hY (fun i u x H3 R Z hu hx hn s3 hR hZ => ?_) (fun H3 s3 eY => ?_)
    · obtain ⟨t, y, rfl, ht, py, rfl, hy⟩ := hn
      refine ⟨t, _, rfl, ht, rfl, _, _, rfl, _, _, rfl, rfl, rfl, _, rfl, py, _, 0, .str x.2.word, rfl, rfl, hy, at0, rfl, _, rfl, ite2 (fun e => ?_) (fun e => ?_)⟩
      · have e' : x.2.word = ("row" : Str) := V.str.inj (of_decide_eq_true e)
        refine ⟨_, rfl, _, rfl, G, _, rfl, .inl (.inl (.inl (s3 _ _ (s2 _ _ eG')))), rfl, flat_ints _, _, rfl, ?_⟩
        show if (if true = true then !inV (.int x.1) ((goneL ds).map V.int) else inV (.int x.1) ((goneL ds).map V.int)) = true then _ else _
        rw [notin_ints]
        cases hg : !decide (x.1 ∈ goneL ds) with
        | true => exact iteT ⟨_, rfl, hR (by rw [decide_eq_true e', hg]; rfl) _ (Same.refl _)⟩
        | false => exact iteF (hZ (by rw [decide_eq_true e', hg]; rfl) _ (Same.refl _))
      · exact hZ (by rw [decide_eq_false fun h => e (decide_eq_true (by rw [h]))]; rfl) _ (Same.refl _)
    refine ⟨(by show 2 ≤ sizeLine; decide), fun t nt => ?_⟩
    have st := same_upd (o := .tup [.ref X, .ref Y]) nt
    exact q _ t X Y ((s12.trans s3).trans st) (.inl (.inl upd_same)) (s1.free hX) (s12.free hY) (st _ _ (s3 _ _ eX)) (st _ _ eY)
end

def fitsL (ds : List (Int × Dd)) (δ : Dd) : Bool := if inV (.str δ.word) [.str "row", .str "straight"] = true then decide (num1 δ ∈ layersL ds) else (inV (.str δ.word) [.str "layer", .str "move"] || decide (num1 δ ∈ rowsL ds))
def ofL (ds : List (Int × Dd)) : List (Int × Int) := (ds.filter fun x => decide (x.2.word = ("row" : Str))).map fun x => (x.1, num1 x.2)
theorem ofL_snoc {ds : List (Int × Dd)} {n : Int} {δ : Dd} : ofL (ds ++ [(n, δ)]) = ofL ds ++ (if δ.word = ("row" : Str) then [(n, num1 δ)] else []) := by
  unfold ofL
  rw [List.filter_append, List.map_append]
  congr 1
  show (List.filter (fun x : Int × Dd => decide (x.2.word = ("row" : Str))) [(n, δ)]).map _ = _
  by_cases h : δ.word = ("row" : Str)
  · rw [List.filter_cons_of_pos (by simp [h]), if_pos h]
    rfl
  · rw [List.filter_cons_of_neg (by simp [h]), if_neg h]
    rfl
theorem ofL_keys {ds : List (Int × Dd)} : ∀ r ∈ (ofL ds).map (·.1), r ∈ ds.map (·.1) := fun r hr => by
  unfold ofL at hr
  rw [List.map_map] at hr
  obtain ⟨x, hx, rfl⟩ := List.mem_map.mp hr
  exact List.mem_map.mpr ⟨x, (List.mem_filter.mp hx).1, rfl⟩
theorem of_step {ds : List (Int × Dd)} {n : Int} {δ : Dd} (h : (lawS ds).of = ofL ds) (hn : n ∉ ds.map (·.1)) : (lawS (ds ++ [(n, δ)])).of = ofL (ds ++ [(n, δ)]) := by
  rw [lawS_snoc, ofL_snoc]
  cases δ with
  | layer => rw [if_neg (by decide +kernel), List.append_nil]; exact h
  | row l d k =>
    rw [if_pos (show (Dd.row l d k).word = ("row" : Str) from rfl)]
    show asPut (lawS ds).of n l = _
    rw [h, put_keys_new fun z => hn (ofL_keys n z)]
    rfl
  | draw r d =>
    rw [if_neg (by show ¬ ("draw" : Str) = "row"; decide +kernel), List.append_nil, ← h]
    show (match asV (lawS ds).told r with | some x => { lawS ds with told := asPut (lawS ds).told r (d, x.2) } | none => lawS ds).of = _
    split <;> rfl
  | hold r d =>
    rw [if_neg (by show ¬ ("hold" : Str) = "row"; decide +kernel), List.append_nil, ← h]
    show (match asV (lawS ds).told r with | some x => { lawS ds with told := asPut (lawS ds).told r (x.1, d) } | none => lawS ds).of = _
    split <;> rfl
  | drop r => rw [if_neg (by show ¬ ("drop" : Str) = "row"; decide +kernel), List.append_nil]; exact h
  | round r =>
    rw [if_neg (by show ¬ ("round" : Str) = "row"; decide +kernel), List.append_nil, ← h]
    show (match asV (lawS ds).of r with | some l => { lawS ds with backs := asPut (lawS ds).backs l (some r) } | none => lawS ds).of = _
    split <;> rfl
  | straight l => rw [if_neg (by show ¬ ("straight" : Str) = "row"; decide +kernel), List.append_nil]; exact h
  | move x y m => rw [if_neg (by show ¬ ("move" : Str) = "row"; decide +kernel), List.append_nil]; exact h
theorem of_eq {ds : List (Int × Dd)} (nd : (ds.map (·.1)).Nodup) : (lawS ds).of = ofL ds := by
  have go : ∀ i : Nat, i ≤ ds.length → (lawS (ds.take i)).of = ofL (ds.take i) := fun i => by
    induction i with
    | zero => intro _; rfl
    | succ i ih =>
      intro hi
      obtain ⟨x, hx⟩ : ∃ x, ds[i]? = some x := ⟨_, List.getElem?_eq_getElem (by omega)⟩
      rw [List.take_add_one, hx]
      refine of_step (n := x.1) (δ := x.2) (ih (by omega)) fun z => ?_
      obtain ⟨y, hy, e⟩ := List.mem_map.mp z
      exact nodup_take nd hx y hy e
  have := go ds.length (Nat.le_refl _)
  rw [List.take_length] at this
  exact this
theorem rowsIn_eq {ds : List (Int × Dd)} (wf : WFd ds) (nd : (ds.map (·.1)).Nodup) (l : Int) : (rowsL ds).filter (fun r => decide (asV (ofL ds) r = some l)) = rowsIn (mkS ds) l := by
  have L := lnk wf nd
  have hnd := lnk_nd wf nd
  unfold rowsIn
  rw [← L.ks, List.filter_map]
  congr 1
  refine List.filter_congr fun x hx => ?_
  show decide (asV (ofL ds) x.1 = some l) = decide (x.2.1 = l)
  have h1 := asV_mem hnd hx
  rw [← of_eq nd, (L.of x.1 x.2 h1).1]
  simp
def movesN (ds : List (Int × Dd)) : List Int := (ds.filter fun x => decide (x.2.word = ("move" : Str))).map (·.1)
theorem moves_len {ds : List (Int × Dd)} : (mkS ds).moves.length = (movesN ds).length := by
  have go : ∀ i : Nat, i ≤ ds.length → (mkS (ds.take i)).moves.length = (movesN (ds.take i)).length := fun i => by
    induction i with
    | zero => intro _; rfl
    | succ i ih =>
      intro hi
      obtain ⟨⟨n, δ⟩, hx⟩ : ∃ x, ds[i]? = some x := ⟨_, List.getElem?_eq_getElem (by omega)⟩
      have ih := ih (by omega)
      rw [List.take_add_one, hx]
      show (mkS (ds.take i ++ [(n, δ)])).moves.length = (movesN (ds.take i ++ [(n, δ)])).length
      generalize ds.take i = pre at ih
      rw [mkS_snoc]
      have em : movesN (pre ++ [(n, δ)]) = movesN pre ++ (if δ.word = ("move" : Str) then [n] else []) := by
        unfold movesN
        rw [List.filter_append, List.map_append]
        congr 1
        show (List.filter (fun x : Int × Dd => decide (x.2.word = ("move" : Str))) [(n, δ)]).map _ = _
        by_cases h : δ.word = ("move" : Str)
        · rw [List.filter_cons_of_pos (by simp [h]), if_pos h]
          rfl
        · rw [List.filter_cons_of_neg (by simp [h]), if_neg h]
          rfl
      rw [em]
      cases δ with
      | layer => rw [if_neg (by decide +kernel), List.append_nil]; exact ih
      | row l d k => rw [if_neg (by show ¬ ("row" : Str) = "move"; decide +kernel), List.append_nil]; exact ih
      | draw r d =>
        rw [if_neg (by show ¬ ("draw" : Str) = "move"; decide +kernel), List.append_nil, ← ih]
        show (match asV (mkS pre).rows r with | some x => { mkS pre with rows := asPut (mkS pre).rows r (x.1, d, x.2.2) } | none => mkS pre).moves.length = _
        split <;> rfl
      | hold r d =>
        rw [if_neg (by show ¬ ("hold" : Str) = "move"; decide +kernel), List.append_nil, ← ih]
        show (match asV (mkS pre).rows r with | some x => { mkS pre with rows := asPut (mkS pre).rows r (x.1, x.2.1, d) } | none => mkS pre).moves.length = _
        split <;> rfl
      | drop r => rw [if_neg (by show ¬ ("drop" : Str) = "move"; decide +kernel), List.append_nil]; exact ih
      | round r =>
        rw [if_neg (by show ¬ ("round" : Str) = "move"; decide +kernel), List.append_nil, ← ih]
        show (match asV (mkS pre).rows r with | some x => { mkS pre with backs := asPut (mkS pre).backs x.1 (some r) } | none => mkS pre).moves.length = _
        split <;> rfl
      | straight l => rw [if_neg (by show ¬ ("straight" : Str) = "move"; decide +kernel), List.append_nil]; exact ih
      | move x y m =>
        rw [if_pos (show (Dd.move x y m).word = ("move" : Str) from rfl)]
        show ((mkS pre).moves ++ [(x, y, m)]).length = _
        rw [List.length_append, List.length_append, ih]
        rfl
  have := go ds.length (Nat.le_refl _)
  rw [List.take_length] at this
  exact this
theorem wf_snoc {ds : List (Int × Dd)} {n : Int} {δ : Dd} (wf : WFd ds) (h : rowOk (mkS ds) δ) : WFd (ds ++ [(n, δ)]) := fun i n' δ' hi => by
  by_cases hlt : i < ds.length
  · rw [List.getElem?_append_left hlt] at hi
    rw [List.take_append_of_le_length (by omega)]
    exact wf i n' δ' hi
  · have hi2 : i < (ds ++ [(n, δ)]).length := (List.getElem?_eq_some_iff.mp hi).1
    rw [List.length_append] at hi2
    have : i = ds.length := by
      have : [(n, δ)].length = 1 := rfl
      omega
    subst this
    rw [List.getElem?_append_right (Nat.le_refl _), Nat.sub_self] at hi
    cases hi
    rw [List.take_append_of_le_length (Nat.le_refl _), List.take_length]
    exact h
/-- the row that a deed names stands, by the law's numbers -/
theorem rowOk_iff {ds : List (Int × Dd)} (L : Lnk ds) {δ : Dd} : rowOk (mkS ds) δ ↔ (match δ with | .draw r _ => r ∈ rowsL ds | .hold r _ => r ∈ rowsL ds | .drop r => r ∈ rowsL ds | .round r => r ∈ rowsL ds | _ => True) := by
  rw [← L.ks]
  cases δ with
  | draw r d => exact asV_some
  | hold r d => exact asV_some
  | drop r => exact asV_some
  | round r => exact asV_some
  | layer => exact Iff.rfl
  | row l d h => exact Iff.rfl
  | straight l => exact Iff.rfl
  | move x y m => exact Iff.rfl

theorem rows_keep {pre : List (Int × Dd)} {r k : Int} (h : r ∈ rowsL pre) (hk : r ≠ k) : r ∈ rowsL (asDrop pre k) := by
  unfold rowsL at h ⊢
  obtain ⟨x, hx, rfl⟩ := List.mem_map.mp h
  obtain ⟨hx1, hx2⟩ := List.mem_filter.mp hx
  rw [Bool.and_eq_true] at hx2
  refine List.mem_map.mpr ⟨x, List.mem_filter.mpr ⟨?_, ?_⟩, rfl⟩
  · exact List.mem_filter.mpr ⟨hx1, decide_eq_true hk⟩
  · rw [Bool.and_eq_true]
    refine ⟨hx2.1, ?_⟩
    have hng : x.1 ∉ goneL (asDrop pre k) := fun z => by
      have : x.1 ∈ goneL pre := by
        unfold goneL at z ⊢
        obtain ⟨y, hy, e⟩ := List.mem_map.mp z
        obtain ⟨hy1, hy2⟩ := List.mem_filter.mp hy
        exact List.mem_map.mpr ⟨y, List.mem_filter.mpr ⟨(List.mem_filter.mp hy1).1, hy2⟩, e⟩
      have h2 := hx2.2
      rw [decide_eq_true this] at h2
      cases h2
    rw [decide_eq_false hng]
    rfl
theorem drop_nodup {ds : List (Int × Dd)} {k : Int} (nd : (ds.map (·.1)).Nodup) : ((asDrop ds k).map (·.1)).Nodup := by
  unfold asDrop
  exact List.Nodup.sublist ((List.filter_sublist).map _) nd
theorem take_nodup {ds : List (Int × Dd)} {i : Nat} (nd : (ds.map (·.1)).Nodup) : ((ds.take i).map (·.1)).Nodup := List.Nodup.sublist ((List.take_sublist i ds).map _) nd
theorem wf_take {ds : List (Int × Dd)} (wf : WFd ds) (i : Nat) : WFd (ds.take i) := fun j n δ h => by
  have hj : j < i := by
    have := (List.getElem?_eq_some_iff.mp h).1
    rw [List.length_take] at this
    omega
  rw [List.getElem?_take_of_lt hj] at h
  rw [List.take_take, Nat.min_eq_left (by omega)]
  exact wf j n δ h
theorem wf_drop {ds : List (Int × Dd)} (wf : WFd ds) (nd : (ds.map (·.1)).Nodup) {k : Int} (hl : leanL ds k = []) : WFd (asDrop ds k) := by
  have go : ∀ i : Nat, i ≤ ds.length → WFd (asDrop (ds.take i) k) := fun i => by
    induction i with
    | zero =>
      intro _ j n δ h
      cases h
    | succ i ih =>
      intro hi
      have ih := ih (by omega)
      obtain ⟨x, hx⟩ : ∃ x, ds[i]? = some x := ⟨_, List.getElem?_eq_getElem (by omega)⟩
      rw [drop_take hx]
      by_cases e : x.1 = k
      · rw [if_pos e, List.append_nil]
        exact ih
      · rw [if_neg e]
        refine wf_snoc (n := x.1) (δ := x.2) ih ?_
        have L1 : Lnk (asDrop (ds.take i) k) := lnk ih (drop_nodup (take_nodup nd))
        have L0 : Lnk (ds.take i) := lnk (wf_take wf i) (take_nodup nd)
        have hok := wf i x.1 x.2 hx
        have hnk : namO x.2 ≠ some k := fun z => by
          have : x.1 ∈ leanL ds k := List.mem_map.mpr ⟨x, List.mem_filter.mpr ⟨List.mem_of_getElem? hx, decide_eq_true z⟩, rfl⟩
          rw [hl] at this
          cases this
        rw [rowOk_iff L0] at hok
        rw [rowOk_iff L1]
        generalize x.2 = δ at hok hnk
        cases δ with
        | draw r d => exact rows_keep hok fun z => hnk (by rw [← z]; rfl)
        | hold r d => exact rows_keep hok fun z => hnk (by rw [← z]; rfl)
        | drop r => exact rows_keep hok fun z => hnk (by rw [← z]; rfl)
        | round r => exact rows_keep hok fun z => hnk (by rw [← z]; rfl)
        | layer => exact trivial
        | row l d h => exact trivial
        | straight l => exact trivial
        | move x y m => exact trivial
  have := go ds.length (Nat.le_refl _)
  rw [List.take_length] at this
  exact this
def GoodD : Dd → Prop
  | .layer => True
  | .row l d h => 0 ≤ l ∧ (0 ≤ d ∧ d ≤ 9) ∧ (1 ≤ h ∧ h ≤ 24)
  | .draw r d => 0 ≤ r ∧ (0 ≤ d ∧ d ≤ 9)
  | .hold r h => 0 ≤ r ∧ (1 ≤ h ∧ h ≤ 24)
  | .drop r => 0 ≤ r
  | .round r => 0 ≤ r
  | .straight l => 0 ≤ l
  | .move x y m => (-20 ≤ x ∧ x ≤ 20) ∧ (-20 ≤ y ∧ y ≤ 20) ∧ (0 ≤ m ∧ m ≤ 24)
theorem fit_layer {S : MS} {n : Int} (h : 0 ≤ n) : fitD S "layer" (.int n) = decide (n ∈ S.layers) := by
  show (if ("layer" : Str) = "layer" then decide (0 ≤ n) && decide (n ∈ S.layers) else _) = _
  rw [if_pos rfl, decide_eq_true h, Bool.true_and]
theorem fit_row {S : MS} {n : Int} (h : 0 ≤ n) : fitD S "row" (.int n) = decide (n ∈ S.rows.map (·.1)) := by
  have e : fitD S "row" (.int n) = (isWf (.int n) 0 && keyI (.int n) S.rows) := by
    unfold fitD
    rw [if_neg (by decide +kernel), if_pos rfl]
  rw [e]
  show (decide (0 ≤ n) && (asV S.rows n).isSome) = _
  rw [decide_eq_true h, Bool.true_and]
  have := asV_some (l := S.rows) (k := n)
  rw [Bool.eq_iff_iff, decide_eq_true_eq]
  exact this
theorem fit_drawing {S : MS} {d : PyData} : fitD S "drawing" d = isW d 0 9 := by
  unfold fitD plainD
  rw [if_neg (by decide +kernel), if_neg (by decide +kernel), if_pos rfl]
theorem fit_hold {S : MS} {d : PyData} : fitD S "hold" d = isW d 1 24 := by
  unfold fitD plainD
  rw [if_neg (by decide +kernel), if_neg (by decide +kernel), if_neg (by decide +kernel), if_pos rfl]
theorem fit_way {S : MS} {d : PyData} : fitD S "way" d = isW d (-20) 20 := by
  unfold fitD plainD
  rw [if_neg (by decide +kernel), if_neg (by decide +kernel), if_neg (by decide +kernel), if_neg (by decide +kernel), if_pos rfl]
theorem fit_many {S : MS} {d : PyData} : fitD S "many" d = isW d 0 24 := by
  unfold fitD plainD
  rw [if_neg (by decide +kernel), if_neg (by decide +kernel), if_neg (by decide +kernel), if_neg (by decide +kernel), if_neg (by decide +kernel)]
theorem isW_yes {n l m : Int} (h : l ≤ n ∧ n ≤ m) : isW (.int n) l m = true := decide_eq_true h
theorem tak_fits {ds : List (Int × Dd)} (L : Lnk ds) {δ : Dd} (g : GoodD δ) : takD (mkS ds) (ddD δ) = fitsL ds δ := by
  cases δ with
  | layer =>
    rw [show ddD .layer = .tuple (.str "layer" :: []) from rfl, tak_some (ps := []) (by decide +kernel)]
    unfold fitsL
    rw [if_neg (by decide +kernel)]
    rw [show inV (.str Dd.layer.word) [.str "layer", .str "move"] = true by decide +kernel]
    rfl
  | row l d h =>
    rw [show ddD (.row l d h) = .tuple (.str "row" :: [.int l, .int d, .int h]) from rfl, tak_some (ps := ["layer", "drawing", "hold"]) (by decide +kernel)]
    show (true && (fitD (mkS ds) "layer" (.int l) && (fitD (mkS ds) "drawing" (.int d) && (fitD (mkS ds) "hold" (.int h) && true)))) = _
    rw [fit_layer g.1, fit_drawing, fit_hold, isW_yes g.2.1, isW_yes g.2.2, L.ly]
    unfold fitsL
    rw [if_pos (show inV (.str (Dd.row l d h).word) [.str "row", .str "straight"] = true by show inV (.str "row") [.str "row", .str "straight"] = true; decide +kernel)]
    simp
    rfl
  | draw r d =>
    rw [show ddD (.draw r d) = .tuple (.str "draw" :: [.int r, .int d]) from rfl, tak_some (ps := ["row", "drawing"]) (by decide +kernel)]
    show (true && (fitD (mkS ds) "row" (.int r) && (fitD (mkS ds) "drawing" (.int d) && true))) = _
    rw [fit_row g.1, fit_drawing, isW_yes g.2, L.ks]
    unfold fitsL
    rw [if_neg (show ¬ inV (.str (Dd.draw r d).word) [.str "row", .str "straight"] = true by show ¬ inV (.str "draw") [.str "row", .str "straight"] = true; decide +kernel), show inV (.str (Dd.draw r d).word) [.str "layer", .str "move"] = false by show inV (.str "draw") [.str "layer", .str "move"] = false; decide +kernel]
    simp
    rfl
  | hold r d =>
    rw [show ddD (.hold r d) = .tuple (.str "hold" :: [.int r, .int d]) from rfl, tak_some (ps := ["row", "hold"]) (by decide +kernel)]
    show (true && (fitD (mkS ds) "row" (.int r) && (fitD (mkS ds) "hold" (.int d) && true))) = _
    rw [fit_row g.1, fit_hold, isW_yes g.2, L.ks]
    unfold fitsL
    rw [if_neg (show ¬ inV (.str (Dd.hold r d).word) [.str "row", .str "straight"] = true by show ¬ inV (.str "hold") [.str "row", .str "straight"] = true; decide +kernel), show inV (.str (Dd.hold r d).word) [.str "layer", .str "move"] = false by show inV (.str "hold") [.str "layer", .str "move"] = false; decide +kernel]
    simp
    rfl
  | drop r =>
    rw [show ddD (.drop r) = .tuple (.str "drop" :: [.int r]) from rfl, tak_some (ps := ["row"]) (by decide +kernel)]
    show (true && (fitD (mkS ds) "row" (.int r) && true)) = _
    rw [fit_row g, L.ks]
    unfold fitsL
    rw [if_neg (show ¬ inV (.str (Dd.drop r).word) [.str "row", .str "straight"] = true by show ¬ inV (.str "drop") [.str "row", .str "straight"] = true; decide +kernel), show inV (.str (Dd.drop r).word) [.str "layer", .str "move"] = false by show inV (.str "drop") [.str "layer", .str "move"] = false; decide +kernel]
    simp
    rfl
  | round r =>
    rw [show ddD (.round r) = .tuple (.str "round" :: [.int r]) from rfl, tak_some (ps := ["row"]) (by decide +kernel)]
    show (true && (fitD (mkS ds) "row" (.int r) && true)) = _
    rw [fit_row g, L.ks]
    unfold fitsL
    rw [if_neg (show ¬ inV (.str (Dd.round r).word) [.str "row", .str "straight"] = true by show ¬ inV (.str "round") [.str "row", .str "straight"] = true; decide +kernel), show inV (.str (Dd.round r).word) [.str "layer", .str "move"] = false by show inV (.str "round") [.str "layer", .str "move"] = false; decide +kernel]
    simp
    rfl
  | straight l =>
    rw [show ddD (.straight l) = .tuple (.str "straight" :: [.int l]) from rfl, tak_some (ps := ["layer"]) (by decide +kernel)]
    show (true && (fitD (mkS ds) "layer" (.int l) && true)) = _
    rw [fit_layer g, L.ly]
    unfold fitsL
    rw [if_pos (show inV (.str (Dd.straight l).word) [.str "row", .str "straight"] = true by show inV (.str "straight") [.str "row", .str "straight"] = true; decide +kernel)]
    simp
    rfl
  | move x y m =>
    rw [show ddD (.move x y m) = .tuple (.str "move" :: [.int x, .int y, .int m]) from rfl, tak_some (ps := ["way", "way", "many"]) (by decide +kernel)]
    show (true && (fitD (mkS ds) "way" (.int x) && (fitD (mkS ds) "way" (.int y) && (fitD (mkS ds) "many" (.int m) && true)))) = _
    rw [fit_way, fit_way, fit_many, isW_yes g.1, isW_yes g.2.1, isW_yes g.2.2]
    unfold fitsL
    rw [if_neg (show ¬ inV (.str (Dd.move x y m).word) [.str "row", .str "straight"] = true by show ¬ inV (.str "move") [.str "row", .str "straight"] = true; decide +kernel), show inV (.str (Dd.move x y m).word) [.str "layer", .str "move"] = true by show inV (.str "move") [.str "layer", .str "move"] = true; decide +kernel]
    rfl
theorem fits_ok {ds : List (Int × Dd)} (L : Lnk ds) {δ : Dd} (h : fitsL ds δ = true) : rowOk (mkS ds) δ := by
  rw [rowOk_iff L]
  cases δ with
  | draw r d =>
    unfold fitsL at h
    rw [if_neg (show ¬ inV (.str (Dd.draw r d).word) [.str "row", .str "straight"] = true by show ¬ inV (.str "draw") [.str "row", .str "straight"] = true; decide +kernel), show inV (.str (Dd.draw r d).word) [.str "layer", .str "move"] = false by show inV (.str "draw") [.str "layer", .str "move"] = false; decide +kernel] at h
    exact of_decide_eq_true h
  | hold r d =>
    unfold fitsL at h
    rw [if_neg (show ¬ inV (.str (Dd.hold r d).word) [.str "row", .str "straight"] = true by show ¬ inV (.str "hold") [.str "row", .str "straight"] = true; decide +kernel), show inV (.str (Dd.hold r d).word) [.str "layer", .str "move"] = false by show inV (.str "hold") [.str "layer", .str "move"] = false; decide +kernel] at h
    exact of_decide_eq_true h
  | drop r =>
    unfold fitsL at h
    rw [if_neg (show ¬ inV (.str (Dd.drop r).word) [.str "row", .str "straight"] = true by show ¬ inV (.str "drop") [.str "row", .str "straight"] = true; decide +kernel), show inV (.str (Dd.drop r).word) [.str "layer", .str "move"] = false by show inV (.str "drop") [.str "layer", .str "move"] = false; decide +kernel] at h
    exact of_decide_eq_true h
  | round r =>
    unfold fitsL at h
    rw [if_neg (show ¬ inV (.str (Dd.round r).word) [.str "row", .str "straight"] = true by show ¬ inV (.str "round") [.str "row", .str "straight"] = true; decide +kernel), show inV (.str (Dd.round r).word) [.str "layer", .str "move"] = false by show inV (.str "round") [.str "layer", .str "move"] = false; decide +kernel] at h
    exact of_decide_eq_true h
  | layer => exact trivial
  | row l d h => exact trivial
  | straight l => exact trivial
  | move x y m => exact trivial

/-! ### a written dict of text keys: what is no key of it; tuples of texts -/
theorem dicN {K : PySem.W.Frag} {w : World} {a : Addr} {ks : List Str} (h : He.dicW K a = some (He.keysIn w.params ks)) {z : Str} (hz : z ∉ ks) : PySem.W.nsIn K a z = some none := by
  unfold He.dicW at h
  unfold PySem.W.nsIn
  split at h
  · rename_i c es n sl q
    rw [q]
    split at h
    · have e := Option.some.inj h
      have all : ∀ (l : List DictEntry) (ks : List Str), l.map He.keyOf = He.keysIn w.params ks → z ∉ ks → l.find? (fun e => e.key.isStr z) = none ∧ l.any (fun e => e.refKey) = false := by
        intro l
        induction l with
        | nil => exact fun _ _ _ => ⟨rfl, rfl⟩
        | cons d r ih =>
          intro ks e hz
          cases ks with
          | nil => cases e
          | cons k ks =>
            have h1 : He.keyOf d :: r.map He.keyOf = some (k, PyData.keyHash w.params k) :: He.keysIn w.params ks := e
            injection h1 with h2 h3
            obtain ⟨i1, i2⟩ := ih ks h3 (fun m => hz (List.mem_cons_of_mem _ m))
            unfold He.keyOf at h2
            split at h2
            · rename_i x t q2
              have h5 : x = k := (Prod.mk.inj (Option.some.inj h2)).1
              have nk : (x == z) = false := beq_eq_false_iff_ne.mpr fun e => hz (e ▸ h5 ▸ List.mem_cons_self ..)
              have e3 : d.key.isStr z = false := by rw [q2]; exact nk
              have e4 : d.refKey = false := by
                unfold DictEntry.refKey
                rw [q2]
              rw [List.find?_cons, List.any_cons]
              exact ⟨by rw [e3]; exact i1, by rw [e4, i2]; rfl⟩
            · cases h2
      obtain ⟨a1, a2⟩ := all _ _ e hz
      show (match es.toList.find? (fun e => e.key.isStr z) with
        | some e => some (some e.val)
        | none => if es.toList.any (fun e => e.refKey) then none else some none) = some none
      rw [a1, a2]
      rfl
    · cases h
  · cases h
def strO : Value → Option Str
  | .str x _ => some x
  | _ => none
def tupW (K : PySem.W.Frag) (t : Addr) : Option (List (Option Str)) := match K.lookup t with
  | some ⟨.type c, _, .seq its _, _⟩ => (match decide (c = "tuple") with
    | true => some (its.toList.map strO)
    | false => none)
  | _ => none
theorem tupW_ok {K : PySem.W.Frag} {t : Addr} {ps : List Str} (h : tupW K t = some (ps.map some)) (hl : ps.length ≤ 1000) (H : Hp) : SqT K H t (ps.map V.str) := by
  unfold tupW at h
  split at h
  · rename_i c dd its n sl q
    split at h
    · rename_i hc
      have e := Option.some.inj h
      have vals : ∀ (l : List Value) (ps : List Str), l.map strO = ps.map some → Vals (ps.map V.str) l := by
        intro l
        induction l with
        | nil => intro ps e; cases ps with
          | nil => exact .nil
          | cons _ _ => cases e
        | cons d r ih => intro ps e; cases ps with
          | nil => cases e
          | cons p ps =>
            injection e with e1 e2
            refine .cons ?_ (ih ps e2)
            cases d <;> first | cases e1 | skip
            rename_i tk
            exact ⟨tk, rfl⟩
      have v := vals _ _ e
      refine .inr ⟨_, its, n, q, ?_, rfl, ?_, v⟩
      · show Value.type c = _
        rw [of_decide_eq_true hc]
      · have e5 : its.toList.length = ps.length := by
          have := congrArg List.length e
          simpa using this
        rw [← Array.length_toList, e5]
        exact Nat.le_trans hl (by decide)
    · cases h
  · cases h
theorem partsP0 {K : PySem.W.Frag} {w : World} {a : Addr} (h : He.dicW K a = some (He.keysIn w.params ["layer", "row", "draw", "hold", "drop", "round", "straight", "move"])) (z : Str) (hz : partsOf z = none) : PySem.W.nsIn K a z = some none := by
  refine dicN h fun m => ?_
  simp only [List.mem_cons, List.not_mem_nil, or_false] at m
  rcases m with rfl | rfl | rfl | rfl | rfl | rfl | rfl | rfl <;> exact absurd hz (by decide +kernel)
theorem partsP1 {K : PySem.W.Frag} {a t0 t1 t2 t3 t4 t5 t6 t7 : Addr} (n0 : PySem.W.nsIn K a "layer" = some (some (.ref t0))) (n1 : PySem.W.nsIn K a "row" = some (some (.ref t1))) (n2 : PySem.W.nsIn K a "draw" = some (some (.ref t2))) (n3 : PySem.W.nsIn K a "hold" = some (some (.ref t3)))
    (n4 : PySem.W.nsIn K a "drop" = some (some (.ref t4))) (n5 : PySem.W.nsIn K a "round" = some (some (.ref t5))) (n6 : PySem.W.nsIn K a "straight" = some (some (.ref t6))) (n7 : PySem.W.nsIn K a "move" = some (some (.ref t7)))
    (w0 : tupW K t0 = some []) (w1 : tupW K t1 = some [some ("layer" : Str), some ("drawing" : Str), some ("hold" : Str)]) (w2 : tupW K t2 = some [some ("row" : Str), some ("drawing" : Str)]) (w3 : tupW K t3 = some [some ("row" : Str), some ("hold" : Str)]) (w4 : tupW K t4 = some [some ("row" : Str)]) (w5 : tupW K t5 = some [some ("row" : Str)]) (w6 : tupW K t6 = some [some ("layer" : Str)]) (w7 : tupW K t7 = some [some ("way" : Str), some ("way" : Str), some ("many" : Str)])
    (z : Str) (ps : List Str) (h : partsOf z = some ps) : ∃ t, PySem.W.nsIn K a z = some (some (.ref t)) ∧ ∀ H, SqT K H t (ps.map V.str) := by
  unfold partsOf at h
  split at h
  · cases h; subst_vars; exact ⟨_, n0, tupW_ok (ps := []) w0 (by decide)⟩
  split at h
  · cases h; subst_vars; exact ⟨_, n1, tupW_ok (ps := ["layer", "drawing", "hold"]) w1 (by show 3 ≤ 1000; decide)⟩
  split at h
  · cases h; subst_vars; exact ⟨_, n2, tupW_ok (ps := ["row", "drawing"]) w2 (by show 2 ≤ 1000; decide)⟩
  split at h
  · cases h; subst_vars; exact ⟨_, n3, tupW_ok (ps := ["row", "hold"]) w3 (by show 2 ≤ 1000; decide)⟩
  split at h
  · cases h; subst_vars; exact ⟨_, n4, tupW_ok (ps := ["row"]) w4 (by show 1 ≤ 1000; decide)⟩
  split at h
  · cases h; subst_vars; exact ⟨_, n5, tupW_ok (ps := ["row"]) w5 (by show 1 ≤ 1000; decide)⟩
  split at h
  · cases h; subst_vars; exact ⟨_, n6, tupW_ok (ps := ["layer"]) w6 (by show 1 ≤ 1000; decide)⟩
  split at h
  · cases h; subst_vars; exact ⟨_, n7, tupW_ok (ps := ["way", "way", "many"]) w7 (by show 3 ≤ 1000; decide)⟩
  · cases h

theorem nam_word (δ : Dd) : (inV (.str δ.word) [.str "layer", .str "move"] = true ∧ namO δ = none) ∨ (inV (.str δ.word) [.str "layer", .str "move"] = false ∧ namO δ = some (num1 δ) ∧ δ.word ≠ ("layer" : Str)) := by
  cases δ with
  | layer => exact .inl ⟨by decide +kernel, rfl⟩
  | move a b c => exact .inl ⟨by show inV (.str "move") [.str "layer", .str "move"] = true; decide +kernel, rfl⟩
  | row a b c => exact .inr ⟨by show inV (.str "row") [.str "layer", .str "move"] = false; decide +kernel, rfl, by show ("row" : Str) ≠ "layer"; decide +kernel⟩
  | draw a b => exact .inr ⟨by show inV (.str "draw") [.str "layer", .str "move"] = false; decide +kernel, rfl, by show ("draw" : Str) ≠ "layer"; decide +kernel⟩
  | hold a b => exact .inr ⟨by show inV (.str "hold") [.str "layer", .str "move"] = false; decide +kernel, rfl, by show ("hold" : Str) ≠ "layer"; decide +kernel⟩
  | drop a => exact .inr ⟨by show inV (.str "drop") [.str "layer", .str "move"] = false; decide +kernel, rfl, by show ("drop" : Str) ≠ "layer"; decide +kernel⟩
  | round a => exact .inr ⟨by show inV (.str "round") [.str "layer", .str "move"] = false; decide +kernel, rfl, by show ("round" : Str) ≠ "layer"; decide +kernel⟩
  | straight a => exact .inr ⟨by show inV (.str "straight") [.str "layer", .str "move"] = false; decide +kernel, rfl, by show ("straight" : Str) ≠ "layer"; decide +kernel⟩
section
variable {P : Program} {w : World} {K : PySem.W.Frag} {mg : Str → Option Value} {base : Heap}
def sp__law_fits (K : PySem.W.Frag) : Sp := fun vs H Q _ => ∃ (A : Addr) (ds : List (Int × Dd)) (v : V) (δ : Dd), vs = [.ref A, v] ∧ LdK K H A ds ∧ ds.length ≤ 300 ∧ DeedAt K H v δ ∧ ∀ H', Same H H' → Q (.bl (fitsL ds δ)) H'
theorem ok__law_fits {f : Addr} {fd : FuncData} (F : Fun K "_law_fits" "_law_fits" s__law_fits f fd) (T : Txt K mg) (D__law_known : Cl P w K mg base 1 "_law_known" ["_law_deeds"] (sp__law_known K)) : FnOk P w K mg base CX0 2 f fd ["_law_deeds", "_law_deed_here"] (sp__law_fits K) := by
  refine F.ok sc__law_fits (fun vs H Q E h => ?_) (fun cdv A outer s H vs Q E hr h => ?_)
  · obtain ⟨A, ds, v, δ, rfl, _⟩ := h
    rfl
  · obtain ⟨A, ds, v, δ, rfl, hA, l3, ⟨y, rfl, hy⟩, q⟩ := h
    refine ⟨_, (pss_cons (ps_asg (pe_own D__law_known (hr.mono (by omega)) (by rfl) (pa_cons (pv 0) pa_nil)) (pg_tup (by rfl) (pgs_cons (pg_name (i := 2) sc__law_fits.nd rfl (Or.inl rfl)) (pgs_cons (pg_name (i := 3) sc__law_fits.nd rfl (Or.inl rfl)) pgs_nil))))
      (pss_cons (ps_if (pt_cmpR op_in_seq (pe_ix ix_tup (pv 1) pe_int (fun _ _ => rfl)) (pe_tup (pa_cons pe_str (pa_cons pe_str pa_nil))) (by rfl)) (pss_one (ps_ret (pe_cmpR op_in_seq (pe_ix ix_tup (pv 1) pe_int (fun _ _ => rfl)) (pv 2) (by rfl)))) pss_nil)
      (pss_one (ps_ret (pe_or (pe_cmpR op_in_seq (pe_ix ix_tup (pv 1) pe_int (fun _ _ => rfl)) (pe_tup (pa_cons pe_str (pa_cons pe_str pa_nil))) (by rfl)) (pe_one (pe_cmpR op_in_seq (pe_ix ix_tup (pv 1) pe_int (fun _ _ => rfl)) (pv 3) (by rfl)))))))), ?_⟩
    refine ⟨_, rfl, A, ds, rfl, hA, l3, fun H1 t X Y s1 ht nX nY eX eY => ⟨t, _, rfl, ht, rfl, _, _, rfl, _, _, rfl, rfl, ?_⟩⟩
    have hy1 := Same.sqT s1 hy
    refine ⟨_, rfl, y, _, 0, .str δ.word, rfl, rfl, hy1, at0, (by show 2 ≤ sizeLine; decide), fun t2 nt2 => ?_⟩
    have s2 := same_upd (o := .tup [.str "row", .str "straight"]) nt2
    have e2 : upd H1 t2 (.tup [.str "row", .str "straight"]) t2 = some (.tup [.str "row", .str "straight"]) := upd_same
    generalize upd H1 t2 (.tup [.str "row", .str "straight"]) = H2 at s2 e2 ⊢
    have hy2 := Same.sqT s2 hy1
    refine ⟨t2, _, rfl, .inr (.inl (.inl e2)), rfl, rfl, _, rfl, ite2 (fun h => ?_) (fun h => ?_)⟩
    · have hw : δ.word ≠ ("layer" : Str) := fun e => by
        rw [e] at h
        exact absurd h (by decide +kernel)
      have ef : fitsL ds δ = decide (num1 δ ∈ layersL ds) := if_pos h
      refine ⟨_, rfl, y, _, 1, _, rfl, rfl, hy2, deed1 hw, _, rfl, X, _, rfl, .inl (.inl (.inl (s2 _ _ eX))), rfl, flat_ints _, ?_⟩
      show Q (.bl (inV (.int (num1 δ)) ((layersL ds).map V.int))) H2
      rw [inV_ints, ← ef]
      exact q _ (s1.trans s2)
    · have ef : fitsL ds δ = (inV (.str δ.word) [.str "layer", .str "move"] || decide (num1 δ ∈ rowsL ds)) := if_neg h
      refine ⟨_, rfl, y, _, 0, .str δ.word, rfl, rfl, hy2, at0, (by show 2 ≤ sizeLine; decide), fun t3 nt3 => ?_⟩
      have s3 := same_upd (o := .tup [.str "layer", .str "move"]) nt3
      have e3 : upd H2 t3 (.tup [.str "layer", .str "move"]) t3 = some (.tup [.str "layer", .str "move"]) := upd_same
      generalize upd H2 t3 (.tup [.str "layer", .str "move"]) = H3 at s3 e3 ⊢
      have s13 := (s1.trans s2).trans s3
      refine ⟨t3, _, rfl, .inr (.inl (.inl e3)), rfl, rfl, ?_⟩
      rcases nam_word δ with ⟨e, _⟩ | ⟨e, _, hw⟩
      · refine ⟨true, congrArg V.bl e, iteT ?_⟩
        rw [e] at ef
        rw [show true = fitsL ds δ from ef.symm]
        exact q _ s13
      · refine ⟨false, congrArg V.bl e, iteF ⟨_, rfl, y, _, 1, _, rfl, rfl, Same.sqT s3 hy2, deed1 hw, _, rfl, Y, _, rfl, .inl (.inl (.inl (s3 _ _ (s2 _ _ eY)))), rfl, flat_ints _, ?_⟩⟩
        show Q (.bl (inV (.int (num1 δ)) ((rowsL ds).map V.int))) H3
        rw [e, Bool.false_or] at ef
        rw [inV_ints, ← ef]
        exact q _ s13
def sp__law_leaning (K : PySem.W.Frag) : Sp := fun vs H Q _ => ∃ (A : Addr) (ds : List (Int × Dd)) (k : Int), vs = [.ref A, .int k] ∧ LdK K H A ds ∧ ds.length ≤ 300 ∧ ∀ H' X, Same H H' → H X = none → H' X = some (.lst ((leanL ds k).map V.int)) → Q (.ref X) H'
theorem ok__law_leaning {f : Addr} {fd : FuncData} (F : Fun K "_law_leaning" "_law_leaning" s__law_leaning f fd) (T : Txt K mg) : FnOk P w K mg base CX0 1 f fd ["_law_deeds", "_law_number"] (sp__law_leaning K) := by
  refine F.ok sc__law_leaning (fun vs H Q E h => ?_) (fun cdv A outer s H vs Q E hr h => ?_)
  · obtain ⟨A, ds, k, rfl, _⟩ := h
    rfl
  · obtain ⟨A, ds, k, rfl, ⟨us, eA, pd⟩, l3, q⟩ := h
    refine ⟨_, (pss_one (ps_ret (pe_lc (own := [("_law_one", 2), ("_law_deed_here", 3)]) (g := (gTup _ 2 (gCons (gName 2) (gCons (gName 3) gNil)))) (by rfl) sc__law_leaning.nd (pi_list (pv 0)) (blkOk_by (own := [("_law_one", 2), ("_law_deed_here", 3)]) (N := ["_law_deeds", "_law_number", "_law_one", "_law_deed_here"]) (sc := defScope s__law_leaning) (by decide +kernel)) (fun _ _ _ _ _ => (pg_tup (by rfl) (pgs_cons (pg_name (i := 2) sc__law_leaning.nd rfl (Or.inl rfl)) (pgs_cons (pg_name (i := 3) sc__law_leaning.nd rfl (Or.inl rfl)) pgs_nil)))) (fun _ _ _ _ _ => (pts_one (PW.pt (pw_and (pt_cmpR (r := rIn K true) op_notIn_seq (pe_ix (r := rIxT K) ix_tup (pv 3) pe_int (fun _ _ => rfl)) (pe_tup (pa_cons pe_str (pa_cons pe_str pa_nil))) (by rfl)) (pw_and1 (pt_cmpR op_eq (pe_ix (r := rIxT K) ix_tup (pv 3) pe_int (fun _ _ => rfl)) (pv 1) (nomark _))))))) (fun _ _ _ _ _ => (pv 2))))), ?_⟩
    refine ⟨_, rfl, A, rfl, ⟨_, .inl (.inl eA)⟩, fun G hG => ?_⟩
    refine lcfil (fun x => decide (namO x.2 = some k)) (fun x => x.1) eA pd (by omega) hG (fun i u x H1 R Z hu hx hn s1 hR hZ => ?_) (fun H1 s1 eG => q _ G s1 hG eG)
    obtain ⟨t, y, rfl, ht, py, rfl, hy⟩ := hn
    refine ⟨t, _, rfl, ht, rfl, _, _, rfl, _, _, rfl, rfl, rfl, _, rfl, py, _, 0, .str x.2.word, rfl, rfl, hy, at0, (by show 2 ≤ sizeLine; decide), fun t2 nt2 => ?_⟩
    have s2 := same_upd (o := .tup [.str "layer", .str "move"]) nt2
    have e2 : upd H1 t2 (.tup [.str "layer", .str "move"]) t2 = some (.tup [.str "layer", .str "move"]) := upd_same
    generalize upd H1 t2 (.tup [.str "layer", .str "move"]) = H2 at s2 e2 ⊢
    have hy2 := Same.sqT s2 hy
    refine ⟨t2, _, rfl, .inr (.inl (.inl e2)), rfl, rfl, _, rfl, ?_⟩
    rcases nam_word x.2 with ⟨e, e1⟩ | ⟨e, e1, hw⟩
    · refine ifN (show (if true = true then !inV (.str x.2.word) [.str "layer", .str "move"] else inV (.str x.2.word) [.str "layer", .str "move"]) = false by rw [e]; rfl) (hZ ?_ _ s2)
      exact decide_eq_false (by rw [e1]; exact fun z => nomatch z)
    · refine ifY (show (if true = true then !inV (.str x.2.word) [.str "layer", .str "move"] else inV (.str x.2.word) [.str "layer", .str "move"]) = true by rw [e]; rfl) ⟨_, rfl, py, _, 1, _, rfl, rfl, hy2, deed1 hw, _, rfl, rfl, _, rfl, ite2 (fun e3 => ?_) (fun e3 => ?_)⟩
      · have e4 : num1 x.2 = k := V.int.inj (of_decide_eq_true e3)
        exact ⟨_, rfl, hR (decide_eq_true (by rw [e1, e4])) _ s2⟩
      · exact hZ (decide_eq_false fun h => e3 (decide_eq_true (by rw [e1] at h; rw [Option.some.inj h]))) _ s2
end

/-- a comprehension over a list: some of its things, each made anew -/
theorem lcgen {α β : Type} {K : PySem.W.Frag} {a : Addr} {xs : List V} {g : TG} {tt : TT} {te : TE} {vs : List Nat} {σ : L2.St} {H1 : Hp} {D : Addr} {Qd : Hp → Prop} (as : List α) (f : α → Bool) (v : α → β) (At : Hp → V → β → Prop) (keep : ∀ {H H' : Hp} {y : V} {c : β}, TKeep K H H' → At H y c → At H' y c) (hl : as.length = xs.length) (hz : xs.length ≤ 900) (hS : SqL K H1 a xs) (hD : H1 D = none)
    (hs : ∀ (i : Nat) (x : V) (c : α) (H : Hp) (R : V → Hp → Prop) (Z : Hp → Prop), xs[i]? = some x → as[i]? = some c → Same H1 H → (f c = true → ∀ y H4, Same H H4 → At H4 y (v c) → R y H4) → (f c = false → ∀ H4, Same H H4 → Z H4) → g x (wipe σ vs) H fun σ2 H2 => wipe σ2 vs = wipe σ vs ∧ tt σ2 H2 fun b H3 => if b = true then te σ2 H3 R else Z H3)
    (hd : ∀ H ts, Same H1 H → H D = some (.lst ts) → Paired (At H) ts ((as.filter f).map v) → Qd H) :
    ∃ W : Nat → Nat → Hp → Prop, (∃ m, W 0 m (upd H1 D (.lst []))) ∧ ∀ i m H, W i m H →
      ((Itl K a).stop i H ∧ Qd H) ∨ ((Itl K a).go i H ∧ ∃ Nx : Hp → Prop, (∀ H', Nx H' → ∃ m', m' < m ∧ W (i + 1) m' H') ∧ ∀ x H', (Itl K a).yld i H x H' → g x (wipe σ vs) H' fun σ2 H2 => wipe σ2 vs = wipe σ vs ∧ tt σ2 H2 fun b H3 =>
        if b = true then te σ2 H3 fun y H4 => ∃ acc, H4 D = some (.lst acc) ∧ acc.length < sizeLine ∧ Nx (upd H4 D (.lst (acc ++ [y]))) else Nx H3) := by
  refine lc_list (K := K) (a := a) (xs := xs) (fun i H => Same H1 H ∧ ∃ ts, H D = some (.lst ts) ∧ ts.length ≤ i ∧ Paired (At H) ts (((as.take i).filter f).map v)) ⟨same_upd hD, [], upd_same, Nat.le_refl _, .nil⟩ (fun i H _ p => p.1.seq hS) (fun i x H hx p => ?_) (fun H p => ?_)
  · have hi : i < xs.length := (List.getElem?_eq_some_iff.mp hx).1
    obtain ⟨c, hc⟩ : ∃ c, as[i]? = some c := ⟨_, List.getElem?_eq_getElem (by omega)⟩
    obtain ⟨s0, ts, eD, lt, pd⟩ := p
    have et : ((as.take (i + 1)).filter f).map v = ((as.take i).filter f).map v ++ (if f c = true then [v c] else []) := by
      rw [List.take_add_one, hc, List.filter_append, List.map_append]
      congr 1
      show (List.filter f [c]).map v = _
      by_cases h : f c = true
      · rw [List.filter_cons_of_pos h, if_pos h]
        rfl
      · rw [List.filter_cons_of_neg h, if_neg h]
        rfl
    refine hs i x c H _ _ hx hc s0 (fun hf y H4 s4 hy => ⟨ts, s4 _ _ eD, small1000 (by omega), ?_, ts ++ [y], upd_same, by rw [List.length_append]; exact Nat.succ_le_succ lt, ?_⟩) (fun hf H4 s4 => ⟨s0.trans s4, ts, s4 _ _ eD, by omega, ?_⟩)
    · intro b o e
      rw [upd_ne (ne_of_none e hD)]
      exact s4 _ _ (s0 _ _ e)
    · have k : TKeep K H4 (upd H4 D (.lst (ts ++ [y]))) := fun a zs h => tk_updL (s4 _ _ eD) _ _ h
      rw [et, if_pos hf]
      exact Paired.snocP (Paired.mono pd fun _ _ h => keep k (keep (Same.tk s4) h)) (keep k hy)
    · rw [et, if_neg (by rw [hf]; decide), List.append_nil]
      exact Paired.mono pd fun _ _ h => keep (Same.tk s4) h
  · obtain ⟨s0, ts, eD, lt, pd⟩ := p
    refine hd H ts s0 eD ?_
    rw [List.take_of_length_le (by omega)] at pd
    exact pd
def IntIs (_ : Hp) (y : V) (n : Int) : Prop := y = .int n
theorem IntIs.keep {K : PySem.W.Frag} {H H' : Hp} {y : V} {n : Int} (_ : TKeep K H H') (h : IntIs H y n) : IntIs H' y n := h
theorem paired_int {H : Hp} : ∀ {ts : List V} {ns : List Int}, Paired (IntIs H) ts ns → ts = ns.map V.int
  | _, _, .nil => rfl
  | _, _, .cons h t => by
    rw [show _ = _ from h, paired_int t]
    rfl
theorem mapI_at {l : List Int} {i : Nat} {u : V} {c : Int} (hu : (l.map V.int)[i]? = some u) (hc : l[i]? = some c) : u = .int c := by
  rw [List.getElem?_map, hc] at hu
  exact (Option.some.inj hu).symm
section
variable {α : Type} {Pv : V → α → Prop}
theorem AsP.fold {kvs : List (Key × V)} {l : List (Int × α)} (h : AsP Pv kvs l) : ∀ {acc : List (Key × V)} {la : List (Int × α)}, AsP Pv acc la → AsP Pv (mergeK acc kvs) (l.foldl (fun m r => asPut m r.1 r.2) la) := by
  induction h with
  | nil => exact fun h => h
  | @cons kv r kvs l h t ih =>
    intro acc la ha
    have := AsP.put ha (k := r.1) (v := kv.2) (x := r.2) h.2
    rw [← h.1] at this
    exact ih this
theorem fold_nodup : ∀ {l la : List (Int × α)}, (l.map (·.1)).Nodup → (∀ x ∈ l, ∀ y ∈ la, y.1 ≠ x.1) → l.foldl (fun m r => asPut m r.1 r.2) la = la ++ l
  | [], la, _, _ => (List.append_nil _).symm
  | r :: l, la, nd, hd => by
    rw [List.map_cons, List.nodup_cons] at nd
    show l.foldl (fun m r => asPut m r.1 r.2) (asPut la r.1 r.2) = _
    rw [asPut_new (hd r (List.mem_cons_self)), fold_nodup nd.2, List.append_assoc]
    · rfl
    · intro x hx y hy
      rcases List.mem_append.mp hy with hy | hy
      · exact hd x (List.mem_cons_of_mem _ hx) y hy
      · rw [List.mem_singleton.mp hy]
        intro e
        exact nd.1 (List.mem_map.mpr ⟨x, hx, e.symm⟩)
theorem AsP.merge {kvs : List (Key × V)} {l : List (Int × α)} (h : AsP Pv kvs l) (nd : (l.map (·.1)).Nodup) : AsP Pv (mergeK [] kvs) l := by
  have := AsP.fold h (acc := []) (la := []) .nil
  rw [fold_nodup nd (by intro x _ y hy; cases hy)] at this
  exact this
end

def RowP (K : PySem.W.Frag) (H : Hp) (y : V) (r : Int × Int) : Prop := ∃ t, y = .ref t ∧ SqT K H t [.int r.1, .int r.2]
theorem RowP.keep {K : PySem.W.Frag} {H H' : Hp} {y : V} {r : Int × Int} (k : TKeep K H H') (h : RowP K H y r) : RowP K H' y r := by
  obtain ⟨t, e, h⟩ := h
  exact ⟨t, e, k _ _ h⟩
theorem RowP.split {K : PySem.W.Frag} {H : Hp} : ∀ {ts : List V} {l : List (Int × Int)}, Paired (RowP K H) ts l → ∃ (ps : List Addr) (kvs : List (Key × V)), ts = ps.map V.ref ∧ Paired (fun p (kv : Key × V) => SqT K H p [kV kv.1, kv.2]) ps kvs ∧ AsP (fun v n => v = V.int n) kvs l
  | _, _, .nil => ⟨[], [], rfl, .nil, .nil⟩
  | _, _, .cons (b := r) h t => by
    obtain ⟨ps, kvs, e, a, b⟩ := RowP.split t
    obtain ⟨p, rfl, hp⟩ := h
    refine ⟨p :: ps, (Sum.inl r.1, .int r.2) :: kvs, ?_, .cons hp a, .cons ⟨rfl, rfl⟩ b⟩
    rw [e]
    rfl
theorem ofL_nodup {ds : List (Int × Dd)} (nd : (ds.map (·.1)).Nodup) : ((ofL ds).map (·.1)).Nodup := by
  unfold ofL
  rw [List.map_map]
  exact List.Nodup.sublist ((List.filter_sublist).map _) nd
theorem of_some {ds : List (Int × Dd)} (wf : WFd ds) (nd : (ds.map (·.1)).Nodup) {r : Int} (h : r ∈ rowsL ds) : ∃ x, asV (mkS ds).rows r = some x ∧ asV (ofL ds) r = some x.1 ∧ asV (lawS ds).told r = some (x.2.1, x.2.2) := by
  have L := lnk wf nd
  rw [← L.ks] at h
  obtain ⟨x, hx⟩ := Option.isSome_iff_exists.mp (asV_some.mpr h)
  refine ⟨x, hx, ?_, (L.of r x hx).2⟩
  rw [← of_eq nd]
  exact (L.of r x hx).1
theorem filter_map_len {α β : Type} {l : List α} {f : α → Bool} {v : α → β} : ((l.filter f).map v).length ≤ l.length := by
  rw [List.length_map]
  exact List.length_filter_le _ _
section
variable {P : Program} {w : World} {K : PySem.W.Frag} {mg : Str → Option Value} {base : Heap}
def sp__law_room (K : PySem.W.Frag) : Sp := fun vs H Q _ => ∃ (A : Addr) (ds : List (Int × Dd)), vs = [.ref A] ∧ LdK K H A ds ∧ ds.length ≤ 300 ∧ WFd ds ∧ (ds.map (·.1)).Nodup ∧ (roomS (mkS ds) = none → ∀ H', Same H H' → Q .non H') ∧ (∀ a b, roomS (mkS ds) = some (a, b) → ∀ H' t, Same H H' → SqT K H' t [.int a, .int b] → Q (.ref t) H')
theorem ok__law_room {f : Addr} {fd : FuncData} (F : Fun K "_law_room" "_law_room" s__law_room f fd) (T : Txt K mg) (D__law_known : Cl P w K mg base 1 "_law_known" ["_law_deeds"] (sp__law_known K)) : FnOk P w K mg base CX0 2 f fd ["_law_deeds"] (sp__law_room K) := by
  refine F.ok sc__law_room (fun vs H Q E h => ?_) (fun cdv A outer s H vs Q E hr h => ?_)
  · obtain ⟨A, ds, rfl, _⟩ := h
    rfl
  · obtain ⟨A, ds, rfl, hA, l3, wf, nd, q0, q1⟩ := h
    have L := lnk wf nd
    refine ⟨_, (pss_cons (ps_asg (pe_own D__law_known (hr.mono (by omega)) (by rfl) (pa_cons (pv 0) pa_nil)) (pg_tup (by rfl) (pgs_cons (pg_name (i := 1) sc__law_room.nd rfl (Or.inl rfl)) (pgs_cons (pg_name (i := 2) sc__law_room.nd rfl (Or.inl rfl)) pgs_nil))))
      (pss_cons (ps_if (pt_cmpR op_gt (pe_callB call_len_seq (by rfl) T.b_len (by decide +kernel) (pa_cons (pv 1) pa_nil)) pe_int (nomark _)) (pss_one (ps_ret (pe_tup (pa_cons (pe_callB call_len_seq (by rfl) T.b_len (by decide +kernel) (pa_cons (pv 1) pa_nil)) (pa_cons pe_int pa_nil))))) pss_nil)
      (pss_cons (ps_set (i := 3) sc__law_room.nd rfl (Or.inr rfl) (pe_callTy (call_dictP (by rfl)) (by rfl) T.b_dict (by decide +kernel) (pa_cons (pe_lc (own := [("_law_number", 7), ("_law_deed_here", 8)]) (g := (gTup _ 2 (gCons (gName 7) (gCons (gName 8) gNil)))) (by rfl) sc__law_room.nd (pi_list (pv 0)) (blkOk_by (own := [("_law_number", 7), ("_law_deed_here", 8)]) (N := ["_law_deeds", "_law_layers", "_law_rows", "_law_of", "_law_layer", "_law_many", "_law_moves", "_law_number", "_law_deed_here", "_law_row"]) (sc := defScope s__law_room) (by decide +kernel)) (fun _ _ _ _ _ => (pg_tup (by rfl) (pgs_cons (pg_name (i := 7) sc__law_room.nd rfl (Or.inl rfl)) (pgs_cons (pg_name (i := 8) sc__law_room.nd rfl (Or.inl rfl)) pgs_nil)))) (fun _ _ _ _ _ => (pts_one (pt_cmpR op_eq (pe_ix (r := rIxT K) ix_tup (pv 8) pe_int (fun _ _ => rfl)) pe_str (nomark _)))) (fun _ _ _ _ _ => (pe_tup (pa_cons (pv 7) (pa_cons (pe_ix (r := rIxT K) ix_tup (pv 8) pe_int (fun _ _ => rfl)) pa_nil))))) pa_nil)))
      (pss_cons (ps_for PassesOwn.never rfl (pi_list (pv 1)) (pg_name (i := 4) sc__law_room.nd rfl (Or.inr rfl))
        (pss_cons (ps_set (i := 5) sc__law_room.nd rfl (Or.inl rfl) (pe_callB call_len_seq (by rfl) T.b_len (by decide +kernel) (pa_cons (pe_lc (own := [("_law_row", 9)]) (g := (gName 9)) (by rfl) sc__law_room.nd (pi_list (pv 2)) (blkOk_by (own := [("_law_row", 9)]) (N := ["_law_deeds", "_law_layers", "_law_rows", "_law_of", "_law_layer", "_law_many", "_law_moves", "_law_number", "_law_deed_here", "_law_row"]) (sc := defScope s__law_room) (by decide +kernel)) (fun _ _ _ _ _ => (pg_name (i := 9) sc__law_room.nd rfl (Or.inl rfl))) (fun _ _ _ _ _ => (pts_one (pt_cmpR op_eq (pe_dget (Nat.lt_of_le_of_lt (Nat.add_le_add_left (show 1 ≤ 64 by decide) _) hr.units) (pv 3) (pv 9) (fun _ _ => rfl)) (pv 4) (nomark _)))) (fun _ _ _ _ _ => (pv 9))) pa_nil)))
      (pss_one (ps_if (pt_cmpR op_gt (pv 5) pe_int (nomark _)) (pss_one (ps_ret (pe_tup (pa_cons (pv 5) (pa_cons pe_int pa_nil))))) pss_nil))))
      (pss_cons (ps_set (i := 6) sc__law_room.nd rfl (Or.inl rfl) (pe_callB call_len_seq (by rfl) T.b_len (by decide +kernel) (pa_cons (pe_lc (own := [("_law_number", 7), ("_law_deed_here", 8)]) (g := (gTup _ 2 (gCons (gName 7) (gCons (gName 8) gNil)))) (by rfl) sc__law_room.nd (pi_list (pv 0)) (blkOk_by (own := [("_law_number", 7), ("_law_deed_here", 8)]) (N := ["_law_deeds", "_law_layers", "_law_rows", "_law_of", "_law_layer", "_law_many", "_law_moves", "_law_number", "_law_deed_here", "_law_row"]) (sc := defScope s__law_room) (by decide +kernel)) (fun _ _ _ _ _ => (pg_tup (by rfl) (pgs_cons (pg_name (i := 7) sc__law_room.nd rfl (Or.inl rfl)) (pgs_cons (pg_name (i := 8) sc__law_room.nd rfl (Or.inl rfl)) pgs_nil)))) (fun _ _ _ _ _ => (pts_one (pt_cmpR op_eq (pe_ix (r := rIxT K) ix_tup (pv 8) pe_int (fun _ _ => rfl)) pe_str (nomark _)))) (fun _ _ _ _ _ => (pv 7))) pa_nil)))
      (pss_one (ps_ret (pe_ifExp (pt_cmpR op_gt (pv 6) pe_int (nomark _)) (pe_tup (pa_cons (pv 6) (pa_cons pe_int pa_nil))) pe_non)))))))), ?_⟩
    refine ⟨_, rfl, A, ds, rfl, hA, l3, fun H1 t X Y s1 ht nX nY eX eY => ⟨t, _, rfl, ht, rfl, _, _, rfl, _, _, rfl, rfl, ?_⟩⟩
    obtain ⟨us, eA, pd⟩ := hA.same s1
    have ll : (layersL ds).length ≤ 300 := Nat.le_trans filter_map_len l3
    have lr : (rowsL ds).length ≤ 300 := Nat.le_trans filter_map_len l3
    refine ⟨_, rfl, X, _, rfl, .inl (.inl (.inl eX)), _, _, rfl, rfl, _, rfl, ite2 (fun h => ?_) (fun h => ?_)⟩
    · have h4 : 4 < (layersL ds).length := by
        have := of_decide_eq_true h
        rw [List.length_map] at this
        omega
      refine ⟨_, rfl, X, _, rfl, .inl (.inl (.inl eX)), (by show 2 ≤ sizeLine; decide), fun t2 nt2 => ?_⟩
      refine q1 _ _ ?_ _ t2 (s1.trans (same_upd nt2)) (.inl (.inl upd_same))
      unfold roomS
      rw [L.ly, List.length_map]
      exact if_pos h4
    have h4 : ¬ 4 < (mkS ds).layers.length := by
      rw [L.ly]
      intro z
      refine h (decide_eq_true ?_)
      rw [List.length_map]
      omega
    have er : roomS (mkS ds) = match roomL (mkS ds) (mkS ds).layers with
      | some x => some x
      | none => if 8 < (mkS ds).moves.length then some (((mkS ds).moves.length : Int), 8) else none := if_neg h4
    refine ⟨_, rfl, A, rfl, ⟨_, .inl (.inl eA)⟩, fun G hG => ?_⟩
    refine lcgen ds (fun x => decide (x.2.word = ("row" : Str))) (fun x => (x.1, num1 x.2)) (RowP K) (fun k h => RowP.keep k h) (Paired.length pd).symm (by rw [Paired.length pd]; omega) (.inl (.inl eA)) hG (fun i u x H2 R Z hu hx s2 hR hZ => ?_) (fun H2 ts s2 eG pt => ?_)
    · obtain ⟨x', hx', hn⟩ := Paired.at pd hu
      rw [hx] at hx'
      cases hx'
      obtain ⟨t3, y, rfl, ht3, py, rfl, hy⟩ := hn.keep (Same.tk s2)
      refine ⟨t3, _, rfl, ht3, rfl, _, _, rfl, _, _, rfl, rfl, rfl, _, rfl, py, _, 0, .str x.2.word, rfl, rfl, hy, at0, rfl, _, rfl, ite2 (fun e => ?_) (fun e => ?_)⟩
      · have e' : x.2.word = ("row" : Str) := V.str.inj (of_decide_eq_true e)
        exact ⟨_, rfl, _, rfl, py, _, 1, _, rfl, rfl, hy, deed1 (by rw [e']; decide +kernel), (by show 2 ≤ sizeLine; decide), fun t4 nt4 => hR (decide_eq_true e') _ _ (same_upd nt4) ⟨t4, rfl, .inl (.inl upd_same)⟩⟩
      · exact hZ (decide_eq_false fun h => e (decide_eq_true (by rw [h]))) _ (Same.refl _)
    obtain ⟨ps, kvs, rfl, pp, has⟩ := RowP.split pt
    refine ⟨G, ps, kvs, rfl, .inl (.inl eG), pp, fun O nO => ?_⟩
    have hof : AsP (fun v n => v = V.int n) (mergeK [] kvs) (ofL ds) := AsP.merge has (ofL_nodup nd)
    obtain ⟨s3, e3⟩ := new_at (.dK (mergeK [] kvs)) nO
    generalize upd H2 O (.dK (mergeK [] kvs)) = H3 at s3 e3 ⊢
    have s13 := (s2.trans s3)
    refine ⟨_, rfl, X, rfl, ⟨_, .inl (.inl (s13 _ _ eX))⟩, for_list (K := K) (a := X) (xs := (layersL ds).map V.int) (fun i σ H' => Same H3 H' ∧ (∃ y4 y5, σ = [some (.ref A), some (.ref X), some (.ref Y), some (.ref O), y4, y5, none, none, none, none]) ∧ ∀ (j : Nat) l', j < i → (mkS ds).layers[j]? = some l' → ¬ 8 < (rowsIn (mkS ds) l').length)
      ⟨Same.refl _, ⟨none, none, rfl⟩, fun j l' hj => absurd hj (Nat.not_lt_zero _)⟩ (fun i σ H' _ z => .inl (.inl (z.1 _ _ (s13 _ _ eX)))) ?_ ?_⟩
    · rintro i u σ H4 hu ⟨s4, ⟨y4, y5, rfl⟩, hb⟩
      obtain ⟨l, hl⟩ : ∃ l, (layersL ds)[i]? = some l := ⟨_, List.getElem?_eq_getElem (by have := (List.getElem?_eq_some_iff.mp hu).1; rw [List.length_map] at this; exact this)⟩
      obtain rfl := mapI_at hu hl
      have s14 := s13.trans s4
      refine ⟨_, rfl, Y, rfl, ⟨_, .inl (.inl (s14 _ _ eY))⟩, fun G2 hG2 => ?_⟩
      refine lcgen (rowsL ds) (fun r => decide (asV (ofL ds) r = some l)) (fun r => r) IntIs (fun k h => IntIs.keep k h) (by rw [List.length_map]) (by rw [List.length_map]; omega) (.inl (.inl (s14 _ _ eY))) hG2 (fun j u r H5 R Z hu hr s5 hR hZ => ?_) (fun H5 ts s5 eG2 pt2 => ?_)
      · obtain rfl := mapI_at hu hr
        obtain ⟨x, _, hx, _⟩ := of_some wf nd (List.mem_of_getElem? hr)
        obtain ⟨v', hv', rfl⟩ : ∃ v', valV (mergeK [] kvs) (Sum.inl r) = some v' ∧ v' = .int x.1 := by
          rcases AsP.val hof r with ⟨e, _⟩ | ⟨x', v', e1, e2, e3⟩
          · rw [hx] at e; cases e
          · rw [hx] at e1; cases e1; exact ⟨v', e2, e3⟩
        have hg : DGet H5 O (.int r) (some (.int x.1)) := by
          rw [← hv']
          exact DGet.k (k := Sum.inl r) (s5 _ _ (s4 _ _ e3))
        refine ⟨rfl, _, rfl, _, rfl, O, _, rfl, hg, _, rfl, rfl, _, rfl, ite2 (fun e => ?_) (fun e => ?_)⟩
        · have e' : x.1 = l := V.int.inj (of_decide_eq_true e)
          exact ⟨_, rfl, hR (decide_eq_true (by rw [hx, e'])) _ _ (Same.refl _) rfl⟩
        · exact hZ (decide_eq_false fun h => e (decide_eq_true (by rw [hx] at h; rw [Option.some.inj h]))) _ (Same.refl _)
      have et : ts = (rowsIn (mkS ds) l).map V.int := by
        rw [paired_int pt2, List.map_id', rowsIn_eq wf nd]
      rw [et] at eG2
      refine ⟨G2, _, rfl, .inl (.inl (.inl eG2)), _, rfl, _, _, rfl, rfl, _, rfl, ite2 (fun h => ?_) (fun h => ?_)⟩
      · have h8 : 8 < (rowsIn (mkS ds) l).length := by
          have := of_decide_eq_true h
          rw [List.length_map] at this
          omega
        refine ⟨_, rfl, (by show 2 ≤ sizeLine; decide), fun t2 nt2 => ?_⟩
        refine q1 _ _ ?_ _ t2 ((s1.trans (s14.trans s5)).trans (same_upd nt2)) (.inl (.inl upd_same))
        rw [er, roomL_at hb (by rw [L.ly]; exact hl) h8, List.length_map]
      · refine ⟨s4.trans s5, ⟨_, _, rfl⟩, fun j l' hj e => ?_⟩
        rcases Nat.lt_succ_iff_lt_or_eq.mp hj with hj | hj
        · exact hb j l' hj e
        · rw [hj, L.ly, hl] at e
          cases e
          intro z
          refine h (decide_eq_true ?_)
          rw [List.length_map]
          omega
    · rintro σ H4 ⟨s4, ⟨y4, y5, rfl⟩, hb⟩
      rw [List.length_map] at hb
      have s14 := s13.trans s4
      have en : roomL (mkS ds) (mkS ds).layers = none := roomL_none fun j l' e => hb j l' (by rw [L.ly] at e; exact (List.getElem?_eq_some_iff.mp e).1) e
      rw [en] at er
      refine ⟨_, rfl, A, rfl, ⟨_, .inl (.inl (s14 _ _ eA))⟩, fun G3 hG3 => ?_⟩
      refine lcfil (fun x => decide (x.2.word = ("move" : Str))) (fun x => x.1) (s14 _ _ eA) (Paired.mono pd fun _ _ => NdAt.keep (Same.tk s14)) (by omega) hG3 (fun i u x H2 R Z hu hx hn s2 hR hZ => ?_) (fun H5 s5 eG3 => ?_)
      · obtain ⟨t, y, rfl, ht, py, rfl, hy⟩ := hn
        refine ⟨t, _, rfl, ht, rfl, _, _, rfl, _, _, rfl, rfl, rfl, _, rfl, py, _, 0, .str x.2.word, rfl, rfl, hy, at0, rfl, _, rfl, ite2 (fun e => ?_) (fun e => ?_)⟩
        · have e' : x.2.word = ("move" : Str) := V.str.inj (of_decide_eq_true e)
          exact ⟨_, rfl, hR (decide_eq_true e') _ (Same.refl _)⟩
        · exact hZ (decide_eq_false fun h => e (decide_eq_true (by rw [h]))) _ (Same.refl _)
      have em : (((ds.filter fun x => decide (x.2.word = ("move" : Str))).map (·.1)).map V.int).length = (mkS ds).moves.length := by
        rw [List.length_map, moves_len]
        rfl
      have s15 := s1.trans (s14.trans s5)
      refine ⟨G3, _, rfl, .inl (.inl (.inl eG3)), _, rfl, _, _, rfl, rfl, _, rfl, ite2 (fun h => ?_) (fun h => ?_)⟩
      · refine ⟨_, rfl, (by show 2 ≤ sizeLine; decide), fun t2 nt2 => ?_⟩
        refine q1 _ _ ?_ _ t2 (s15.trans (same_upd nt2)) (.inl (.inl upd_same))
        have := of_decide_eq_true h
        rw [em] at this ⊢
        rw [er]
        exact if_pos (by omega)
      · refine q0 ?_ _ s15
        rw [er]
        refine if_neg fun z => h (decide_eq_true ?_)
        rw [em]
        omega
end

/-! ### what the law makes of deeds -/
structure MkI (K : PySem.W.Frag) (H H' : Hp) (O T B M X Y : Addr) (ds : List (Int × Dd)) (L : LS) : Prop where
  s : Same H H'
  o : ∃ ko, H' O = some (.dK ko) ∧ AsP (fun v n => v = V.int n) ko L.of
  t : ∃ kt, H' T = some (.dK kt) ∧ AsP (RowAt K H') kt L.told
  b : ∃ kb, H' B = some (.dK kb) ∧ AsP (fun v x => v = bkV x) kb L.backs
  m : ∃ ms, H' M = some (.lst ms) ∧ Paired (MoveAt K H') ms L.moves
  x : H' X = some (.lst ((layersL ds).map V.int))
  y : H' Y = some (.lst ((rowsL ds).map V.int))
structure MkN (H : Hp) (O T B M X Y : Addr) : Prop where
  nO : H O = none
  nT : H T = none
  nB : H B = none
  nM : H M = none
  ot : O ≠ T
  ob : O ≠ B
  tb : T ≠ B
  mx : M ≠ X
  my : M ≠ Y
section
variable {K : PySem.W.Frag} {H H' : Hp} {O T B M X Y : Addr} {ds : List (Int × Dd)} {L : LS}
theorem MkI.same (I : MkI K H H' O T B M X Y ds L) {H2 : Hp} (s : Same H' H2) : MkI K H H2 O T B M X Y ds L := by
  obtain ⟨s0, ⟨ko, o1, o2⟩, ⟨kt, t1, t2⟩, ⟨kb, b1, b2⟩, ⟨ms, m1, m2⟩, x, y⟩ := I
  exact ⟨s0.trans s, ⟨ko, s _ _ o1, o2⟩, ⟨kt, s _ _ t1, AsP.mono (fun _ _ => RowAt.keep (Same.tk s)) t2⟩, ⟨kb, s _ _ b1, b2⟩, ⟨ms, s _ _ m1, Paired.mono m2 fun _ _ => MoveAt.keep (Same.tk s)⟩, s _ _ x, s _ _ y⟩
theorem MkI.putO (I : MkI K H H' O T B M X Y ds L) (N : MkN H O T B M X Y) {k : List (Key × V)} {l : List (Int × Int)} (h : AsP (fun v n => v = V.int n) k l) : MkI K H (upd H' O (.dK k)) O T B M X Y ds { L with of := l } := by
  obtain ⟨s0, ⟨ko, o1, o2⟩, ⟨kt, t1, t2⟩, ⟨kb, b1, b2⟩, ⟨ms, m1, m2⟩, x, y⟩ := I
  have tk : TKeep K H' (upd H' O (.dK k)) := tk_d o1
  exact ⟨same_n s0 N.nO _, ⟨k, upd_same, h⟩, ⟨kt, by rw [upd_ne (Ne.symm N.ot)]; exact t1, AsP.mono (fun _ _ => RowAt.keep tk) t2⟩, ⟨kb, by rw [upd_ne (Ne.symm N.ob)]; exact b1, b2⟩, ⟨ms, by rw [upd_ne (ne_of m1 o1 (by intro z; cases z))]; exact m1, Paired.mono m2 fun _ _ => MoveAt.keep tk⟩, by rw [upd_ne (ne_of x o1 (by intro z; cases z))]; exact x, by rw [upd_ne (ne_of y o1 (by intro z; cases z))]; exact y⟩
theorem MkI.putT (I : MkI K H H' O T B M X Y ds L) (N : MkN H O T B M X Y) {k : List (Key × V)} {l : List (Int × RW)} (h : AsP (RowAt K H') k l) : MkI K H (upd H' T (.dK k)) O T B M X Y ds { L with told := l } := by
  obtain ⟨s0, ⟨ko, o1, o2⟩, ⟨kt, t1, t2⟩, ⟨kb, b1, b2⟩, ⟨ms, m1, m2⟩, x, y⟩ := I
  have tk : TKeep K H' (upd H' T (.dK k)) := tk_d t1
  exact ⟨same_n s0 N.nT _, ⟨ko, by rw [upd_ne N.ot]; exact o1, o2⟩, ⟨k, upd_same, AsP.mono (fun _ _ => RowAt.keep tk) h⟩, ⟨kb, by rw [upd_ne (Ne.symm N.tb)]; exact b1, b2⟩, ⟨ms, by rw [upd_ne (ne_of m1 t1 (by intro z; cases z))]; exact m1, Paired.mono m2 fun _ _ => MoveAt.keep tk⟩, by rw [upd_ne (ne_of x t1 (by intro z; cases z))]; exact x, by rw [upd_ne (ne_of y t1 (by intro z; cases z))]; exact y⟩
theorem MkI.putB (I : MkI K H H' O T B M X Y ds L) (N : MkN H O T B M X Y) {k : List (Key × V)} {l : List (Int × Option Int)} (h : AsP (fun v x => v = bkV x) k l) : MkI K H (upd H' B (.dK k)) O T B M X Y ds { L with backs := l } := by
  obtain ⟨s0, ⟨ko, o1, o2⟩, ⟨kt, t1, t2⟩, ⟨kb, b1, b2⟩, ⟨ms, m1, m2⟩, x, y⟩ := I
  have tk : TKeep K H' (upd H' B (.dK k)) := tk_d b1
  exact ⟨same_n s0 N.nB _, ⟨ko, by rw [upd_ne N.ob]; exact o1, o2⟩, ⟨kt, by rw [upd_ne N.tb]; exact t1, AsP.mono (fun _ _ => RowAt.keep tk) t2⟩, ⟨k, upd_same, h⟩, ⟨ms, by rw [upd_ne (ne_of m1 b1 (by intro z; cases z))]; exact m1, Paired.mono m2 fun _ _ => MoveAt.keep tk⟩, by rw [upd_ne (ne_of x b1 (by intro z; cases z))]; exact x, by rw [upd_ne (ne_of y b1 (by intro z; cases z))]; exact y⟩
theorem MkI.putM (I : MkI K H H' O T B M X Y ds L) (N : MkN H O T B M X Y) {ms' : List V} {l : List MV} (h : Paired (MoveAt K H') ms' l) : MkI K H (upd H' M (.lst ms')) O T B M X Y ds { L with moves := l } := by
  obtain ⟨s0, ⟨ko, o1, o2⟩, ⟨kt, t1, t2⟩, ⟨kb, b1, b2⟩, ⟨ms, m1, m2⟩, x, y⟩ := I
  have tk : TKeep K H' (upd H' M (.lst ms')) := fun a zs h => tk_updL m1 _ _ h
  exact ⟨same_n s0 N.nM _, ⟨ko, by rw [upd_ne (ne_of o1 m1 (by intro z; cases z))]; exact o1, o2⟩, ⟨kt, by rw [upd_ne (ne_of t1 m1 (by intro z; cases z))]; exact t1, AsP.mono (fun _ _ => RowAt.keep tk) t2⟩, ⟨kb, by rw [upd_ne (ne_of b1 m1 (by intro z; cases z))]; exact b1, b2⟩, ⟨ms', upd_same, Paired.mono h fun _ _ => MoveAt.keep tk⟩, by rw [upd_ne (Ne.symm N.mx)]; exact x, by rw [upd_ne (Ne.symm N.my)]; exact y⟩
end
def LS.small (L : LS) (n : Nat) : Prop := L.of.length ≤ n ∧ L.told.length ≤ n ∧ L.backs.length ≤ n ∧ L.moves.length ≤ n
theorem lfol_small {L : LS} {n : Nat} {k : Int} {δ : Dd} (h : L.small n) : (lfol L k δ).small (n + 1) := by
  obtain ⟨h1, h2, h3, h4⟩ := h
  cases δ with
  | layer => exact ⟨by show L.of.length ≤ _; omega, by show L.told.length ≤ _; omega, by show L.backs.length ≤ _; omega, by show L.moves.length ≤ _; omega⟩
  | row l d h =>
    have a := asPut_len (l := L.of) (k := k) (x := l)
    have b := asPut_len (l := L.told) (k := k) (x := (d, h))
    exact ⟨by show (asPut L.of k l).length ≤ _; omega, by show (asPut L.told k (d, h)).length ≤ _; omega, by show L.backs.length ≤ _; omega, by show L.moves.length ≤ _; omega⟩
  | draw r d =>
    show LS.small (match asV L.told r with | some x => { L with told := asPut L.told r (d, x.2) } | none => L) (n + 1)
    split
    · rename_i x _
      have b := asPut_len (l := L.told) (k := r) (x := (d, x.2))
      exact ⟨by show L.of.length ≤ _; omega, by show (asPut L.told r (d, x.2)).length ≤ _; omega, by show L.backs.length ≤ _; omega, by show L.moves.length ≤ _; omega⟩
    · exact ⟨by omega, by omega, by omega, by omega⟩
  | hold r d =>
    show LS.small (match asV L.told r with | some x => { L with told := asPut L.told r (x.1, d) } | none => L) (n + 1)
    split
    · rename_i x _
      have b := asPut_len (l := L.told) (k := r) (x := (x.1, d))
      exact ⟨by show L.of.length ≤ _; omega, by show (asPut L.told r (x.1, d)).length ≤ _; omega, by show L.backs.length ≤ _; omega, by show L.moves.length ≤ _; omega⟩
    · exact ⟨by omega, by omega, by omega, by omega⟩
  | drop r => exact ⟨by show L.of.length ≤ _; omega, by show L.told.length ≤ _; omega, by show L.backs.length ≤ _; omega, by show L.moves.length ≤ _; omega⟩
  | round r =>
    show LS.small (match asV L.of r with | some l => { L with backs := asPut L.backs l (some r) } | none => L) (n + 1)
    split
    · rename_i l _
      have b := asPut_len (l := L.backs) (k := l) (x := some r)
      exact ⟨by show L.of.length ≤ _; omega, by show L.told.length ≤ _; omega, by show (asPut L.backs l (some r)).length ≤ _; omega, by show L.moves.length ≤ _; omega⟩
    · exact ⟨by omega, by omega, by omega, by omega⟩
  | straight l =>
    have b := asPut_len (l := L.backs) (k := l) (x := (none : Option Int))
    exact ⟨by show L.of.length ≤ _; omega, by show L.told.length ≤ _; omega, by show (asPut L.backs l none).length ≤ _; omega, by show L.moves.length ≤ _; omega⟩
  | move x y m => exact ⟨by show L.of.length ≤ _; omega, by show L.told.length ≤ _; omega, by show L.backs.length ≤ _; omega, by show (L.moves ++ [(x, y, m)]).length ≤ _; rw [List.length_append]; exact Nat.succ_le_succ h4⟩
theorem lawS_small {ds : List (Int × Dd)} : ∀ i : Nat, i ≤ ds.length → (lawS (ds.take i)).small i
  | 0, _ => ⟨Nat.le_refl _, Nat.le_refl _, Nat.le_refl _, Nat.le_refl _⟩
  | i + 1, hi => by
    obtain ⟨⟨n, δ⟩, hx⟩ : ∃ x, ds[i]? = some x := ⟨_, List.getElem?_eq_getElem (by omega)⟩
    rw [List.take_add_one, hx]
    show (lawS (ds.take i ++ [(n, δ)])).small (i + 1)
    rw [lawS_snoc]
    exact lfol_small (lawS_small i (by omega))
theorem lawS_take {ds : List (Int × Dd)} {i : Nat} {n : Int} {δ : Dd} (h : ds[i]? = some (n, δ)) : lawS (ds.take (i + 1)) = lfol (lawS (ds.take i)) n δ := by
  rw [List.take_add_one, h]
  exact lawS_snoc _ _ _
theorem AsP.get {α : Type} {Pv : V → α → Prop} {kvs : List (Key × V)} {l : List (Int × α)} (h : AsP Pv kvs l) {k : Int} {x : α} (e : asV l k = some x) : ∃ v, valV kvs (Sum.inl k) = some v ∧ Pv v x := by
  rcases AsP.val h k with ⟨e1, _⟩ | ⟨x', v, e1, e2, e3⟩
  · rw [e] at e1; cases e1
  · rw [e] at e1; cases e1; exact ⟨v, e2, e3⟩

section
variable {P : Program} {w : World} {K : PySem.W.Frag} {mg : Str → Option Value} {base : Heap}
def sp__law_made (K : PySem.W.Frag) : Sp := fun vs H Q _ => ∃ (A : Addr) (ds : List (Int × Dd)), vs = [.ref A] ∧ LdK K H A ds ∧ ds.length ≤ 300 ∧ WFd ds ∧ (ds.map (·.1)).Nodup ∧ ((mkS ds).layers = [] → ∀ H', Same H H' → Q .non H') ∧ ((mkS ds).layers ≠ [] → ∀ H' v, Same H H' → ShAt K H' v (sheetS (mkS ds)) 0 0 (mkS ds).moves → Q v H')
theorem ok__law_made {f : Addr} {fd : FuncData} (F : Fun K "_law_made" "_law_made" s__law_made f fd) (T : Txt K mg) (D__law_known : Cl P w K mg base 1 "_law_known" ["_law_deeds"] (sp__law_known K)) : FnOk P w K mg base CX0 2 f fd ["_law_deeds"] (sp__law_made K) := by
  refine F.ok sc__law_made (fun vs H Q E h => ?_) (fun cdv A outer s H vs Q E hr h => ?_)
  · obtain ⟨A, ds, rfl, _⟩ := h
    rfl
  · obtain ⟨A, ds, rfl, hA, l3, wf, nd, q0, q1⟩ := h
    have L := lnk wf nd
    refine ⟨_, (pss_cons (ps_asg (pe_tup (pa_cons pe_dnewK (pa_cons pe_dnewK (pa_cons pe_dnewK pa_nil)))) (pg_tup (by rfl) (pgs_cons (pg_name (i := 1) sc__law_made.nd rfl (Or.inr rfl)) (pgs_cons (pg_name (i := 2) sc__law_made.nd rfl (Or.inr rfl)) (pgs_cons (pg_name (i := 3) sc__law_made.nd rfl (Or.inl rfl)) pgs_nil)))))
      (pss_cons (ps_asg (pe_own D__law_known (hr.mono (by omega)) (by rfl) (pa_cons (pv 0) pa_nil)) (pg_tup (by rfl) (pgs_cons (pg_name (i := 4) sc__law_made.nd rfl (Or.inl rfl)) (pgs_cons (pg_name (i := 5) sc__law_made.nd rfl (Or.inl rfl)) pgs_nil))))
      (pss_cons (ps_set (i := 6) sc__law_made.nd rfl (Or.inl rfl) (pe_lst pa_nil))
      (pss_cons (ps_for PassesOwn.never rfl (pi_list (pv 0)) (pg_tup (by rfl) (pgs_cons (pg_name (i := 7) sc__law_made.nd rfl (Or.inl rfl)) (pgs_cons (pg_name (i := 8) sc__law_made.nd rfl (Or.inl rfl)) pgs_nil)))
        (pss_one (ps_if (pt_cmpR op_eq (pe_ix ix_tup (pv 8) pe_int (fun _ _ => rfl)) pe_str (nomark _)) (pss_one (ps_asg (pe_tup (pa_cons (pe_ix ix_tup (pv 8) pe_int (fun _ _ => rfl)) (pa_cons (pe_slice sl_tupA (pv 8) (po_some pe_int) po_none) pa_nil))) (pg_tup (by rfl) (pgs_cons (pg_sub (pv 1) (pv 7) (set_dict (Nat.lt_of_le_of_lt (Nat.add_le_add_left (show 1 ≤ 64 by decide) _) hr.units))) (pgs_cons (pg_sub (pv 2) (pv 7) (set_dict (Nat.lt_of_le_of_lt (Nat.add_le_add_left (show 1 ≤ 64 by decide) _) hr.units))) pgs_nil))))) (pss_one (ps_if (pt_cmpR op_eq (pe_ix ix_tup (pv 8) pe_int (fun _ _ => rfl)) pe_str (nomark _)) (pss_one (ps_dput (Nat.lt_of_le_of_lt (Nat.add_le_add_left (show 1 ≤ 64 by decide) _) hr.units) (pv 2) (pe_ix ix_tup (pv 8) pe_int (fun _ _ => rfl)) (pe_tup (pa_cons (pe_ix ix_tup (pv 8) pe_int (fun _ _ => rfl)) (pa_cons (pe_ix ix_tup (pe_dget (Nat.lt_of_le_of_lt (Nat.add_le_add_left (show 1 ≤ 64 by decide) _) hr.units) (pv 2) (pe_ix ix_tup (pv 8) pe_int (fun _ _ => rfl)) (fun _ _ => rfl)) pe_int (fun _ _ => rfl)) pa_nil))) rfl)) (pss_one (ps_if (pt_cmpR op_eq (pe_ix ix_tup (pv 8) pe_int (fun _ _ => rfl)) pe_str (nomark _)) (pss_one (ps_dput (Nat.lt_of_le_of_lt (Nat.add_le_add_left (show 1 ≤ 64 by decide) _) hr.units) (pv 2) (pe_ix ix_tup (pv 8) pe_int (fun _ _ => rfl)) (pe_tup (pa_cons (pe_ix ix_tup (pe_dget (Nat.lt_of_le_of_lt (Nat.add_le_add_left (show 1 ≤ 64 by decide) _) hr.units) (pv 2) (pe_ix ix_tup (pv 8) pe_int (fun _ _ => rfl)) (fun _ _ => rfl)) pe_int (fun _ _ => rfl)) (pa_cons (pe_ix ix_tup (pv 8) pe_int (fun _ _ => rfl)) pa_nil))) rfl)) (pss_one (ps_if (pt_cmpR op_eq (pe_ix ix_tup (pv 8) pe_int (fun _ _ => rfl)) pe_str (nomark _)) (pss_one (ps_dput (Nat.lt_of_le_of_lt (Nat.add_le_add_left (show 1 ≤ 64 by decide) _) hr.units) (pv 3) (pe_dget (Nat.lt_of_le_of_lt (Nat.add_le_add_left (show 1 ≤ 64 by decide) _) hr.units) (pv 1) (pe_ix ix_tup (pv 8) pe_int (fun _ _ => rfl)) (fun _ _ => rfl)) (pe_ix ix_tup (pv 8) pe_int (fun _ _ => rfl)) rfl)) (pss_one (ps_if (pt_cmpR op_eq (pe_ix ix_tup (pv 8) pe_int (fun _ _ => rfl)) pe_str (nomark _)) (pss_one (ps_dput (Nat.lt_of_le_of_lt (Nat.add_le_add_left (show 1 ≤ 64 by decide) _) hr.units) (pv 3) (pe_ix ix_tup (pv 8) pe_int (fun _ _ => rfl)) pe_non rfl)) (pss_one (ps_if (pt_cmpR op_eq (pe_ix ix_tup (pv 8) pe_int (fun _ _ => rfl)) pe_str (nomark _)) (pss_one (ps_expr (pe_bm PySem.F.plainAttrs_list PySem.F.slot_list_append PySem.F.type_list_append mt_append (pv 6) (pa_cons (pe_slice sl_tupA (pv 8) (po_some pe_int) po_none) pa_nil)))) pss_nil)))))))))))))
      (pss_cons (ps_set (i := 9) sc__law_made.nd rfl (Or.inl rfl) (pe_lst pa_nil))
      (pss_cons (ps_for PassesOwn.never rfl (pi_list (pv 4)) (pg_name (i := 10) sc__law_made.nd rfl (Or.inr rfl))
        (pss_cons (ps_setLc (i := 11) (own := [("_law_row", 13)]) (g := (gName 13)) (by rfl) sc__law_made.nd rfl rfl (sw_true rfl rfl rfl (by decide +kernel)) (pi_list (pv 5)) (blkOk_by (own := [("_law_row", 13)]) (N := ["_law_deeds", "_law_of", "_law_told", "_law_backs", "_law_layers", "_law_rows", "_law_moves", "_law_number", "_law_deed_here", "_law_found", "_law_layer", "_law_some", "_law_back", "_law_row"]) (sc := defScope s__law_made) (by decide +kernel)) (fun _ _ _ _ _ => (pg_name (i := 13) sc__law_made.nd rfl (Or.inl rfl))) (fun _ _ _ _ _ => (pts_one (pt_cmpR op_eq (pe_dget (Nat.lt_of_le_of_lt (Nat.add_le_add_left (show 1 ≤ 64 by decide) _) hr.units) (pv 1) (pv 13) (fun _ _ => rfl)) (pv 10) (nomark _)))) (fun _ _ _ _ _ => (pv 13)))
      (pss_cons (ps_set (i := 12) sc__law_made.nd rfl (Or.inl rfl) (pe_dget2 (Nat.lt_of_le_of_lt (Nat.add_le_add_left (show 1 ≤ 64 by decide) _) hr.units) (pv 3) (pv 10) pe_non ⟨rfl, rfl, rfl, rfl⟩))
      (pss_one (ps_expr (pe_bm PySem.F.plainAttrs_list PySem.F.slot_list_append PySem.F.type_list_append mt_append (pv 9) (pa_cons (pe_tup (pa_cons (pe_callTy call_tuple_of (by rfl) T.b_tuple (by decide +kernel) (pa_cons (pe_lc (own := [("_law_row", 13)]) (g := (gName 13)) (tt := tYes) (by rfl) sc__law_made.nd (pi_list (pv 11)) (blkOk_by (own := [("_law_row", 13)]) (N := ["_law_deeds", "_law_of", "_law_told", "_law_backs", "_law_layers", "_law_rows", "_law_moves", "_law_number", "_law_deed_here", "_law_found", "_law_layer", "_law_some", "_law_back", "_law_row"]) (sc := defScope s__law_made) (by decide +kernel)) (fun _ _ _ _ _ => (pg_name (i := 13) sc__law_made.nd rfl (Or.inl rfl))) (fun _ _ _ _ _ => pts_nil) (fun _ _ _ _ _ => (pe_dget (Nat.lt_of_le_of_lt (Nat.add_le_add_left (show 1 ≤ 64 by decide) _) hr.units) (pv 2) (pv 13) (fun _ _ => rfl)))) pa_nil)) (pa_cons (pe_ifExp (pt_cmpR op_in_seq (pv 12) (pv 11) (by rfl)) (pe_bm PySem.F.plainAttrs_list PySem.F.slot_list_index PySem.F.type_list_index mt_index (pv 11) (pa_cons (pv 12) pa_nil)) pe_non) pa_nil))) pa_nil)))))))
      (pss_one (ps_ret (pe_ifExp (pt_cmpR (op_neD hr.units) (pv 9) (pe_lst pa_nil) (nomark _)) (pe_tup (pa_cons (pe_callTy call_tuple_of (by rfl) T.b_tuple (by decide +kernel) (pa_cons (pv 9) pa_nil)) (pa_cons (pe_tup (pa_cons pe_int (pa_cons pe_int (pa_cons (pe_callTy call_tuple_of (by rfl) T.b_tuple (by decide +kernel) (pa_cons (pv 6) pa_nil)) pa_nil)))) pa_nil))) pe_non))))))))), ?_⟩
    refine fun O nO => ?_
    obtain ⟨s1, e1⟩ := new_at (.dK []) nO
    generalize upd H O (.dK []) = H1 at s1 e1 ⊢
    refine fun T nT => ?_
    obtain ⟨s2, e2⟩ := new_at (.dK []) nT
    generalize upd H1 T (.dK []) = H2 at s2 e2 ⊢
    refine fun B nB => ?_
    obtain ⟨s3, e3⟩ := new_at (.dK []) nB
    generalize upd H2 B (.dK []) = H3 at s3 e3 ⊢
    refine ⟨(by show 3 ≤ sizeLine; decide), fun t nt => ?_⟩
    obtain ⟨s4, e4⟩ := new_at (.tup [.ref O, .ref T, .ref B]) nt
    generalize upd H3 t (.tup [.ref O, .ref T, .ref B]) = H4 at s4 e4 ⊢
    refine ⟨t, _, rfl, .inl (.inl e4), rfl, _, _, rfl, _, _, rfl, _, _, rfl, rfl, ?_⟩
    have s04 := ((s1.trans s2).trans s3).trans s4
    refine ⟨_, rfl, A, ds, rfl, hA.same s04, l3, fun H5 t X Y s5 ht nX nY eX eY => ⟨t, _, rfl, ht, rfl, _, _, rfl, _, _, rfl, rfl, ?_⟩⟩
    refine ⟨(by show 0 ≤ sizeLine; decide), fun M nM => ?_⟩
    have s05 := s04.trans s5
    have N : MkN H O T B M X Y := ⟨nO, s1.free nT, (s1.trans s2).free nB, s05.free nM, (fun z => by rw [← z, e1] at nT; cases nT), (fun z => by rw [← z, s2 _ _ e1] at nB; cases nB), (fun z => by rw [← z, e2] at nB; cases nB), (fun z => by rw [z, eX] at nM; cases nM), (fun z => by rw [z, eY] at nM; cases nM)⟩
    obtain ⟨s6, e6⟩ := new_at (.lst []) nM
    generalize upd H5 M (.lst []) = H6 at s6 e6 ⊢
    have s46 := s5.trans s6
    have s06 := s05.trans s6
    have I0 : MkI K H H6 O T B M X Y ds (lawS (ds.take 0)) := ⟨s06, ⟨[], s46 _ _ (s4 _ _ (s3 _ _ (s2 _ _ e1))), .nil⟩, ⟨[], s46 _ _ (s4 _ _ (s3 _ _ e2)), .nil⟩, ⟨[], s46 _ _ (s4 _ _ e3), .nil⟩, ⟨[], e6, .nil⟩, s6 _ _ eX, s6 _ _ eY⟩
    obtain ⟨us, eA, pd⟩ := hA
    have lu := Paired.length pd
    refine ⟨_, rfl, A, rfl, ⟨_, .inl (.inl (s06 _ _ eA))⟩, for_list (K := K) (a := A) (xs := us) (fun i σ H' => (∃ y7 y8, σ = [some (.ref A), some (.ref O), some (.ref T), some (.ref B), some (.ref X), some (.ref Y), some (.ref M), y7, y8, none, none, none, none, none]) ∧ MkI K H H' O T B M X Y ds (lawS (ds.take i)))
      ⟨⟨none, none, rfl⟩, I0⟩ (fun i σ H' _ z => .inl (.inl (z.2.s _ _ eA))) ?_ ?_⟩
    · rintro i u σ H1 hu ⟨⟨y7, y8, rfl⟩, M1⟩
      obtain ⟨⟨n, δ⟩, hx, hn⟩ := Paired.at pd hu
      have hi3 : i ≤ 300 := by have := (List.getElem?_eq_some_iff.mp hx).1; omega
      have sm := lawS_small i (Nat.le_of_lt (List.getElem?_eq_some_iff.mp hx).1)
      obtain ⟨t, y, rfl, ht, py, rfl, hy⟩ := hn.keep (Same.tk M1.s)
      refine ⟨t, _, rfl, ht, rfl, _, _, rfl, _, _, rfl, rfl, ?_⟩
      cases δ with
      | layer =>
        refine ⟨_, rfl, py, _, 0, _, rfl, rfl, hy, at0, rfl, _, rfl, ifN (sv_no (a := "layer") (b := "row") (by decide +kernel)) ?_⟩
        refine ⟨_, rfl, py, _, 0, _, rfl, rfl, hy, at0, rfl, _, rfl, ifN (sv_no (a := "layer") (b := "draw") (by decide +kernel)) ?_⟩
        refine ⟨_, rfl, py, _, 0, _, rfl, rfl, hy, at0, rfl, _, rfl, ifN (sv_no (a := "layer") (b := "hold") (by decide +kernel)) ?_⟩
        refine ⟨_, rfl, py, _, 0, _, rfl, rfl, hy, at0, rfl, _, rfl, ifN (sv_no (a := "layer") (b := "round") (by decide +kernel)) ?_⟩
        refine ⟨_, rfl, py, _, 0, _, rfl, rfl, hy, at0, rfl, _, rfl, ifN (sv_no (a := "layer") (b := "straight") (by decide +kernel)) ?_⟩
        refine ⟨_, rfl, py, _, 0, _, rfl, rfl, hy, at0, rfl, _, rfl, ifN (sv_no (a := "layer") (b := "move") (by decide +kernel)) ?_⟩
        exact ⟨⟨_, _, rfl⟩, by rw [lawS_take hx]; exact M1⟩
      | drop r =>
        refine ⟨_, rfl, py, _, 0, _, rfl, rfl, hy, at0, rfl, _, rfl, ifN (sv_no (a := "drop") (b := "row") (by decide +kernel)) ?_⟩
        refine ⟨_, rfl, py, _, 0, _, rfl, rfl, hy, at0, rfl, _, rfl, ifN (sv_no (a := "drop") (b := "draw") (by decide +kernel)) ?_⟩
        refine ⟨_, rfl, py, _, 0, _, rfl, rfl, hy, at0, rfl, _, rfl, ifN (sv_no (a := "drop") (b := "hold") (by decide +kernel)) ?_⟩
        refine ⟨_, rfl, py, _, 0, _, rfl, rfl, hy, at0, rfl, _, rfl, ifN (sv_no (a := "drop") (b := "round") (by decide +kernel)) ?_⟩
        refine ⟨_, rfl, py, _, 0, _, rfl, rfl, hy, at0, rfl, _, rfl, ifN (sv_no (a := "drop") (b := "straight") (by decide +kernel)) ?_⟩
        refine ⟨_, rfl, py, _, 0, _, rfl, rfl, hy, at0, rfl, _, rfl, ifN (sv_no (a := "drop") (b := "move") (by decide +kernel)) ?_⟩
        exact ⟨⟨_, _, rfl⟩, by rw [lawS_take hx]; exact M1⟩
      | row l d k =>
        refine ⟨_, rfl, py, _, 0, _, rfl, rfl, hy, at0, rfl, _, rfl, ifY (decide_eq_true rfl) ?_⟩
        have hy : SqT K H1 py [.str "row", .int l, .int d, .int k] := hy
        refine ⟨_, rfl, py, _, 1, .int l, rfl, rfl, hy, at_n 1 rfl, _, rfl, 2, rfl, py, _, rfl, hy, fun z => absurd z.1 (by show ¬ (2 : Nat) = 0; decide), fun _ t2 nt2 => ?_⟩
        obtain ⟨s2, e2⟩ := new_at (.tup [.int d, .int k]) nt2
        have e2' : upd H1 t2 (.tup (cutV [.str "row", .int l, .int d, .int k] (some 2) none)) t2 = some (.tup [.int d, .int k]) := e2
        have s2' : Same H1 (upd H1 t2 (.tup (cutV [.str "row", .int l, .int d, .int k] (some 2) none))) := s2
        generalize upd H1 t2 (.tup (cutV [.str "row", .int l, .int d, .int k] (some 2) none)) = H2 at s2' e2' ⊢
        refine ⟨(by show 2 ≤ sizeLine; decide), fun t3 nt3 => ?_⟩
        obtain ⟨s3, e3⟩ := new_at (.tup [.int l, .ref t2]) nt3
        generalize upd H2 t3 (.tup [.int l, .ref t2]) = H3 at s3 e3 ⊢
        have M3 := (M1.same s2').same s3
        obtain ⟨ko, o1, o2⟩ := M3.o
        obtain ⟨kt, t1, t2'⟩ := M3.t
        have lo : ko.length ≤ 300 := by rw [AsP.len o2]; exact Nat.le_trans sm.1 hi3
        have lt : kt.length ≤ 300 := by rw [AsP.len t2']; exact Nat.le_trans sm.2.1 hi3
        have M4 := M3.putO N (AsP.put o2 (k := n) (v := .int l) (x := l) rfl)
        have k4 : TKeep K H3 (upd H3 O (.dK (putK ko (Sum.inl n) (.int l)))) := tk_d o1
        obtain ⟨kt', t1', t2''⟩ := M4.t
        have ekt : kt' = kt := by
          have : upd H3 O (.dK (putK ko (Sum.inl n) (.int l))) T = some (.dK kt) := by rw [upd_ne (Ne.symm N.ot)]; exact t1
          rw [t1'] at this
          cases this
          rfl
        subst ekt
        refine ⟨t3, _, rfl, .inl (.inl e3), rfl, _, _, rfl, ⟨_, rfl, _, rfl, O, _, rfl, DPut.k (k := Sum.inl n) o1 (small1000 (by omega)), ?_⟩⟩
        refine ⟨_, _, rfl, ⟨_, rfl, _, rfl, T, _, rfl, DPut.k (k := Sum.inl n) t1' (small1000 (by omega)), ?_⟩⟩
        refine ⟨rfl, ⟨_, _, rfl⟩, ?_⟩
        rw [lawS_take hx]
        exact M4.putT N (AsP.put t2'' (k := n) (v := .ref t2) (x := (d, k)) ⟨t2, rfl, k4 _ _ (.inl (.inl (s3 _ _ e2')))⟩)
      | draw r d =>
        refine ⟨_, rfl, py, _, 0, _, rfl, rfl, hy, at0, rfl, _, rfl, ifN (sv_no (a := "draw") (b := "row") (by decide +kernel)) ?_⟩
        refine ⟨_, rfl, py, _, 0, _, rfl, rfl, hy, at0, rfl, _, rfl, ifY (decide_eq_true rfl) ?_⟩
        have hy : SqT K H1 py [.str "draw", .int r, .int d] := hy
        obtain ⟨x, hxr⟩ := Option.isSome_iff_exists.mp (show (asV (mkS (ds.take i)).rows r).isSome = true from wf i n _ hx)
        obtain ⟨o1, o2⟩ := (lnk (wf_take wf i) (take_nodup nd)).of r x hxr
        obtain ⟨kt, t1, t2'⟩ := M1.t
        have lt : kt.length ≤ 300 := by rw [AsP.len t2']; exact Nat.le_trans sm.2.1 hi3
        obtain ⟨v', hv', px, rfl, hpx⟩ := AsP.get t2' o2
        have hg : DGet H1 T (.int r) (some (.ref px)) := by rw [← hv']; exact DGet.k (k := Sum.inl r) t1
        refine ⟨_, rfl, py, _, 2, .int d, rfl, rfl, hy, at_n 2 rfl, _, rfl, _, rfl, py, _, 1, .int r, rfl, rfl, hy, at_n 1 rfl, T, _, rfl, hg, px, _, 1, _, rfl, rfl, hpx, at_n 1 rfl, (by show 2 ≤ sizeLine; decide), fun t3 nt3 => ?_⟩
        obtain ⟨s3, e3⟩ := new_at (.tup [.int d, .int x.2.2]) nt3
        generalize upd H1 t3 (.tup [.int d, .int x.2.2]) = H3 at s3 e3 ⊢
        refine ⟨_, rfl, _, rfl, py, _, 1, .int r, rfl, rfl, Same.sqT s3 hy, at_n 1 rfl, T, _, rfl, DPut.k (k := Sum.inl r) (s3 _ _ t1) (small1000 (by omega)), ⟨_, _, rfl⟩, ?_⟩
        rw [lawS_take hx, lfol_draw o2]
        exact (M1.same s3).putT N (AsP.put (AsP.mono (fun _ _ => RowAt.keep (Same.tk s3)) t2') (k := r) (v := .ref t3) (x := (d, x.2.2)) ⟨t3, rfl, .inl (.inl e3)⟩)
      | hold r d =>
        refine ⟨_, rfl, py, _, 0, _, rfl, rfl, hy, at0, rfl, _, rfl, ifN (sv_no (a := "hold") (b := "row") (by decide +kernel)) ?_⟩
        refine ⟨_, rfl, py, _, 0, _, rfl, rfl, hy, at0, rfl, _, rfl, ifN (sv_no (a := "hold") (b := "draw") (by decide +kernel)) ?_⟩
        refine ⟨_, rfl, py, _, 0, _, rfl, rfl, hy, at0, rfl, _, rfl, ifY (decide_eq_true rfl) ?_⟩
        have hy : SqT K H1 py [.str "hold", .int r, .int d] := hy
        obtain ⟨x, hxr⟩ := Option.isSome_iff_exists.mp (show (asV (mkS (ds.take i)).rows r).isSome = true from wf i n _ hx)
        obtain ⟨o1, o2⟩ := (lnk (wf_take wf i) (take_nodup nd)).of r x hxr
        obtain ⟨kt, t1, t2'⟩ := M1.t
        have lt : kt.length ≤ 300 := by rw [AsP.len t2']; exact Nat.le_trans sm.2.1 hi3
        obtain ⟨v', hv', px, rfl, hpx⟩ := AsP.get t2' o2
        have hg : DGet H1 T (.int r) (some (.ref px)) := by rw [← hv']; exact DGet.k (k := Sum.inl r) t1
        refine ⟨_, rfl, _, rfl, py, _, 1, .int r, rfl, rfl, hy, at_n 1 rfl, T, _, rfl, hg, px, _, 0, _, rfl, rfl, hpx, at0, _, rfl, py, _, 2, .int d, rfl, rfl, hy, at_n 2 rfl, (by show 2 ≤ sizeLine; decide), fun t3 nt3 => ?_⟩
        obtain ⟨s3, e3⟩ := new_at (.tup [.int x.2.1, .int d]) nt3
        generalize upd H1 t3 (.tup [.int x.2.1, .int d]) = H3 at s3 e3 ⊢
        refine ⟨_, rfl, _, rfl, py, _, 1, .int r, rfl, rfl, Same.sqT s3 hy, at_n 1 rfl, T, _, rfl, DPut.k (k := Sum.inl r) (s3 _ _ t1) (small1000 (by omega)), ⟨_, _, rfl⟩, ?_⟩
        rw [lawS_take hx, lfol_hold o2]
        exact (M1.same s3).putT N (AsP.put (AsP.mono (fun _ _ => RowAt.keep (Same.tk s3)) t2') (k := r) (v := .ref t3) (x := (x.2.1, d)) ⟨t3, rfl, .inl (.inl e3)⟩)
      | round r =>
        refine ⟨_, rfl, py, _, 0, _, rfl, rfl, hy, at0, rfl, _, rfl, ifN (sv_no (a := "round") (b := "row") (by decide +kernel)) ?_⟩
        refine ⟨_, rfl, py, _, 0, _, rfl, rfl, hy, at0, rfl, _, rfl, ifN (sv_no (a := "round") (b := "draw") (by decide +kernel)) ?_⟩
        refine ⟨_, rfl, py, _, 0, _, rfl, rfl, hy, at0, rfl, _, rfl, ifN (sv_no (a := "round") (b := "hold") (by decide +kernel)) ?_⟩
        refine ⟨_, rfl, py, _, 0, _, rfl, rfl, hy, at0, rfl, _, rfl, ifY (decide_eq_true rfl) ?_⟩
        have hy : SqT K H1 py [.str "round", .int r] := hy
        obtain ⟨x, hxr⟩ := Option.isSome_iff_exists.mp (show (asV (mkS (ds.take i)).rows r).isSome = true from wf i n _ hx)
        obtain ⟨o1, o2⟩ := (lnk (wf_take wf i) (take_nodup nd)).of r x hxr
        obtain ⟨ko, ho1, ho2⟩ := M1.o
        obtain ⟨kb, hb1, hb2⟩ := M1.b
        have lb : kb.length ≤ 300 := by rw [AsP.len hb2]; exact Nat.le_trans sm.2.2.1 hi3
        obtain ⟨v', hv', rfl⟩ := AsP.get ho2 o1
        have hg : DGet H1 O (.int r) (some (.int x.1)) := by rw [← hv']; exact DGet.k (k := Sum.inl r) ho1
        refine ⟨_, rfl, py, _, 1, .int r, rfl, rfl, hy, at_n 1 rfl, _, rfl, _, rfl, _, rfl, py, _, 1, .int r, rfl, rfl, hy, at_n 1 rfl, O, _, rfl, hg, B, _, rfl, DPut.k (k := Sum.inl x.1) hb1 (small1000 (by omega)), ⟨_, _, rfl⟩, ?_⟩
        rw [lawS_take hx, lfol_round o1]
        exact M1.putB N (AsP.put hb2 (k := x.1) (v := .int r) (x := some r) rfl)
      | straight l =>
        refine ⟨_, rfl, py, _, 0, _, rfl, rfl, hy, at0, rfl, _, rfl, ifN (sv_no (a := "straight") (b := "row") (by decide +kernel)) ?_⟩
        refine ⟨_, rfl, py, _, 0, _, rfl, rfl, hy, at0, rfl, _, rfl, ifN (sv_no (a := "straight") (b := "draw") (by decide +kernel)) ?_⟩
        refine ⟨_, rfl, py, _, 0, _, rfl, rfl, hy, at0, rfl, _, rfl, ifN (sv_no (a := "straight") (b := "hold") (by decide +kernel)) ?_⟩
        refine ⟨_, rfl, py, _, 0, _, rfl, rfl, hy, at0, rfl, _, rfl, ifN (sv_no (a := "straight") (b := "round") (by decide +kernel)) ?_⟩
        refine ⟨_, rfl, py, _, 0, _, rfl, rfl, hy, at0, rfl, _, rfl, ifY (decide_eq_true rfl) ?_⟩
        have hy : SqT K H1 py [.str "straight", .int l] := hy
        obtain ⟨kb, hb1, hb2⟩ := M1.b
        have lb : kb.length ≤ 300 := by rw [AsP.len hb2]; exact Nat.le_trans sm.2.2.1 hi3
        refine ⟨_, rfl, _, rfl, py, _, 1, .int l, rfl, rfl, hy, at_n 1 rfl, B, _, rfl, DPut.k (k := Sum.inl l) hb1 (small1000 (by omega)), ⟨_, _, rfl⟩, ?_⟩
        rw [lawS_take hx]
        exact M1.putB N (AsP.put hb2 (k := l) (v := .non) (x := none) rfl)
      | move a b c =>
        refine ⟨_, rfl, py, _, 0, _, rfl, rfl, hy, at0, rfl, _, rfl, ifN (sv_no (a := "move") (b := "row") (by decide +kernel)) ?_⟩
        refine ⟨_, rfl, py, _, 0, _, rfl, rfl, hy, at0, rfl, _, rfl, ifN (sv_no (a := "move") (b := "draw") (by decide +kernel)) ?_⟩
        refine ⟨_, rfl, py, _, 0, _, rfl, rfl, hy, at0, rfl, _, rfl, ifN (sv_no (a := "move") (b := "hold") (by decide +kernel)) ?_⟩
        refine ⟨_, rfl, py, _, 0, _, rfl, rfl, hy, at0, rfl, _, rfl, ifN (sv_no (a := "move") (b := "round") (by decide +kernel)) ?_⟩
        refine ⟨_, rfl, py, _, 0, _, rfl, rfl, hy, at0, rfl, _, rfl, ifN (sv_no (a := "move") (b := "straight") (by decide +kernel)) ?_⟩
        refine ⟨_, rfl, py, _, 0, _, rfl, rfl, hy, at0, rfl, _, rfl, ifY (decide_eq_true rfl) ?_⟩
        have hy : SqT K H1 py [.str "move", .int a, .int b, .int c] := hy
        obtain ⟨ms, hm1, hm2⟩ := M1.m
        have lm : ms.length ≤ 300 := by rw [Paired.length hm2]; exact Nat.le_trans sm.2.2.2 hi3
        refine ⟨_, rfl, .inl ⟨rfl, _, .inl (.inl hm1)⟩, _, rfl, 1, rfl, py, _, rfl, hy, fun z => absurd z.1 (by show ¬ (1 : Nat) = 0; decide), fun _ t2 nt2 => ?_⟩
        obtain ⟨s2, e2⟩ := new_at (.tup [.int a, .int b, .int c]) nt2
        have e2' : upd H1 t2 (.tup (cutV [.str "move", .int a, .int b, .int c] (some 1) none)) t2 = some (.tup [.int a, .int b, .int c]) := e2
        have s2' : Same H1 (upd H1 t2 (.tup (cutV [.str "move", .int a, .int b, .int c] (some 1) none))) := s2
        generalize upd H1 t2 (.tup (cutV [.str "move", .int a, .int b, .int c] (some 1) none)) = H2 at s2' e2' ⊢
        refine ⟨M, _, _, rfl, rfl, s2' _ _ hm1, small1000 (by omega), ⟨_, _, rfl⟩, ?_⟩
        rw [lawS_take hx]
        exact (M1.same s2').putM N (Paired.snocP (Paired.mono hm2 fun _ _ => MoveAt.keep (Same.tk s2')) ⟨t2, rfl, .inl (.inl e2')⟩)
    · rintro σ Ha ⟨⟨y7, y8, rfl⟩, Ma⟩
      rw [lu, List.take_length] at Ma
      clear I0
      obtain ⟨ko, o1, o2⟩ := Ma.o
      obtain ⟨kt, t1, t2⟩ := Ma.t
      obtain ⟨kb, b1, b2⟩ := Ma.b
      obtain ⟨ms, m1, m2⟩ := Ma.m
      have hX := Ma.x
      have hY := Ma.y
      rw [← L.bk] at b2
      rw [← L.mv] at m2
      rw [of_eq nd] at o2
      have mnd := lnk_nd wf nd
      have sA := Ma.s
      have ll : (layersL ds).length ≤ 300 := Nat.le_trans filter_map_len l3
      have lr : (rowsL ds).length ≤ 300 := Nat.le_trans filter_map_len l3
      have lsh : (sheetS (mkS ds)).length = (layersL ds).length := by unfold sheetS; rw [List.length_map, L.ly]
      refine ⟨(by show 0 ≤ sizeLine; decide), fun F nF => ?_⟩
      obtain ⟨s7, e7⟩ := new_at (.lst []) nF
      generalize upd Ha F (.lst []) = Hb at s7 e7 ⊢
      refine ⟨_, rfl, X, rfl, ⟨_, .inl (.inl (s7 _ _ hX))⟩, for_list (K := K) (a := X) (xs := (layersL ds).map V.int) (fun i σ H' => (∃ y10 y11 y12, σ = [some (.ref A), some (.ref O), some (.ref T), some (.ref B), some (.ref X), some (.ref Y), some (.ref M), y7, y8, some (.ref F), y10, y11, y12, none]) ∧ Same Ha H' ∧ ∃ fs, H' F = some (.lst fs) ∧ Paired (LyAt K H') fs ((sheetS (mkS ds)).take i))
        ⟨⟨none, none, none, rfl⟩, s7, [], e7, .nil⟩ (fun i σ H' _ z => .inl (.inl (z.2.1 _ _ hX))) ?_ ?_⟩
      · rintro i u σ H1 hu ⟨⟨y10, y11, y12, rfl⟩, s8, fs, eF, pf⟩
        obtain ⟨l, hl⟩ : ∃ l, (layersL ds)[i]? = some l := ⟨_, List.getElem?_eq_getElem (by have := (List.getElem?_eq_some_iff.mp hu).1; rw [List.length_map] at this; exact this)⟩
        obtain rfl := mapI_at hu hl
        have lf : fs.length ≤ 300 := by
          rw [Paired.length pf, List.length_take]
          omega
        refine ⟨_, rfl, Y, rfl, ⟨_, .inl (.inl (s8 _ _ hY))⟩, fun G hG => ?_⟩
        refine lcgen (rowsL ds) (fun r => decide (asV (ofL ds) r = some l)) (fun r => r) IntIs (fun k h => IntIs.keep k h) (by rw [List.length_map]) (by rw [List.length_map]; omega) (.inl (.inl (s8 _ _ hY))) hG (fun j u r H5 R Z hu hr s5 hR hZ => ?_) (fun H2 ts s9 eG pt2 => ?_)
        · obtain rfl := mapI_at hu hr
          obtain ⟨x, _, hx, _⟩ := of_some wf nd (List.mem_of_getElem? hr)
          obtain ⟨v', hv', rfl⟩ := AsP.get o2 hx
          have hg : DGet H5 O (.int r) (some (.int x.1)) := by
            rw [← hv']
            exact DGet.k (k := Sum.inl r) (s5 _ _ (s8 _ _ o1))
          refine ⟨rfl, _, rfl, _, rfl, O, _, rfl, hg, _, rfl, rfl, _, rfl, ite2 (fun e => ?_) (fun e => ?_)⟩
          · have e' : x.1 = l := V.int.inj (of_decide_eq_true e)
            exact ⟨_, rfl, hR (decide_eq_true (by rw [hx, e'])) _ _ (Same.refl _) rfl⟩
          · exact hZ (decide_eq_false fun h => e (decide_eq_true (by rw [hx] at h; rw [Option.some.inj h]))) _ (Same.refl _)
        have et : ts = (rowsIn (mkS ds) l).map V.int := by
          rw [paired_int pt2, List.map_id', rowsIn_eq wf nd]
        rw [et] at eG
        have s82 := s8.trans s9
        refine ⟨_, rfl, B, rfl, .inl ⟨_, .inl (s82 _ _ b1)⟩, _, rfl, _, DGet.k (k := Sum.inl l) (s82 _ _ b1), ?_⟩
        have eb : (valV kb (Sum.inl l)).getD .non = bkV (backS (mkS ds) l) := by
          unfold backS
          rcases AsP.val b2 l with ⟨e1, e2⟩ | ⟨x, v, e1, e2, e3⟩
          · rw [e1, e2]; rfl
          · rw [e1, e2]; exact e3
        rw [eb]
        generalize hbk : backS (mkS ds) l = bk
        refine ⟨_, rfl, .inl ⟨rfl, _, .inl (.inl (s9 _ _ eF))⟩, ?_⟩
        refine ⟨_, rfl, G, rfl, ⟨_, .inl (.inl eG)⟩, fun D hD => ?_⟩
        have lin : (rowsIn (mkS ds) l).length ≤ 300 := by
          rw [← rowsIn_eq wf nd]
          exact Nat.le_trans (List.length_filter_le _ _) lr
        refine lcnew_listR (RowAt K) (rowsOf (mkS ds) l) (fun k h => RowAt.keep k h) (by unfold rowsOf rowsIn; simp) (by rw [List.length_map]; omega) (.inl (.inl eG)) hD (fun i u m H3 R' Z hx hm s3 hR' => ?_) (fun H3 ts s3 hL pd3 => ?_)
        · obtain ⟨r, hr1, rfl, rfl⟩ : ∃ r, ((mkS ds).rows.filter fun r => decide (r.2.1 = l))[i]? = some r ∧ u = .int r.1 ∧ m = (r.2.2.1, r.2.2.2) := by
            unfold rowsIn at hx
            unfold rowsOf at hm
            rw [List.getElem?_map] at hm
            rw [List.getElem?_map, List.getElem?_map] at hx
            cases e : ((mkS ds).rows.filter fun r => decide (r.2.1 = l))[i]? with
            | none => rw [e] at hm; cases hm
            | some r =>
              rw [e] at hm hx
              exact ⟨r, rfl, (Option.some.inj hx).symm, (Option.some.inj hm).symm⟩
          have has := asV_mem mnd (List.mem_filter.mp (List.mem_of_getElem? hr1)).1
          obtain ⟨v', hv', hr'⟩ := AsP.get t2 (L.of r.1 r.2 has).2
          have hg : DGet H3 T (.int r.1) (some v') := by
            rw [← hv']
            exact DGet.k (k := Sum.inl r.1) (s3 _ _ (s82 _ _ t1))
          exact ⟨rfl, yes_ok ⟨_, rfl, _, rfl, T, _, rfl, hg, hR' _ _ (Same.refl _) (hr'.keep (Same.tk (s82.trans s3)))⟩⟩
        refine ⟨D, ts, rfl, .inl ⟨.inl (.inl hL), fun P nP => ?_⟩⟩
        obtain ⟨s4, e4⟩ := new_at (.tup ts) nP
        generalize upd H3 P (.tup ts) = H4 at s4 e4 ⊢
        have s24 := s3.trans s4
        have eX3 := s24 _ _ eG
        have s84 := s82.trans s24
        have eF4 := s24 _ _ (s9 _ _ eF)
        have nxt : ∀ (o : Option Int) p5, H4 p5 = none → backI (mkS ds) l = o → (∃ y10' y11' y12', [some (V.ref A), some (V.ref O), some (V.ref T), some (V.ref B), some (V.ref X), some (V.ref Y), some (V.ref M), y7, y8, some (V.ref F), some (V.int l), some (V.ref G), some (bkV bk), none] = [some (V.ref A), some (.ref O), some (.ref T), some (.ref B), some (.ref X), some (.ref Y), some (.ref M), y7, y8, some (.ref F), y10', y11', y12', none]) ∧ Same Ha (upd (upd H4 p5 (.tup [.ref P, bkV o])) F (.lst (fs ++ [.ref p5]))) ∧ ∃ fs', upd (upd H4 p5 (.tup [.ref P, bkV o])) F (.lst (fs ++ [.ref p5])) F = some (.lst fs') ∧ Paired (LyAt K (upd (upd H4 p5 (.tup [.ref P, bkV o])) F (.lst (fs ++ [.ref p5])))) fs' ((sheetS (mkS ds)).take (i + 1)) := fun o p5 np5 ho => by
          have s5 := same_upd (o := .tup [.ref P, bkV o]) np5
          have e5 : upd H4 p5 (.tup [.ref P, bkV o]) p5 = some (.tup [.ref P, bkV o]) := upd_same
          generalize upd H4 p5 (.tup [.ref P, bkV o]) = H5 at s5 e5 ⊢
          have k : TKeep K H5 (upd H5 F (.lst (fs ++ [.ref p5]))) := fun a zs h => tk_updL (s5 _ _ eF4) _ _ h
          refine ⟨⟨_, _, _, rfl⟩, same_n (s84.trans s5) nF _, fs ++ [.ref p5], upd_same, ?_⟩
          have hsh : (sheetS (mkS ds))[i]? = some (rowsOf (mkS ds) l, backI (mkS ds) l) := by
            unfold sheetS
            rw [List.getElem?_map, L.ly, hl]
            rfl
          rw [List.take_add_one, hsh]
          refine Paired.snocP (Paired.mono pf fun _ _ h => LyAt.keep k (LyAt.keep (Same.tk (s9.trans (s24.trans s5))) h)) (LyAt.keep k ?_)
          rw [ho]
          exact ⟨p5, _, rfl, .inl (.inl e5), P, ts, rfl, .inl (.inl (s5 _ _ e4)), Paired.mono pd3 fun _ _ h => RowAt.keep (Same.tk (s4.trans s5)) h⟩
        have fb : flatV (bkV bk) = true := by cases bk <;> rfl
        refine ⟨_, rfl, _, rfl, G, _, rfl, .inl (.inl (.inl eX3)), fb, flat_ints _, ?_⟩
        show ∃ k, V.bl (inV (bkV bk) ((rowsIn (mkS ds) l).map V.int)) = .bl k ∧ _
        cases bk with
        | none =>
          refine ⟨_, rfl, ifN (inV_non _) ⟨(by show 2 ≤ sizeLine; decide), fun p5 np5 => ?_⟩⟩
          have hbI : backI (mkS ds) l = none := by
            unfold backI
            rw [hbk]
          exact ⟨F, _, _, rfl, rfl, same_upd np5 _ _ eF4, small1000 (by omega), nxt none p5 np5 hbI⟩
        | some b =>
          have ei : inV (bkV (some b)) ((rowsIn (mkS ds) l).map V.int) = decide (b ∈ rowsIn (mkS ds) l) := inV_ints b _
          refine ⟨_, rfl, ?_⟩
          rw [ei]
          by_cases hm : b ∈ rowsIn (mkS ds) l
          · rw [decide_eq_true hm]
            refine iteT ?_
            have hlt := List.idxOf_lt_length_iff.mpr hm
            have hget : (rowsIn (mkS ds) l)[(rowsIn (mkS ds) l).idxOf b]? = some b := by
              rw [List.getElem?_eq_getElem hlt, List.getElem_idxOf hlt]
            refine ⟨_, rfl, .inl ⟨rfl, _, .inl (.inl eX3)⟩, _, rfl, G, _, _, (rowsIn (mkS ds) l).idxOf b, .int b, rfl, rfl, .inl (.inl eX3), rfl, flat_ints _, by rw [List.getElem?_map, hget]; rfl, by show (b == b) = true; simp, fun m z' hm' hz' => ?_, (by show 2 ≤ sizeLine; decide), fun p5 np5 => ?_⟩
            · rw [List.getElem?_map] at hz'
              cases e : (rowsIn (mkS ds) l)[m]? with
              | none => rw [e] at hz'; cases hz'
              | some b' =>
                rw [e] at hz'
                cases hz'
                show (b' == b) = false
                have hne : b' ≠ b := fun h => idx_before hm' (by rw [e, h])
                simpa using hne
            · have hbI : backI (mkS ds) l = some (((rowsIn (mkS ds) l).idxOf b : Nat) : Int) := by
                unfold backI
                rw [hbk]
                exact if_pos hm
              exact ⟨F, _, _, rfl, rfl, same_upd np5 _ _ eF4, small1000 (by omega), nxt _ p5 np5 hbI⟩
          · rw [decide_eq_false hm]
            refine iteF ⟨(by show 2 ≤ sizeLine; decide), fun p5 np5 => ?_⟩
            have hbI : backI (mkS ds) l = none := by
              unfold backI
              rw [hbk]
              exact if_neg hm
            exact ⟨F, _, _, rfl, rfl, same_upd np5 _ _ eF4, small1000 (by omega), nxt none p5 np5 hbI⟩
      · rintro σ H1 ⟨⟨y10, y11, y12, rfl⟩, s8, fs, eF, pf⟩
        rw [List.length_map, List.take_of_length_le (by omega)] at pf
        refine ⟨_, rfl, (by show 0 ≤ sizeLine; decide), fun E nE => ?_⟩
        obtain ⟨s2, e2⟩ := new_at (.lst []) nE
        generalize upd H1 E (.lst []) = H2 at s2 e2 ⊢
        have pf2 := Paired.mono pf fun _ _ h => LyAt.keep (Same.tk s2) h
        refine ne_data (k := 64) (d := .list ((sheetS (mkS ds)).map lyD)) (e := .list []) (.lst (.inl (.inl (s2 _ _ eF))) (dpAll_of (f := lyD) (fun _ _ h => LyAt.dp h) pf2)) (.lst (.inl (.inl e2)) .nil) ?_ ?_ (Nat.le_refl _) (fun b hb => ?_)
        · refine Sd.more (k := 5) (Sd.lst fun e he => ?_) (by decide)
          obtain ⟨x, _, rfl⟩ := List.mem_map.mp he
          exact (sd_ly x).more (by decide)
        · exact Sd.more (k := 1) (Sd.lst fun e he => by cases he) (by decide)
        refine ⟨_, rfl, ?_⟩
        by_cases hn : (mkS ds).layers = []
        · have : b = true := hb.mpr (by unfold sheetS; rw [hn]; rfl)
          rw [this]
          exact iteF (q0 hn _ (sA.trans (s8.trans s2)))
        · have : b = false := Bool.eq_false_iff.mpr fun z => hn (by
            have := hb.mp z
            injection this with this
            have := congrArg List.length this
            rw [List.length_map, lsh, ← L.ly] at this
            exact List.length_eq_zero_iff.mp this)
          rw [this]
          refine iteT ⟨_, rfl, F, fs, rfl, .inl ⟨.inl (.inl (s2 _ _ eF)), fun P nP => ?_⟩⟩
          obtain ⟨s3, e3⟩ := new_at (.tup fs) nP
          generalize upd H2 P (.tup fs) = H3 at s3 e3 ⊢
          have s83 := (s8.trans s2).trans s3
          refine ⟨_, rfl, M, ms, rfl, .inl ⟨.inl (.inl (s83 _ _ m1)), fun P2 nP2 => ?_⟩⟩
          obtain ⟨s4, e4⟩ := new_at (.tup ms) nP2
          generalize upd H3 P2 (.tup ms) = H4 at s4 e4 ⊢
          refine ⟨(by show 3 ≤ sizeLine; decide), fun P3 nP3 => ?_⟩
          obtain ⟨s5, e5⟩ := new_at (.tup [.int 0, .int 0, .ref P2]) nP3
          generalize upd H4 P3 (.tup [.int 0, .int 0, .ref P2]) = H5 at s5 e5 ⊢
          refine ⟨(by show 2 ≤ sizeLine; decide), fun P4 nP4 => ?_⟩
          obtain ⟨s6, e6⟩ := new_at (.tup [.ref P, .ref P3]) nP4
          generalize upd H5 P4 (.tup [.ref P, .ref P3]) = H6 at s6 e6 ⊢
          have s46 := s4.trans (s5.trans s6)
          exact q1 hn _ _ (sA.trans (s83.trans s46)) ⟨P4, _, _, rfl, .inl (.inl e6), ⟨P, fs, rfl, .inl (.inl (s46 _ _ e3)), Paired.mono pf2 fun _ _ h => LyAt.keep (Same.tk (s3.trans s46)) h⟩, ⟨P3, _, rfl, .inl (.inl (s6 _ _ e5)), P2, ms, rfl, .inl (.inl ((s5.trans s6) _ _ e4)), Paired.mono m2 fun _ _ h => MoveAt.keep (Same.tk (s83.trans s46)) h⟩⟩
end

theorem seqA {te : TE} {i : Nat} {u : TS} {D : Ends} {σ : L2.St} {H : Hp} (R : V → Hp → Prop) (h : ∀ Q : VK, (∀ v H', R v H' → Q v H') → te σ H Q) (k : ∀ v H', R v H' → u D (σ.set i (some v)) H') : tSeq (tAsg te (gName i)) u D σ H := h _ k
abbrev wK (s : Str) : Key := Sum.inr s
theorem dk_tbl {kvs : List (Key × V)} : ∀ ps, HO.dK kvs ≠ .tbl ps := fun ps z => by cases z
theorem ins_tbl {C dx : Addr} {fs : List (Str × V)} : ∀ ps, HO.ins C dx fs ≠ .tbl ps := fun ps z => by cases z
theorem tabs_any {T : List (Addr × Str)} {H : Hp} {D : Addr} {o o' : HO} (e : H D = some o) (h1 : ∀ ps, o ≠ .tbl ps) (h2 : ∀ c q, o ≠ LamX.CodeO c q) (h : LamX.Tabs T H) : LamX.Tabs T (upd H D o') := fun p hp => by
  obtain ⟨ps, a1, a2, a3⟩ := h p hp
  refine ⟨ps, ?_, a2, fun pos cv hc => ?_⟩
  · rw [upd_ne (fun z => by rw [z, e] at a1; exact h1 _ (Option.some.inj a1))]
    exact a1
  · obtain ⟨c0, e1, e2⟩ := a3 pos cv hc
    refine ⟨c0, e1, ?_⟩
    rw [upd_ne (fun z => by rw [z, e] at e2; exact h2 _ _ (Option.some.inj e2))]
    exact e2
theorem gx_updD {st D : Addr} {H0 H : Hp} {kvs : List (Key × V)} (g : Gx st H0 H) (n0 : H0 D = none) (nD : D ≠ st) (eD : H D = some (.dK kvs)) (k' : List (Key × V)) : Gx st H0 (upd H D (.dK k')) :=
  ⟨fun b o n z h => by rw [upd_ne (ne_of_none h n0)]; exact g.1 b o n z h, fun s => by
    obtain ⟨a, b, e, r⟩ := g.2.1 s
    exact ⟨a, b, by rw [upd_ne (Ne.symm nD)]; exact e, r⟩, fun T h => tabs_any eD dk_tbl (fun c q z => by unfold LamX.CodeO at z; cases z) (g.2.2 T h)⟩
def restK (a b c d e f g h : V) : List (Key × V) := putK (putK (putK (mergeK [] [(wK "layer", a), (wK "row", b), (wK "draw", c), (wK "hold", d), (wK "drop", e)]) (wK "round") f) (wK "straight") g) (wK "move") h
theorem sr_no {a b : Str} (h : a ≠ b) : ¬ wK a = wK b := fun z => h (Sum.inr.inj z)
theorem merge5 (a b c d e : V) : mergeK [] [(wK "layer", a), (wK "row", b), (wK "draw", c), (wK "hold", d), (wK "drop", e)] = putK (putK (putK (putK (putK [] (wK "layer") a) (wK "row") b) (wK "draw") c) (wK "hold") d) (wK "drop") e := rfl
section
variable (a b c d e f g h : V)
theorem rest_layer : valV (restK a b c d e f g h) (wK "layer") = some a := by
  unfold restK
  rw [merge5, valV_put, if_neg (sr_no (by decide +kernel)), valV_put, if_neg (sr_no (by decide +kernel)), valV_put, if_neg (sr_no (by decide +kernel)), valV_put, if_neg (sr_no (by decide +kernel)), valV_put, if_neg (sr_no (by decide +kernel)), valV_put, if_neg (sr_no (by decide +kernel)), valV_put, if_neg (sr_no (by decide +kernel)), valV_put, if_pos rfl]
theorem rest_row : valV (restK a b c d e f g h) (wK "row") = some b := by
  unfold restK
  rw [merge5, valV_put, if_neg (sr_no (by decide +kernel)), valV_put, if_neg (sr_no (by decide +kernel)), valV_put, if_neg (sr_no (by decide +kernel)), valV_put, if_neg (sr_no (by decide +kernel)), valV_put, if_neg (sr_no (by decide +kernel)), valV_put, if_neg (sr_no (by decide +kernel)), valV_put, if_pos rfl]
theorem rest_draw : valV (restK a b c d e f g h) (wK "draw") = some c := by
  unfold restK
  rw [merge5, valV_put, if_neg (sr_no (by decide +kernel)), valV_put, if_neg (sr_no (by decide +kernel)), valV_put, if_neg (sr_no (by decide +kernel)), valV_put, if_neg (sr_no (by decide +kernel)), valV_put, if_neg (sr_no (by decide +kernel)), valV_put, if_pos rfl]
theorem rest_hold : valV (restK a b c d e f g h) (wK "hold") = some d := by
  unfold restK
  rw [merge5, valV_put, if_neg (sr_no (by decide +kernel)), valV_put, if_neg (sr_no (by decide +kernel)), valV_put, if_neg (sr_no (by decide +kernel)), valV_put, if_neg (sr_no (by decide +kernel)), valV_put, if_pos rfl]
theorem rest_drop : valV (restK a b c d e f g h) (wK "drop") = some e := by
  unfold restK
  rw [merge5, valV_put, if_neg (sr_no (by decide +kernel)), valV_put, if_neg (sr_no (by decide +kernel)), valV_put, if_neg (sr_no (by decide +kernel)), valV_put, if_pos rfl]
theorem rest_round : valV (restK a b c d e f g h) (wK "round") = some f := by
  unfold restK
  rw [valV_put, if_neg (sr_no (by decide +kernel)), valV_put, if_neg (sr_no (by decide +kernel)), valV_put, if_pos rfl]
theorem rest_straight : valV (restK a b c d e f g h) (wK "straight") = some g := by
  unfold restK
  rw [valV_put, if_neg (sr_no (by decide +kernel)), valV_put, if_pos rfl]
theorem rest_move : valV (restK a b c d e f g h) (wK "move") = some h := by
  unfold restK
  rw [valV_put, if_pos rfl]
theorem putK_len {l : List (Key × V)} {k : Key} {v : V} : (putK l k v).length ≤ l.length + 1 := by
  unfold putK
  split
  · rw [List.length_map]; omega
  · rw [List.length_append]; exact Nat.le_refl _
theorem len5 : (mergeK [] [(wK "layer", a), (wK "row", b), (wK "draw", c), (wK "hold", d), (wK "drop", e)]).length ≤ 5 := by
  rw [merge5]
  have h1 := putK_len (l := []) (k := wK "layer") (v := a)
  have h2 := putK_len (l := putK [] (wK "layer") a) (k := wK "row") (v := b)
  have h3 := putK_len (l := putK (putK [] (wK "layer") a) (wK "row") b) (k := wK "draw") (v := c)
  have h4 := putK_len (l := putK (putK (putK [] (wK "layer") a) (wK "row") b) (wK "draw") c) (k := wK "hold") (v := d)
  have h5 := putK_len (l := putK (putK (putK (putK [] (wK "layer") a) (wK "row") b) (wK "draw") c) (wK "hold") d) (k := wK "drop") (v := e)
  have h0 : ([] : List (Key × V)).length = 0 := rfl
  omega
end
def IsWord (z : Str) : Prop := z = "layer" ∨ z = "row" ∨ z = "draw" ∨ z = "hold" ∨ z = "drop" ∨ z = "round" ∨ z = "straight" ∨ z = "move"
def wordsV : List V := [.str "layer", .str "row", .str "row", .str "row", .str "draw", .str "hold", .str "drop", .str "round", .str "straight", .str "move"]
theorem words_at {r : Int} (h0 : 0 ≤ r) (h1 : r < 10) : ∃ z, IsWord z ∧ atI wordsV r = some (.str z) := by
  rcases (by omega : r = 0 ∨ r = 1 ∨ r = 2 ∨ r = 3 ∨ r = 4 ∨ r = 5 ∨ r = 6 ∨ r = 7 ∨ r = 8 ∨ r = 9) with e | e | e | e | e | e | e | e | e | e <;> subst e
  · exact ⟨"layer", .inl rfl, rfl⟩
  · exact ⟨"row", .inr (.inl rfl), rfl⟩
  · exact ⟨"row", .inr (.inl rfl), rfl⟩
  · exact ⟨"row", .inr (.inl rfl), rfl⟩
  · exact ⟨"draw", .inr (.inr (.inl rfl)), rfl⟩
  · exact ⟨"hold", .inr (.inr (.inr (.inl rfl))), rfl⟩
  · exact ⟨"drop", .inr (.inr (.inr (.inr (.inl rfl)))), rfl⟩
  · exact ⟨"round", .inr (.inr (.inr (.inr (.inr (.inl rfl))))), rfl⟩
  · exact ⟨"straight", .inr (.inr (.inr (.inr (.inr (.inr (.inl rfl)))))), rfl⟩
  · exact ⟨"move", .inr (.inr (.inr (.inr (.inr (.inr (.inr rfl)))))), rfl⟩
theorem ints_at {l : List Int} {r : Int} (h0 : 0 ≤ r) (h1 : r < (l.length : Int)) : ∃ x, x ∈ l ∧ atI (l.map V.int) r = some (.int x) := by
  have hj : r.toNat < l.length := by omega
  refine ⟨l[r.toNat], List.getElem_mem hj, at_of (j := r.toNat) (by omega) ?_⟩
  rw [List.getElem?_map, List.getElem?_eq_getElem hj]
  rfl
theorem layers_pos {ds : List (Int × Dd)} (h : ∀ x ∈ ds, 0 ≤ x.1) : ∀ x ∈ layersL ds, 0 ≤ x := fun x hx => by
  obtain ⟨y, hy, rfl⟩ := List.mem_map.mp hx
  exact h y (List.mem_filter.mp hy).1
theorem rows_pos {ds : List (Int × Dd)} (h : ∀ x ∈ ds, 0 ≤ x.1) : ∀ x ∈ rowsL ds, 0 ≤ x := fun x hx => by
  obtain ⟨y, hy, rfl⟩ := List.mem_map.mp hx
  exact h y (List.mem_filter.mp hy).1
theorem ne_nil_len {l : List Int} (h : ¬ l = []) : 0 < l.length := by
  cases l with
  | nil => exact absurd rfl h
  | cons a t => exact Nat.succ_pos _
theorem ite_any {c : Bool} {Q : VK} {H : Hp} {σ : L2.St} {i j : Nat} {a b : V} (Pv : V → Prop) (k : ∀ v, Pv v → Q v H) (ha : Pv a) (hb : Pv b) (ea : σ[i]? = some (some a)) (eb : σ[j]? = some (some b)) : if c = true then tVar i σ H Q else tVar j σ H Q := by
  cases c with
  | true => exact iteT ⟨a, ea, k a ha⟩
  | false => exact iteF ⟨b, eb, k b hb⟩
section
variable {P : Program} {w : World} {K : PySem.W.Frag} {mg : Str → Option Value} {base : Heap}
def sp__law_deed (K : PySem.W.Frag) : Sp := fun vs H Q _ => ∃ (st A : Addr) (ds : List (Int × Dd)), vs = [.ref st, .ref A] ∧ IsSx H st ∧ LdK K H A ds ∧ ds.length ≤ 300 ∧ (∀ x ∈ ds, 0 ≤ x.1) ∧ ∀ H' v δ, Gx st H H' → DeedAt K H' v δ → GoodD δ → Q v H'
theorem ok__law_deed {f : Addr} {fd : FuncData} (F : Fun K "_law_deed" "_law_deed" s__law_deed f fd) (T : Txt K mg) (D__law_known : Cl P w K mg base 1 "_law_known" ["_law_deeds"] (sp__law_known K)) (D__law_take : Cl P w K mg base 1 "_law_take" ["_law_state_here", "_law_many"] (sp__law_take K)) : FnOk P w K mg base CX0 2 f fd ["_law_state_here", "_law_deeds"] (sp__law_deed K) := by
  refine F.ok sc__law_deed (fun vs H Q E h => ?_) (fun cdv A outer s H vs Q E hr h => ?_)
  · obtain ⟨st, A, ds, rfl, _⟩ := h
    rfl
  · obtain ⟨st, A, ds, rfl, hs, hA, l3, hp, q⟩ := h
    refine ⟨_, (pss_cons (ps_asg (pe_own D__law_known (hr.mono (by omega)) (by rfl) (pa_cons (pv 1) pa_nil)) (pg_tup (by rfl) (pgs_cons (pg_name (i := 2) sc__law_deed.nd rfl (Or.inl rfl)) (pgs_cons (pg_name (i := 3) sc__law_deed.nd rfl (Or.inl rfl)) pgs_nil))))
      (pss_cons (ps_set (i := 4) sc__law_deed.nd rfl (Or.inl rfl) (pe_lst (pa_cons pe_str (pa_cons pe_str (pa_cons pe_str (pa_cons pe_str (pa_cons pe_str (pa_cons pe_str (pa_cons pe_str (pa_cons pe_str (pa_cons pe_str (pa_cons pe_str pa_nil))))))))))))
      (pss_cons (ps_set (i := 5) sc__law_deed.nd rfl (Or.inl rfl) (pe_ifExp (pt_cmpR (op_neD hr.units) (pv 2) (pe_lst pa_nil) (nomark _)) (pe_ix ix_list (pv 4) (pe_own D__law_take (hr.mono (by omega)) (by rfl) (pa_cons (pv 0) (pa_cons pe_int pa_nil))) (fun _ _ => rfl)) pe_str))
      (pss_cons (ps_set (i := 6) sc__law_deed.nd rfl (Or.inl rfl) (pe_ifExp (pt_cmpR (op_neD hr.units) (pv 2) (pe_lst pa_nil) (nomark _)) (pe_ix ix_list (pe_op op_cat (pv 2) (pe_lst (pa_cons pe_int pa_nil))) (pe_own D__law_take (hr.mono (by omega)) (by rfl) (pa_cons (pv 0) (pa_cons (pe_callB call_len_seq (by rfl) T.b_len (by decide +kernel) (pa_cons (pv 2) pa_nil)) pa_nil))) (fun _ _ => rfl)) pe_int))
      (pss_cons (ps_set (i := 7) sc__law_deed.nd rfl (Or.inl rfl) (pe_ifExp (pt_cmpR (op_neD hr.units) (pv 3) (pe_lst pa_nil) (nomark _)) (pe_ix ix_list (pv 3) (pe_own D__law_take (hr.mono (by omega)) (by rfl) (pa_cons (pv 0) (pa_cons (pe_callB call_len_seq (by rfl) T.b_len (by decide +kernel) (pa_cons (pv 3) pa_nil)) pa_nil))) (fun _ _ => rfl)) (pe_own D__law_take (hr.mono (by omega)) (by rfl) (pa_cons (pv 0) (pa_cons pe_int pa_nil)))))
      (pss_cons (ps_set (i := 7) sc__law_deed.nd rfl (Or.inl rfl) (pe_ifExp (pt_cmpR op_gt (pe_own D__law_take (hr.mono (by omega)) (by rfl) (pa_cons (pv 0) (pa_cons pe_int pa_nil))) pe_int (nomark _)) (pv 7) (pe_own D__law_take (hr.mono (by omega)) (by rfl) (pa_cons (pv 0) (pa_cons pe_int pa_nil)))))
      (pss_cons (ps_par (i := 8) (j := 9) (by rfl) sc__law_deed.nd rfl rfl (by decide) rfl rfl (pa_cons (pe_own D__law_take (hr.mono (by omega)) (by rfl) (pa_cons (pv 0) (pa_cons pe_int pa_nil))) (pa_cons (pe_op op_add pe_int (pe_own D__law_take (hr.mono (by omega)) (by rfl) (pa_cons (pv 0) (pa_cons (pe_ix ix_list (pe_lst (pa_cons pe_int (pa_cons pe_int pa_nil))) (pe_own D__law_take (hr.mono (by omega)) (by rfl) (pa_cons (pv 0) (pa_cons pe_int pa_nil))) (fun _ _ => rfl)) pa_nil)))) pa_nil)) (by rfl))
      (pss_cons (ps_set (i := 10) sc__law_deed.nd rfl (Or.inl rfl) (pe_disp (pps_cons pe_str (pe_tup pa_nil) (pps_cons pe_str (pe_tup (pa_cons (pv 6) (pa_cons (pv 8) (pa_cons (pv 9) pa_nil)))) (pps_cons pe_str (pe_tup (pa_cons (pv 7) (pa_cons (pv 8) pa_nil))) (pps_cons pe_str (pe_tup (pa_cons (pv 7) (pa_cons (pv 9) pa_nil))) (pps_cons pe_str (pe_tup (pa_cons (pv 7) pa_nil)) pps_nil))))) (by rfl) (by rfl) (fun z => by cases z) (by decide)))
      (pss_cons (ps_asg (pe_tup (pa_cons (pe_tup (pa_cons (pv 7) pa_nil)) (pa_cons (pe_tup (pa_cons (pe_ifExp (pt_cmpR op_gt (pe_own D__law_take (hr.mono (by omega)) (by rfl) (pa_cons (pv 0) (pa_cons pe_int pa_nil))) pe_int (nomark _)) (pv 6) (pv 7)) pa_nil)) pa_nil))) (pg_tup (by rfl) (pgs_cons (pg_sub (pv 10) pe_str (set_dict (Nat.lt_of_le_of_lt (Nat.add_le_add_left (show 1 ≤ 64 by decide) _) hr.units))) (pgs_cons (pg_sub (pv 10) pe_str (set_dict (Nat.lt_of_le_of_lt (Nat.add_le_add_left (show 1 ≤ 64 by decide) _) hr.units))) pgs_nil))))
      (pss_cons (ps_dput (Nat.lt_of_le_of_lt (Nat.add_le_add_left (show 1 ≤ 64 by decide) _) hr.units) (pv 10) pe_str (pe_tup (pa_cons (pe_op op_sub (pe_own D__law_take (hr.mono (by omega)) (by rfl) (pa_cons (pv 0) (pa_cons pe_int pa_nil))) pe_int) (pa_cons (pe_op op_sub (pe_own D__law_take (hr.mono (by omega)) (by rfl) (pa_cons (pv 0) (pa_cons pe_int pa_nil))) pe_int) (pa_cons (pe_own D__law_take (hr.mono (by omega)) (by rfl) (pa_cons (pv 0) (pa_cons pe_int pa_nil))) pa_nil)))) rfl)
      (pss_one (ps_ret (pe_op op_catA (pe_tup (pa_cons (pv 5) pa_nil)) (pe_dget (Nat.lt_of_le_of_lt (Nat.add_le_add_left (show 1 ≤ 64 by decide) _) hr.units) (pv 10) (pv 5) (fun _ _ => rfl))))))))))))))), ?_⟩
    refine ⟨_, rfl, A, ds, rfl, hA, l3, fun H1 t X Y s1 ht nX nY eX eY => ⟨t, _, rfl, ht, rfl, _, _, rfl, _, _, rfl, rfl, ?_⟩⟩
    have ll : (layersL ds).length ≤ 300 := Nat.le_trans filter_map_len l3
    have lr : (rowsL ds).length ≤ 300 := Nat.le_trans filter_map_len l3
    have nXs := sx_ne hs nX
    have nYs := sx_ne hs nY
    dsimp only
    refine seqA (fun v H' => ∃ W, v = .ref W ∧ H1 W = none ∧ Same H1 H' ∧ H' W = some (.lst wordsV)) (fun Q' k => ⟨(by show 10 ≤ sizeLine; decide), fun W nW => k _ _ ⟨W, rfl, nW, same_upd nW, upd_same⟩⟩) (fun v H2 z => ?_)
    obtain ⟨W, rfl, nW, s2', e2'⟩ := z
    have nWs := sx_ne (gx_same (st := st) s1 |>.2.1 hs) nW
    have g2 : Gx st H H2 := gx_same (s1.trans s2')
    have hs2 := g2.2.1 hs
    have eX2 := s2' _ _ eX
    have eY2 := s2' _ _ eY
    -- the word
    refine seqA (fun v H' => Gx st H2 H' ∧ ∃ z, IsWord z ∧ v = .str z) (fun Q' k => ?_) (fun v H3 z => ?_)
    · refine ⟨_, rfl, (by show 0 ≤ sizeLine; decide), fun E nE => ne_ints (ns := layersL ds) (ms := []) (.inl (.inl (same_upd nE _ _ eX2))) (.inl (.inl upd_same)) ⟨_, rfl, ?_⟩⟩
      have gE : Gx st H2 (upd H2 E (.lst [])) := gx_same (same_upd nE)
      by_cases hn : layersL ds = []
      · rw [decide_eq_true hn]
        exact iteF (k _ _ ⟨gE, _, .inl rfl, rfl⟩)
      · rw [decide_eq_false hn]
        refine iteT ⟨_, rfl, _, rfl, st, 10, rfl, gE.2.1 hs2, by decide, by decide, fun r Ha r0 r1 ga => ?_⟩
        obtain ⟨z, hz, hat⟩ := words_at r0 r1
        exact ⟨W, _, r, _, rfl, rfl, .inl (.inl (ga.1 _ _ nWs lst_tbl (same_upd nE _ _ e2'))), hat, k _ _ ⟨gE.trans ga, z, hz, rfl⟩⟩
    obtain ⟨g3, z, hz, rfl⟩ := z
    have hs3 := g3.2.1 hs2
    -- the layer
    refine seqA (fun v H' => Gx st H3 H' ∧ ∃ l : Int, 0 ≤ l ∧ v = .int l) (fun Q' k => ?_) (fun v H4 y => ?_)
    · refine ⟨_, rfl, (by show 0 ≤ sizeLine; decide), fun E nE => ne_ints (ns := layersL ds) (ms := []) (.inl (.inl (same_upd nE _ _ (g3.1 _ _ nXs lst_tbl eX2)))) (.inl (.inl upd_same)) ⟨_, rfl, ?_⟩⟩
      have gE : Gx st H3 (upd H3 E (.lst [])) := gx_same (same_upd nE)
      have eX3 := same_upd (o := .lst []) nE _ _ (g3.1 _ _ nXs lst_tbl eX2)
      by_cases hn : layersL ds = []
      · rw [decide_eq_true hn]
        exact iteF (k _ _ ⟨gE, 0, Int.le_refl _, rfl⟩)
      · rw [decide_eq_false hn]
        refine iteT ⟨_, rfl, (by show 1 ≤ sizeLine; decide), fun N nN => ?_⟩
        obtain ⟨s5, e5⟩ := new_at (.lst [.int 99]) nN
        generalize upd (upd H3 E (.lst [])) N (.lst [.int 99]) = H5 at s5 e5 ⊢
        refine ⟨X, N, _, _, rfl, rfl, s5 _ _ eX3, e5, ?_, fun C nC => ?_⟩
        · rw [List.length_map]
          show (layersL ds).length + 1 ≤ sizeLine
          exact Nat.le_of_lt (small1000 (by omega))
        have g5 := gE.trans (gx_same (st := st) s5)
        have hs5 := g5.2.1 hs3
        have nCs := sx_ne hs5 nC
        obtain ⟨s6, e6⟩ := new_at (.lst ((layersL ds).map V.int ++ [.int 99])) nC
        generalize upd H5 C (.lst ((layersL ds).map V.int ++ [.int 99])) = H6 at s6 e6 ⊢
        have g6 := g5.trans (gx_same (st := st) s6)
        have hl0 := ne_nil_len hn
        refine ⟨_, rfl, _, rfl, X, _, rfl, .inl (.inl (.inl (s6 _ _ (s5 _ _ eX3)))), st, _, rfl, g6.2.1 hs3, by rw [List.length_map]; omega, by rw [List.length_map]; omega, fun r Ha r0 r1 ga => ?_⟩
        rw [List.length_map] at r1
        obtain ⟨x, hx, hat⟩ := ints_at (l := layersL ds ++ [99]) r0 (by rw [List.length_append]; show r < (((layersL ds).length + 1 : Nat) : Int); omega)
        have hat' : atI ((layersL ds).map V.int ++ [.int 99]) r = some (.int x) := by rw [List.map_append] at hat; exact hat
        refine ⟨C, _, r, _, rfl, rfl, .inl (.inl (ga.1 _ _ nCs lst_tbl e6)), hat', k _ _ ⟨g6.trans ga, x, ?_, rfl⟩⟩
        rcases List.mem_append.mp hx with hx | hx
        · exact layers_pos hp x hx
        · rw [List.mem_singleton.mp hx]; decide
    obtain ⟨g4, l, l0, rfl⟩ := y
    have g34 := g3.trans g4
    have hs4 := g4.2.1 hs3
    -- the row
    refine seqA (fun v H' => Gx st H4 H' ∧ ∃ l : Int, 0 ≤ l ∧ v = .int l) (fun Q' k => ?_) (fun v H5 y => ?_)
    · have eY4 := g34.1 _ _ nYs lst_tbl eY2
      refine ⟨_, rfl, (by show 0 ≤ sizeLine; decide), fun E nE => ne_ints (ns := rowsL ds) (ms := []) (.inl (.inl (same_upd nE _ _ eY4))) (.inl (.inl upd_same)) ⟨_, rfl, ?_⟩⟩
      have gE : Gx st H4 (upd H4 E (.lst [])) := gx_same (same_upd nE)
      have eY5 := same_upd (o := .lst []) nE _ _ eY4
      by_cases hn : rowsL ds = []
      · rw [decide_eq_true hn]
        exact iteF ⟨_, rfl, st, 9, rfl, gE.2.1 hs4, by decide, by decide, fun r Ha r0 r1 ga => k _ _ ⟨gE.trans ga, r, r0, rfl⟩⟩
      · rw [decide_eq_false hn]
        have hl0 := ne_nil_len hn
        refine iteT ⟨_, rfl, _, rfl, _, rfl, Y, _, rfl, .inl (.inl (.inl eY5)), st, _, rfl, gE.2.1 hs4, by rw [List.length_map]; omega, by rw [List.length_map]; omega, fun r Ha r0 r1 ga => ?_⟩
        rw [List.length_map] at r1
        obtain ⟨x, hx, hat⟩ := ints_at (l := rowsL ds) r0 r1
        exact ⟨Y, _, r, _, rfl, rfl, .inl (.inl (ga.1 _ _ nYs lst_tbl eY5)), hat, k _ _ ⟨gE.trans ga, x, rows_pos hp x hx, rfl⟩⟩
    obtain ⟨g5, r1, h1, rfl⟩ := y
    have g35 := g34.trans g5
    have hs5 := g5.2.1 hs4
    refine seqA (fun v H' => Gx st H5 H' ∧ ∃ l : Int, 0 ≤ l ∧ v = .int l) (fun Q' k => ?_) (fun v H6 y => ?_)
    · refine ⟨_, rfl, st, 9, rfl, hs5, by decide, by decide, fun r Ha r0 rr ga => ⟨_, _, rfl, rfl, _, rfl, ite2 (fun _ => ?_) (fun _ => ?_)⟩⟩
      · exact ⟨_, rfl, k _ _ ⟨ga, r1, h1, rfl⟩⟩
      · exact ⟨_, rfl, st, 30, rfl, ga.2.1 hs5, by decide, by decide, fun r' Hb r0' r1' gb => k _ _ ⟨ga.trans gb, r', r0', rfl⟩⟩
    obtain ⟨g6, rw1, hrw, rfl⟩ := y
    have g36 := g35.trans g6
    have hs6 := g6.2.1 hs5
    have gH6 := g2.trans g36
    clear g2 g3 g4 g5 g6 g34 g35 g36 hs2 hs3 hs4 hs5 eX eY eX2 eY2 ht
    refine ⟨_, rfl, st, 10, rfl, hs6, by decide, by decide, fun d H7 d0 d1 g7 => ?_⟩
    have hs7 := g7.2.1 hs6
    refine ⟨_, rfl, (by show 2 ≤ sizeLine; decide), fun p2 np2 => ?_⟩
    obtain ⟨s8, e8⟩ := new_at (.lst [.int 24, .int 3]) np2
    have np2' := sx_ne hs7 np2
    generalize upd H7 p2 (.lst [.int 24, .int 3]) = H8 at s8 e8 ⊢
    have g8 := g7.trans (gx_same (st := st) s8)
    have hs8 := g8.2.1 hs6
    refine ⟨_, rfl, st, 2, rfl, hs8, by decide, by decide, fun r9 H9 a9 b9 g9 => ?_⟩
    obtain ⟨m, m0, m1, em⟩ : ∃ m : Int, 0 < m ∧ m ≤ 24 ∧ atI [V.int 24, .int 3] r9 = some (.int m) := by
      rcases (by omega : r9 = 0 ∨ r9 = 1) with e | e <;> subst e
      · exact ⟨24, by omega, by omega, rfl⟩
      · exact ⟨3, by omega, by omega, rfl⟩
    have hs9 := g9.2.1 hs8
    refine ⟨p2, _, r9, _, rfl, rfl, .inl (.inl (g9.1 _ _ np2' lst_tbl e8)), em, st, m, rfl, hs9, m0, by omega, fun h H10 h0 h1' g10 => ?_⟩
    refine ⟨_, _, rfl, rfl, _, _, rfl, ?_⟩
    have gA : Gx st H H10 := (gH6.trans g8).trans (g9.trans g10)
    have hsA := gA.2.1 hs
    clear gH6 g7 s8 e8 np2 np2' g8 hs8 g9 hs9 g10 hs6 hs7 em
    -- the table
    refine fun D nD => ?_
    have nDs := sx_ne hsA nD
    obtain ⟨s1, e1⟩ := new_at (.dK []) nD
    generalize upd H10 D (.dK []) = H11 at s1 e1 ⊢
    refine ⟨(by show 0 ≤ sizeLine; decide), fun t0 n0 => ?_⟩
    obtain ⟨s2, e2⟩ := new_at (.tup []) n0
    generalize upd H11 t0 (.tup []) = H12 at s2 e2 ⊢
    refine ⟨_, rfl, _, rfl, _, rfl, (by show 3 ≤ sizeLine; decide), fun t1 n1 => ?_⟩
    obtain ⟨s3, e3⟩ := new_at (.tup [.int l, .int d, .int (1 + h)]) n1
    generalize upd H12 t1 (.tup [.int l, .int d, .int (1 + h)]) = H13 at s3 e3 ⊢
    refine ⟨_, rfl, _, rfl, (by show 2 ≤ sizeLine; decide), fun t2 n2 => ?_⟩
    obtain ⟨s4, e4⟩ := new_at (.tup [.int rw1, .int d]) n2
    generalize upd H13 t2 (.tup [.int rw1, .int d]) = H14 at s4 e4 ⊢
    refine ⟨_, rfl, _, rfl, (by show 2 ≤ sizeLine; decide), fun t3 n3 => ?_⟩
    obtain ⟨s5, e5⟩ := new_at (.tup [.int rw1, .int (1 + h)]) n3
    generalize upd H14 t3 (.tup [.int rw1, .int (1 + h)]) = H15 at s5 e5 ⊢
    refine ⟨_, rfl, (by show 1 ≤ sizeLine; decide), fun t4 n4 => ?_⟩
    obtain ⟨s6, e6⟩ := new_at (.tup [.int rw1]) n4
    generalize upd H15 t4 (.tup [.int rw1]) = H16 at s6 e6 ⊢
    have s56 := s5.trans s6
    have s46 := s4.trans s56
    have s36 := s3.trans s46
    have s26 := s2.trans s36
    have eD6 := s26 _ _ e1
    have g16 : Gx st H10 H16 := gx_same (s1.trans s26)
    refine ⟨eD6, [(wK "layer", .ref t0), (wK "row", .ref t1), (wK "draw", .ref t2), (wK "hold", .ref t3), (wK "drop", .ref t4)], rfl, (by show 5 ≤ 15; decide), ?_⟩
    have g17 := gx_updD g16 nD nDs eD6 (mergeK [] [(wK "layer", .ref t0), (wK "row", .ref t1), (wK "draw", .ref t2), (wK "hold", .ref t3), (wK "drop", .ref t4)])
    have k17 : TKeep K H16 (upd H16 D (.dK (mergeK [] [(wK "layer", .ref t0), (wK "row", .ref t1), (wK "draw", .ref t2), (wK "hold", .ref t3), (wK "drop", .ref t4)]))) := tk_d eD6
    have eD7 : upd H16 D (.dK (mergeK [] [(wK "layer", .ref t0), (wK "row", .ref t1), (wK "draw", .ref t2), (wK "hold", .ref t3), (wK "drop", .ref t4)])) D = some (.dK (mergeK [] [(wK "layer", .ref t0), (wK "row", .ref t1), (wK "draw", .ref t2), (wK "hold", .ref t3), (wK "drop", .ref t4)])) := upd_same
    generalize upd H16 D (.dK (mergeK [] [(wK "layer", .ref t0), (wK "row", .ref t1), (wK "draw", .ref t2), (wK "hold", .ref t3), (wK "drop", .ref t4)])) = H17 at g17 k17 eD7 ⊢
    have q0 : SqT K H17 t0 [] := k17 _ _ (.inl (.inl (s36 _ _ e2)))
    have q1 : SqT K H17 t1 [.int l, .int d, .int (1 + h)] := k17 _ _ (.inl (.inl (s46 _ _ e3)))
    have q2 : SqT K H17 t2 [.int rw1, .int d] := k17 _ _ (.inl (.inl (s56 _ _ e4)))
    have q3 : SqT K H17 t3 [.int rw1, .int (1 + h)] := k17 _ _ (.inl (.inl (s6 _ _ e5)))
    have q4 : SqT K H17 t4 [.int rw1] := k17 _ _ (.inl (.inl e6))
    have h5 := len5 (.ref t0) (.ref t1) (.ref t2) (.ref t3) (.ref t4)
    clear s1 e1 s2 e2 s3 e3 s4 e4 s5 e5 s6 e6 s56 s46 s36 s26 eD6 g16 k17 n0 n1 n2 n3 n4
    -- round and straight
    refine ⟨_, rfl, (by show 1 ≤ sizeLine; decide), fun t5 n5 => ?_⟩
    obtain ⟨s5, e5⟩ := new_at (.tup [.int rw1]) n5
    generalize upd H17 t5 (.tup [.int rw1]) = H18 at s5 e5 ⊢
    have g18 := g17.trans (gx_same (st := st) s5)
    have hs18 := g18.2.1 hsA
    refine ⟨_, rfl, st, 9, rfl, hs18, by decide, by decide, fun r H19 r0 rr g19 => ⟨_, _, rfl, rfl, _, rfl, ?_⟩⟩
    refine ite_any (fun v => ∃ x : Int, 0 ≤ x ∧ v = .int x) (fun v hv => ?_) ⟨l, l0, rfl⟩ ⟨rw1, hrw, rfl⟩ rfl rfl
    obtain ⟨x, x0, rfl⟩ := hv
    refine ⟨(by show 1 ≤ sizeLine; decide), fun t6 n6 => ?_⟩
    obtain ⟨s6, e6⟩ := new_at (.tup [.int x]) n6
    generalize upd H19 t6 (.tup [.int x]) = H20 at s6 e6 ⊢
    refine ⟨(by show 2 ≤ sizeLine; decide), fun t7 n7 => ?_⟩
    obtain ⟨s7, e7⟩ := new_at (.tup [.ref t5, .ref t6]) n7
    generalize upd H20 t7 (.tup [.ref t5, .ref t6]) = H21 at s7 e7 ⊢
    have k18 : TKeep K H17 H18 := Same.tk s5
    have k19 : TKeep K H18 H19 := g19.tk hs18
    have k21 : TKeep K H19 H21 := Same.tk (s6.trans s7)
    have k1 : TKeep K H17 H21 := fun a zs hz => k21 a zs (k19 a zs (k18 a zs hz))
    have g20 := g19.trans (gx_same (st := st) (s6.trans s7))
    have g21 := g18.trans g20
    have eD21 := g20.1 _ _ nDs dk_tbl (s5 _ _ eD7)
    have q5 : SqT K H21 t5 [.int rw1] := k21 _ _ (k19 _ _ (.inl (.inl e5)))
    have q6 : SqT K H21 t6 [.int x] := .inl (.inl (s7 _ _ e6))
    have hs21 := g21.2.1 hsA
    replace q0 := k1 _ _ q0
    replace q1 := k1 _ _ q1
    replace q2 := k1 _ _ q2
    replace q3 := k1 _ _ q3
    replace q4 := k1 _ _ q4
    clear g17 eD7 s5 e5 g18 hs18 g19 s6 e6 s7 k18 k19 k21 k1 g20 n5 n6 n7
    generalize hM : mergeK [] [(wK "layer", V.ref t0), (wK "row", .ref t1), (wK "draw", .ref t2), (wK "hold", .ref t3), (wK "drop", .ref t4)] = M0 at eD21 h5
    have l6 := putK_len (l := M0) (k := wK "round") (v := .ref t5)
    have l7 := putK_len (l := putK M0 (wK "round") (.ref t5)) (k := wK "straight") (v := .ref t6)
    refine ⟨t7, _, rfl, .inl (.inl e7), rfl, _, _, rfl, ⟨_, rfl, D, _, rfl, DPut.k (k := wK "round") eD21 (small1000 (by omega)), ?_⟩⟩
    refine ⟨_, _, rfl, ⟨_, rfl, D, _, rfl, DPut.k (k := wK "straight") upd_same (small1000 (by omega)), rfl, ?_⟩⟩
    have g22 := gx_updD g21 nD nDs eD21 (putK M0 (wK "round") (.ref t5))
    have g23 := gx_updD g22 nD nDs upd_same (putK (putK M0 (wK "round") (.ref t5)) (wK "straight") (.ref t6))
    have k23 : TKeep K H21 (upd (upd H21 D (.dK (putK M0 (wK "round") (.ref t5)))) D (.dK (putK (putK M0 (wK "round") (.ref t5)) (wK "straight") (.ref t6)))) := fun a zs hz => tk_d upd_same a zs (tk_d eD21 a zs hz)
    have eD23 : upd (upd H21 D (.dK (putK M0 (wK "round") (.ref t5)))) D (.dK (putK (putK M0 (wK "round") (.ref t5)) (wK "straight") (.ref t6))) D = some (.dK (putK (putK M0 (wK "round") (.ref t5)) (wK "straight") (.ref t6))) := upd_same
    generalize upd (upd H21 D (.dK (putK M0 (wK "round") (.ref t5)))) D (.dK (putK (putK M0 (wK "round") (.ref t5)) (wK "straight") (.ref t6))) = H23 at g23 k23 eD23 ⊢
    have hs23 := g23.2.1 hsA
    -- move
    refine ⟨_, rfl, st, 41, rfl, hs23, by decide, by decide, fun a Ha a0 a1 ga => ⟨_, _, rfl, rfl, ?_⟩⟩
    have hsa := ga.2.1 hs23
    refine ⟨_, rfl, st, 41, rfl, hsa, by decide, by decide, fun b Hb b0 b1 gb => ⟨_, _, rfl, rfl, ?_⟩⟩
    have hsb := gb.2.1 hsa
    refine ⟨_, rfl, st, 25, rfl, hsb, by decide, by decide, fun c Hc c0 c1 gc => ?_⟩
    refine ⟨(by show 3 ≤ sizeLine; decide), fun t8 n8 => ?_⟩
    obtain ⟨s8, e8⟩ := new_at (.tup [.int (a - 20), .int (b - 20), .int c]) n8
    generalize upd Hc t8 (.tup [.int (a - 20), .int (b - 20), .int c]) = H24 at s8 e8 ⊢
    have g24 := (ga.trans gb).trans (gc.trans (gx_same (st := st) s8))
    have k24 : TKeep K H23 H24 := g24.tk hs23
    have eD24 := g24.1 _ _ nDs dk_tbl eD23
    have g25 := gx_updD (g23.trans g24) nD nDs eD24 (putK (putK (putK M0 (wK "round") (.ref t5)) (wK "straight") (.ref t6)) (wK "move") (.ref t8))
    refine ⟨_, rfl, D, _, rfl, DPut.k (k := wK "move") eD24 (small1000 (by omega)), ?_⟩
    have k25 : TKeep K H24 (upd H24 D (.dK (putK (putK (putK M0 (wK "round") (.ref t5)) (wK "straight") (.ref t6)) (wK "move") (.ref t8)))) := tk_d eD24
    have eD25 : upd H24 D (.dK (putK (putK (putK M0 (wK "round") (.ref t5)) (wK "straight") (.ref t6)) (wK "move") (.ref t8))) D = some (.dK (restK (.ref t0) (.ref t1) (.ref t2) (.ref t3) (.ref t4) (.ref t5) (.ref t6) (.ref t8))) := by rw [upd_same, ← hM]; rfl
    generalize upd H24 D (.dK (putK (putK (putK M0 (wK "round") (.ref t5)) (wK "straight") (.ref t6)) (wK "move") (.ref t8))) = H25 at g25 k25 eD25 ⊢
    have k : TKeep K H21 H25 := fun a zs hz => k25 a zs (k24 a zs (k23 a zs hz))
    refine ⟨_, rfl, (by show 1 ≤ sizeLine; decide), fun t9 n9 => ?_⟩
    obtain ⟨s9, e9⟩ := new_at (.tup [.str z]) n9
    generalize upd H25 t9 (.tup [.str z]) = H26 at s9 e9 ⊢
    have kF : TKeep K H21 H26 := fun a zs hz => Same.tk s9 a zs (k a zs hz)
    have gF : Gx st H H26 := gA.trans (g25.trans (gx_same s9))
    have eDF := s9 _ _ eD25
    have fin : ∀ (t : Addr) (δ : Dd), valV (restK (.ref t0) (.ref t1) (.ref t2) (.ref t3) (.ref t4) (.ref t5) (.ref t6) (.ref t8)) (wK z) = some (.ref t) → δ.word = z → SqT K H26 t (δ.nums.map V.int) → GoodD δ → δ.nums.length ≤ 3 → DGet H26 D (.str z) (some (.ref t)) ∧ rCatA K (.ref t9) (.ref t) H26 Q := fun t δ hv hw hq hg hl => by
      refine ⟨by rw [← hv]; exact DGet.k (k := wK z) eDF, t9, t, _, _, rfl, rfl, .inl (.inl e9), hq, ?_, (fun z => by cases z), fun _ he => ?_, fun _ _ p np => ?_⟩
      · rw [List.length_map]
        exact Nat.le_of_lt (small1000 (by show 1 + δ.nums.length ≤ 1000; omega))
      · refine q _ _ δ gF ⟨t9, rfl, ?_⟩ hg
        unfold ddV
        rw [he, hw]
        exact .inl (.inl e9)
      · refine q _ _ δ (gF.trans (gx_same (same_upd np))) ⟨p, rfl, ?_⟩ hg
        unfold ddV
        rw [hw]
        exact .inl (.inl upd_same)
    rcases hz with e | e | e | e | e | e | e | e <;> subst e
    · obtain ⟨f1, f2⟩ := fin t0 .layer (rest_layer _ _ _ _ _ _ _ _) rfl (kF _ _ q0) trivial (by decide)
      exact ⟨_, rfl, _, rfl, D, _, rfl, f1, f2⟩
    · obtain ⟨f1, f2⟩ := fin t1 (.row l d (1 + h)) (rest_row _ _ _ _ _ _ _ _) rfl (kF _ _ q1) ⟨l0, ⟨d0, by omega⟩, by omega, by omega⟩ (Nat.le_refl _)
      exact ⟨_, rfl, _, rfl, D, _, rfl, f1, f2⟩
    · obtain ⟨f1, f2⟩ := fin t2 (.draw rw1 d) (rest_draw _ _ _ _ _ _ _ _) rfl (kF _ _ q2) ⟨hrw, d0, by omega⟩ (by show 2 ≤ 3; decide)
      exact ⟨_, rfl, _, rfl, D, _, rfl, f1, f2⟩
    · obtain ⟨f1, f2⟩ := fin t3 (.hold rw1 (1 + h)) (rest_hold _ _ _ _ _ _ _ _) rfl (kF _ _ q3) ⟨hrw, by omega, by omega⟩ (by show 2 ≤ 3; decide)
      exact ⟨_, rfl, _, rfl, D, _, rfl, f1, f2⟩
    · obtain ⟨f1, f2⟩ := fin t4 (.drop rw1) (rest_drop _ _ _ _ _ _ _ _) rfl (kF _ _ q4) hrw (by show 1 ≤ 3; decide)
      exact ⟨_, rfl, _, rfl, D, _, rfl, f1, f2⟩
    · obtain ⟨f1, f2⟩ := fin t5 (.round rw1) (rest_round _ _ _ _ _ _ _ _) rfl (kF _ _ q5) hrw (by show 1 ≤ 3; decide)
      exact ⟨_, rfl, _, rfl, D, _, rfl, f1, f2⟩
    · obtain ⟨f1, f2⟩ := fin t6 (.straight x) (rest_straight _ _ _ _ _ _ _ _) rfl (kF _ _ q6) x0 (by show 1 ≤ 3; decide)
      exact ⟨_, rfl, _, rfl, D, _, rfl, f1, f2⟩
    · obtain ⟨f1, f2⟩ := fin t8 (.move (a - 20) (b - 20) c) (rest_move _ _ _ _ _ _ _ _) rfl (Same.tk s9 _ _ (k25 _ _ (.inl (.inl e8)))) ⟨⟨by omega, by omega⟩, ⟨by omega, by omega⟩, c0, by omega⟩ (Nat.le_refl _)
      exact ⟨_, rfl, _, rfl, D, _, rfl, f1, f2⟩
end

/-! ### what is due -/
inductive Out where
  | ref : Int → Out
  | many : Int → Int → Out
  | lean : List Int → Out
  | num : Int → Out
  | nil : Out
deriving DecidableEq
def Out.w : Out → Str
  | .ref _ => "refused"
  | .many _ _ => "many"
  | .lean _ => "leaned"
  | .num _ => "told"
  | .nil => "told"
def Out.x : Out → PyData
  | .ref i => .int i
  | .many a b => .tuple [.int a, .int b]
  | .lean ns => .tuple (ns.map .int)
  | .num n => .int n
  | .nil => .none
def Out.d (o : Out) : PyData := .tuple [.str o.w, o.x]
theorem Out.sd (o : Out) : Sd 2 o.d := Sd.tup fun e he => by
  rcases mem2 he with rfl | rfl
  · cases o with
    | ref i => exact (show Sd 1 (.str "refused") from Sd.st (by decide +kernel))
    | many a b => exact (show Sd 1 (.str "many") from Sd.st (by decide +kernel))
    | lean ns => exact (show Sd 1 (.str "leaned") from Sd.st (by decide +kernel))
    | num n => exact (show Sd 1 (.str "told") from Sd.st (by decide +kernel))
    | nil => exact (show Sd 1 (.str "told") from Sd.st (by decide +kernel))
  · cases o with
    | ref i => exact Sd.int i
    | many a b => exact Sd.tup fun z hz => by rcases mem2 hz with rfl | rfl <;> exact Sd.int _
    | lean ns => exact Sd.intsT
    | num n => exact Sd.int n
    | nil => exact Sd.none
def DueAt (K : PySem.W.Frag) (H : Hp) (v : V) (o : Out) : Prop := ∃ u x, v = .ref u ∧ SqT K H u [.str o.w, x] ∧ Dk K H x o.x
theorem DueAt.keep {K : PySem.W.Frag} {H H' : Hp} {v : V} {o : Out} (k : TKeep K H H') (h : DueAt K H v o) : DueAt K H' v o := by
  obtain ⟨u, x, e, h1, h2⟩ := h
  exact ⟨u, x, e, k _ _ h1, h2.keep k⟩
theorem DueAt.dp {K : PySem.W.Frag} {H : Hp} {v : V} {o : Out} (h : DueAt K H v o) : Dp K H v o.d := by
  obtain ⟨u, x, rfl, h1, h2⟩ := h
  exact .tup h1 (.cons (.str _) (.cons h2.dp .nil))
theorem dk_int {K : PySem.W.Frag} {H : Hp} {n : Int} : Dk K H (.int n) (.int n) := fun _ _ => .int n
theorem dk_non {K : PySem.W.Frag} {H : Hp} : Dk K H .non .none := fun _ _ => .non
theorem dk_ints {K : PySem.W.Frag} {H : Hp} {t : Addr} {ns : List Int} (h : SqT K H t (ns.map V.int)) : Dk K H (.ref t) (.tuple (ns.map .int)) := fun _ k => .tup (k _ _ h) (ints_dp _)
theorem dk_two {K : PySem.W.Frag} {H : Hp} {t : Addr} {a b : Int} (h : SqT K H t [.int a, .int b]) : Dk K H (.ref t) (.tuple [.int a, .int b]) := fun _ k => .tup (k _ _ h) (.cons (.int a) (.cons (.int b) .nil))
/-- the law's word on a deed put, and what then stands -/
def putO (ds : List (Int × Dd)) (n : Int) (δ : Dd) : Out := if fitsL ds δ = true then (match roomS (mkS (ds ++ [(n, δ)])) with | some x => .many x.1 x.2 | none => .num n) else .ref 11
def putS (ds : List (Int × Dd)) (n : Int) (δ : Dd) : List (Int × Dd) := if fitsL ds δ = true ∧ roomS (mkS (ds ++ [(n, δ)])) = none then ds ++ [(n, δ)] else ds
def keyB (ds : List (Int × Dd)) (d : PyData) : Bool := match d with
  | .int n => decide (n ∈ ds.map (·.1))
  | _ => false
def intD (d : PyData) : Int := match d with
  | .int n => n
  | _ => 0
def undO (ds : List (Int × Dd)) (d : PyData) : Out := if keyB ds d = true then (if leanL ds (intD d) = [] then (match roomS (mkS (asDrop ds (intD d))) with | some x => .many x.1 x.2 | none => .nil) else .lean (leanL ds (intD d))) else .ref 5
def undS (ds : List (Int × Dd)) (d : PyData) : List (Int × Dd) := if keyB ds d = true ∧ leanL ds (intD d) = [] ∧ roomS (mkS (asDrop ds (intD d))) = none then asDrop ds (intD d) else ds
theorem nd_snoc {ds : List (Int × Dd)} {n : Int} {δ : Dd} (nd : (ds.map (·.1)).Nodup) (h : n ∉ ds.map (·.1)) : ((ds ++ [(n, δ)]).map (·.1)).Nodup := by
  rw [List.map_append, List.nodup_append]
  refine ⟨nd, by simp, fun a ha b hb => ?_⟩
  rw [List.mem_singleton.mp hb]
  intro z
  rw [z] at ha
  exact h ha
theorem LdK.snoc {K : PySem.W.Frag} {H : Hp} {us : List V} {ds : List (Int × Dd)} (pd : Paired (NdAt K H) us ds) {C t : Addr} {v : V} {n : Int} {δ : Dd} (e : H C = some (.lst (us ++ [.ref t]))) (ht : SqT K H t [.int n, v]) (hv : DeedAt K H v δ) : LdK K H C (ds ++ [(n, δ)]) := ⟨_, e, Paired.snocP pd ⟨t, v, rfl, ht, hv⟩⟩
section
variable {P : Program} {w : World} {K : PySem.W.Frag} {mg : Str → Option Value} {base : Heap}
def sp__law_put (K : PySem.W.Frag) : Sp := fun vs H Q _ => ∃ (A : Addr) (ds : List (Int × Dd)) (n : Int) (v : V) (δ : Dd), vs = [.ref A, .int n, v] ∧ LdK K H A ds ∧ ds.length ≤ 299 ∧ WFd ds ∧ (ds.map (·.1)).Nodup ∧ n ∉ ds.map (·.1) ∧ DeedAt K H v δ ∧
  ∀ H' t u A', Same H H' → SqT K H' t [u, .ref A'] → DueAt K H' u (putO ds n δ) → (A' = A ∨ H A' = none) → LdK K H' A' (putS ds n δ) → Q (.ref t) H'
theorem ok__law_put {f : Addr} {fd : FuncData} (F : Fun K "_law_put" "_law_put" s__law_put f fd) (T : Txt K mg) (D__law_fits : Cl P w K mg base 2 "_law_fits" ["_law_deeds", "_law_deed_here"] (sp__law_fits K)) (D__law_room : Cl P w K mg base 2 "_law_room" ["_law_deeds"] (sp__law_room K)) : FnOk P w K mg base CX0 3 f fd ["_law_deeds", "_law_number", "_law_deed_here"] (sp__law_put K) := by
  refine F.ok sc__law_put (fun vs H Q E h => ?_) (fun cdv A outer s H vs Q E hr h => ?_)
  · obtain ⟨A, ds, n, v, δ, rfl, _⟩ := h
    rfl
  · obtain ⟨A, ds, n, v, δ, rfl, hA, l3, wf, nd, hn, hv, q⟩ := h
    have L := lnk wf nd
    refine ⟨_, (pss_cons (ps_if (pt_not (pt_val (pe_own D__law_fits (hr.mono (by omega)) (by rfl) (pa_cons (pv 0) (pa_cons (pv 2) pa_nil))))) (pss_one (ps_ret (pe_tup (pa_cons (pe_tup (pa_cons pe_str (pa_cons pe_int pa_nil))) (pa_cons (pv 0) pa_nil))))) pss_nil)
      (pss_cons (ps_set (i := 3) sc__law_put.nd rfl (Or.inl rfl) (pe_op op_cat (pv 0) (pe_lst (pa_cons (pe_tup (pa_cons (pv 1) (pa_cons (pv 2) pa_nil))) pa_nil))))
      (pss_cons (ps_set (i := 4) sc__law_put.nd rfl (Or.inl rfl) (pe_own D__law_room (hr.mono (by omega)) (by rfl) (pa_cons (pv 3) pa_nil)))
      (pss_cons (ps_if (pt_cmpR op_notN (pv 4) pe_non (nomark _)) (pss_one (ps_ret (pe_tup (pa_cons (pe_tup (pa_cons pe_str (pa_cons (pv 4) pa_nil))) (pa_cons (pv 0) pa_nil))))) pss_nil)
      (pss_one (ps_ret (pe_tup (pa_cons (pe_tup (pa_cons pe_str (pa_cons (pv 1) pa_nil))) (pa_cons (pv 3) pa_nil))))))))), ?_⟩
    refine ⟨_, rfl, _, rfl, A, ds, v, δ, rfl, hA, by omega, hv, fun H1 s1 => ⟨_, rfl, ?_⟩⟩
    cases hf : fitsL ds δ with
    | false =>
      refine iteT ⟨(by show 2 ≤ sizeLine; decide), fun t1 n1 => ?_⟩
      obtain ⟨s2, e2⟩ := new_at (.tup [.str "refused", .int 11]) n1
      generalize upd H1 t1 (.tup [.str "refused", .int 11]) = H2 at s2 e2 ⊢
      refine ⟨_, rfl, (by show 2 ≤ sizeLine; decide), fun t2 n2 => ?_⟩
      have s3 := same_upd (o := .tup [.ref t1, .ref A]) n2
      have eo : putO ds n δ = .ref 11 := if_neg (by rw [hf]; decide)
      have es : putS ds n δ = ds := if_neg fun z => by rw [hf] at z; exact absurd z.1 (by decide)
      refine q _ t2 (.ref t1) A ((s1.trans s2).trans s3) (.inl (.inl upd_same)) ?_ (.inl rfl) ?_
      · rw [eo]
        exact ⟨t1, _, rfl, .inl (.inl (s3 _ _ e2)), dk_int⟩
      · rw [es]
        exact hA.same ((s1.trans s2).trans s3)
    | true =>
    refine iteF ⟨_, rfl, _, rfl, _, rfl, (by show 2 ≤ sizeLine; decide), fun t1 n1 => ?_⟩
    obtain ⟨s2, e2⟩ := new_at (.tup [.int n, v]) n1
    generalize upd H1 t1 (.tup [.int n, v]) = H2 at s2 e2 ⊢
    refine ⟨(by show 1 ≤ sizeLine; decide), fun N nN => ?_⟩
    obtain ⟨s3, e3⟩ := new_at (.lst [.ref t1]) nN
    generalize upd H2 N (.lst [.ref t1]) = H3 at s3 e3 ⊢
    have s13 := (s1.trans s2).trans s3
    obtain ⟨us, eA, pd⟩ := hA.same s13
    refine ⟨A, N, _, _, rfl, rfl, eA, e3, Nat.le_of_lt (small1000 (by rw [Paired.length pd]; show ds.length + 1 ≤ 1000; omega)), fun C nC => ?_⟩
    obtain ⟨s4, e4⟩ := new_at (.lst (us ++ [.ref t1])) nC
    generalize upd H3 C (.lst (us ++ [.ref t1])) = H4 at s4 e4 ⊢
    have s14 := s13.trans s4
    have hC : LdK K H4 C (ds ++ [(n, δ)]) := LdK.snoc (Paired.mono pd fun _ _ => NdAt.keep (Same.tk s4)) e4 (.inl (.inl (s4 _ _ (s3 _ _ e2)))) (hv.keep (Same.tk s14))
    have wf' := wf_snoc (n := n) wf (fits_ok L hf)
    refine ⟨_, rfl, C, _, rfl, hC, by rw [List.length_append]; show ds.length + 1 ≤ 300; omega, wf', nd_snoc nd hn, fun hr H5 s5 => ?_, fun a b hr H5 t s5 ht => ?_⟩
    · refine ⟨_, rfl, rfl, _, rfl, ifN rfl ⟨_, rfl, (by show 2 ≤ sizeLine; decide), fun t2 n2 => ?_⟩⟩
      obtain ⟨s6, e6⟩ := new_at (.tup [.str "told", .int n]) n2
      generalize upd H5 t2 (.tup [.str "told", .int n]) = H6 at s6 e6 ⊢
      refine ⟨_, rfl, (by show 2 ≤ sizeLine; decide), fun t3 n3 => ?_⟩
      have s7 := same_upd (o := .tup [.ref t2, .ref C]) n3
      have s57 := s5.trans (s6.trans s7)
      have eo : putO ds n δ = .num n := by
        unfold putO
        rw [if_pos hf, hr]
      have es : putS ds n δ = ds ++ [(n, δ)] := if_pos ⟨hf, hr⟩
      refine q _ t3 (.ref t2) C (s14.trans s57) (.inl (.inl upd_same)) ?_ (.inr (s13.free nC)) ?_
      · rw [eo]
        exact ⟨t2, _, rfl, .inl (.inl (s7 _ _ e6)), dk_int⟩
      · rw [es]
        exact hC.same s57
    · refine ⟨_, rfl, rfl, _, rfl, ifY rfl ⟨_, rfl, (by show 2 ≤ sizeLine; decide), fun t2 n2 => ?_⟩⟩
      obtain ⟨s6, e6⟩ := new_at (.tup [.str "many", .ref t]) n2
      generalize upd H5 t2 (.tup [.str "many", .ref t]) = H6 at s6 e6 ⊢
      refine ⟨_, rfl, (by show 2 ≤ sizeLine; decide), fun t3 n3 => ?_⟩
      have s7 := same_upd (o := .tup [.ref t2, .ref A]) n3
      have s57 := s5.trans (s6.trans s7)
      have eo : putO ds n δ = .many a b := by
        unfold putO
        rw [if_pos hf, hr]
      have es : putS ds n δ = ds := if_neg fun z => by rw [hr] at z; exact nomatch z.2
      refine q _ t3 (.ref t2) A (s14.trans s57) (.inl (.inl upd_same)) ?_ (.inl rfl) ?_
      · rw [eo]
        exact ⟨t2, _, rfl, .inl (.inl (s7 _ _ e6)), dk_two (Same.sqT (s6.trans s7) ht)⟩
      · rw [es]
        exact hA.same (s14.trans s57)
end

theorem keyB_no {ds : List (Int × Dd)} {d : PyData} (h : isB d = true ∨ isI d = false) : keyB ds d = false := by
  cases d <;> first | rfl | (rcases h with h | h <;> cases h)
theorem dg_num {K : PySem.W.Frag} {fx H : Hp} {b : Bool} {v : V} {d : PyData} (hd : Dg K fx H b v d) (h0 : ¬ isB d = true) (h1 : isI d = true) : ∃ n, v = .int n ∧ d = .int n := by
  cases hd with
  | bl x => exact absurd rfl h0
  | int n => exact ⟨n, rfl, rfl⟩
  | non => cases h1
  | str x => cases h1
  | tup h q => cases h1
  | lst n h q => cases h1
  | dic0 n h => cases h1
  | dic1 n h => cases h1
theorem filter_yes {α : Type} (l : List α) : l.filter (fun _ => true) = l := List.filter_eq_self.mpr fun _ _ => rfl
theorem lean_len {ds : List (Int × Dd)} {k : Int} : (leanL ds k).length ≤ ds.length := filter_map_len
def ndD (x : Int × Dd) : PyData := .tuple [.int x.1, ddD x.2]
theorem NdAt.dp {K : PySem.W.Frag} {H : Hp} {v : V} {x : Int × Dd} (h : NdAt K H v x) : Dp K H v (ndD x) := by
  obtain ⟨t, u, rfl, h1, p, rfl, h2⟩ := h
  exact .tup h1 (.cons (.int _) (.cons (.tup h2 (.cons (.str _) (ints_dp _))) .nil))
theorem word_ok (δ : Dd) : PyData.strOk δ.word = true := by
  cases δ with
  | layer => decide +kernel
  | row a b c => show PyData.strOk "row" = true; decide +kernel
  | draw a b => show PyData.strOk "draw" = true; decide +kernel
  | hold a b => show PyData.strOk "hold" = true; decide +kernel
  | drop a => show PyData.strOk "drop" = true; decide +kernel
  | round a => show PyData.strOk "round" = true; decide +kernel
  | straight a => show PyData.strOk "straight" = true; decide +kernel
  | move a b c => show PyData.strOk "move" = true; decide +kernel
theorem sd_nd (x : Int × Dd) : Sd 2 (ndD x) := Sd.tup fun e he => by
  rcases mem2 he with rfl | rfl
  · exact Sd.int _
  · refine Sd.tup fun e he => ?_
    rcases List.mem_cons.mp he with rfl | he
    · exact Sd.st (word_ok _)
    · obtain ⟨i, _, rfl⟩ := List.mem_map.mp he
      exact Sd.int i
theorem sd_nds (ds : List (Int × Dd)) : Sd 3 (.list (ds.map ndD)) := Sd.lst fun e he => by
  obtain ⟨x, _, rfl⟩ := List.mem_map.mp he
  exact sd_nd x
theorem eq_eqd {K : PySem.W.Frag} {H : Hp} {x y : V} {d : PyData} {k : Nat} {Q : VK} (hx : Dp K H x d) (hy : Dp K H y d) (sd : Sd k d) (hk : k ≤ 64) (q : Q (.bl true) H) : rEqD K x y H Q := eq_data hx hy sd sd hk fun b hb => by rw [hb.mpr rfl]; exact q
section
variable {P : Program} {w : World} {K : PySem.W.Frag} {mg : Str → Option Value} {base : Heap}
def sp__law_undone (K : PySem.W.Frag) : Sp := fun vs H Q _ => ∃ (A : Addr) (ds : List (Int × Dd)) (fx : Hp) (b : Bool) (v : V) (d : PyData), vs = [.ref A, v] ∧ LdK K H A ds ∧ ds.length ≤ 300 ∧ WFd ds ∧ (ds.map (·.1)).Nodup ∧ Dg K fx H b v d ∧
  ∀ H' t u A', Same H H' → SqT K H' t [u, .ref A'] → DueAt K H' u (undO ds d) → (A' = A ∨ H A' = none) → LdK K H' A' (undS ds d) → Q (.ref t) H'
theorem ok__law_undone {f : Addr} {fd : FuncData} (F : Fun K "_law_undone" "_law_undone" s__law_undone f fd) (T : Txt K mg) (D__law_leaning : Cl P w K mg base 1 "_law_leaning" ["_law_deeds", "_law_number"] (sp__law_leaning K)) (D__law_room : Cl P w K mg base 2 "_law_room" ["_law_deeds"] (sp__law_room K)) : FnOk P w K mg base CX0 3 f fd ["_law_deeds", "_law_number"] (sp__law_undone K) := by
  refine F.ok sc__law_undone (fun vs H Q E h => ?_) (fun cdv A outer s H vs Q E hr h => ?_)
  · obtain ⟨A, ds, fx, b, v, d, rfl, _⟩ := h
    rfl
  · obtain ⟨A, ds, fx, b, v, d, rfl, hA, l3, wf, nd, hd, q⟩ := h
    refine ⟨_, (pss_cons (ps_if (PW.pt (pw_or (pt_val (pe_callB call_isi (by rfl) T.b_isinstance (by decide +kernel) (pa_cons (pv 1) (pa_cons (pe_bltn (v := .ty "bool") (by rfl) T.b_bool (by decide +kernel) rfl) pa_nil)))) (pw_or (pt_not (pt_val (pe_callB call_isi (by rfl) T.b_isinstance (by decide +kernel) (pa_cons (pv 1) (pa_cons (pe_bltn (v := .ty "int") (by rfl) T.b_int (by decide +kernel) rfl) pa_nil))))) (pw_or1 (pt_cmpR op_notIn_seq (pv 1) (pe_lc (own := [("_law_one", 5), ("_law_deed_here", 6)]) (g := (gTup _ 2 (gCons (gName 5) (gCons (gName 6) gNil)))) (tt := tYes) (by rfl) sc__law_undone.nd (pi_list (pv 0)) (blkOk_by (own := [("_law_one", 5), ("_law_deed_here", 6)]) (N := ["_law_deeds", "_law_number", "_law_some", "_law_later", "_law_many", "_law_one", "_law_deed_here"]) (sc := defScope s__law_undone) (by decide +kernel)) (fun _ _ _ _ _ => (pg_tup (by rfl) (pgs_cons (pg_name (i := 5) sc__law_undone.nd rfl (Or.inl rfl)) (pgs_cons (pg_name (i := 6) sc__law_undone.nd rfl (Or.inl rfl)) pgs_nil)))) (fun _ _ _ _ _ => pts_nil) (fun _ _ _ _ _ => (pv 5))) (by rfl)))))) (pss_one (ps_ret (pe_tup (pa_cons (pe_tup (pa_cons pe_str (pa_cons pe_int pa_nil))) (pa_cons (pv 0) pa_nil))))) pss_nil)
      (pss_cons (ps_set (i := 2) sc__law_undone.nd rfl (Or.inl rfl) (pe_own D__law_leaning (hr.mono (by omega)) (by rfl) (pa_cons (pv 0) (pa_cons (pv 1) pa_nil))))
      (pss_cons (ps_if (pt_cmpR (op_neD hr.units) (pv 2) (pe_lst pa_nil) (nomark _)) (pss_one (ps_ret (pe_tup (pa_cons (pe_tup (pa_cons pe_str (pa_cons (pe_callTy call_tuple_of (by rfl) T.b_tuple (by decide +kernel) (pa_cons (pv 2) pa_nil)) pa_nil))) (pa_cons (pv 0) pa_nil))))) pss_nil)
      (pss_cons (ps_setLc (i := 3) (own := [("_law_one", 5), ("_law_deed_here", 6)]) (g := (gTup _ 2 (gCons (gName 5) (gCons (gName 6) gNil)))) (by rfl) sc__law_undone.nd rfl rfl (sw_true rfl rfl rfl (by decide +kernel)) (pi_list (pv 0)) (blkOk_by (own := [("_law_one", 5), ("_law_deed_here", 6)]) (N := ["_law_deeds", "_law_number", "_law_some", "_law_later", "_law_many", "_law_one", "_law_deed_here"]) (sc := defScope s__law_undone) (by decide +kernel)) (fun _ _ _ _ _ => (pg_tup (by rfl) (pgs_cons (pg_name (i := 5) sc__law_undone.nd rfl (Or.inl rfl)) (pgs_cons (pg_name (i := 6) sc__law_undone.nd rfl (Or.inl rfl)) pgs_nil)))) (fun _ _ _ _ _ => (pts_one (pt_cmpR op_ne (pv 5) (pv 1) (nomark _)))) (fun _ _ _ _ _ => (pe_tup (pa_cons (pv 5) (pa_cons (pv 6) pa_nil)))))
      (pss_cons (ps_set (i := 4) sc__law_undone.nd rfl (Or.inl rfl) (pe_own D__law_room (hr.mono (by omega)) (by rfl) (pa_cons (pv 3) pa_nil)))
      (pss_cons (ps_if (pt_cmpR op_notN (pv 4) pe_non (nomark _)) (pss_one (ps_ret (pe_tup (pa_cons (pe_tup (pa_cons pe_str (pa_cons (pv 4) pa_nil))) (pa_cons (pv 0) pa_nil))))) pss_nil)
      (pss_one (ps_ret (pe_tup (pa_cons (pe_tup (pa_cons pe_str (pa_cons pe_non pa_nil))) (pa_cons (pv 3) pa_nil))))))))))), ?_⟩
    have no : keyB ds d = false → ∀ H1, Same H H1 → 2 ≤ sizeLine ∧ ∀ t1, H1 t1 = none → tVar 0 (L2.start ["_law_deeds", "_law_number", "_law_some", "_law_later", "_law_many", "_law_one", "_law_deed_here"] [.ref A, v]) (upd H1 t1 (.tup [.str "refused", .int 5])) fun y H2 => 2 ≤ sizeLine ∧ ∀ t2, H2 t2 = none → Q (.ref t2) (upd H2 t2 (.tup [.ref t1, y])) := fun hk H1 s1 => by
      refine ⟨(by decide), fun t1 n1 => ?_⟩
      obtain ⟨s2, e2⟩ := new_at (.tup [.str "refused", .int 5]) n1
      generalize upd H1 t1 (.tup [.str "refused", .int 5]) = H2 at s2 e2 ⊢
      refine ⟨_, rfl, (by show 2 ≤ sizeLine; decide), fun t2 n2 => ?_⟩
      have s3 := same_upd (o := .tup [.ref t1, .ref A]) n2
      have eo : undO ds d = .ref 5 := if_neg (by rw [hk]; decide)
      have es : undS ds d = ds := if_neg fun z => by rw [hk] at z; exact absurd z.1 (by decide)
      refine q _ t2 (.ref t1) A ((s1.trans s2).trans s3) (.inl (.inl upd_same)) ?_ (.inl rfl) ?_
      · rw [eo]
        exact ⟨t1, _, rfl, .inl (.inl (s3 _ _ e2)), dk_int⟩
      · rw [es]
        exact hA.same ((s1.trans s2).trans s3)
    refine ⟨_, rfl, _, _, _, _, _, rfl, .ty _, hd.ty, kit_ty (kB d), _, rfl, ite2 (fun e => ?_) (fun e => ?_)⟩
    · exact iteT (no (keyB_no (.inl e)) H (Same.refl _))
    refine ⟨_, rfl, _, _, _, _, _, rfl, .ty _, hd.ty, kit_ty (kI d), _, rfl, ?_⟩
    cases hi : isI d with
    | false => exact iteT (iteT (no (keyB_no (.inr hi)) H (Same.refl _)))
    | true =>
    obtain ⟨k, rfl, rfl⟩ := dg_num hd e hi
    obtain ⟨us, eA, pd⟩ := hA
    refine iteF ⟨_, rfl, _, rfl, A, rfl, ⟨_, .inl (.inl eA)⟩, fun G hG => ?_⟩
    refine lcfil (fun _ => true) (fun x => x.1) eA pd (by omega) hG (fun i u x H1 R Z hu hx hn s1 hR hZ => ?_) (fun H1 s1 eG => ?_)
    · obtain ⟨t, y, rfl, ht, py, rfl, hy⟩ := hn
      exact ⟨t, _, rfl, ht, rfl, _, _, rfl, _, _, rfl, rfl, rfl, yes_ok ⟨_, rfl, hR rfl _ (Same.refl _)⟩⟩
    rw [filter_yes] at eG
    refine ⟨G, _, rfl, .inl (.inl (.inl eG)), rfl, flat_ints _, _, rfl, ?_⟩
    show if (if true = true then !inV (.int k) ((ds.map (·.1)).map V.int) else inV (.int k) ((ds.map (·.1)).map V.int)) = true then _ else _
    rw [notin_ints]
    by_cases hm : k ∈ ds.map (·.1)
    rotate_left 1
    · rw [decide_eq_false hm]
      exact iteT (no (decide_eq_false hm) _ s1)
    rw [decide_eq_true hm]
    have hkB : keyB ds (.int k) = true := decide_eq_true hm
    have hA1 : LdK K H1 A ds := LdK.same ⟨us, eA, pd⟩ s1
    refine iteF ⟨_, rfl, _, rfl, A, ds, k, rfl, hA1, l3, fun H2 X s2 nX eX => ?_⟩
    have s12 := s1.trans s2
    refine ⟨_, rfl, (by show 0 ≤ sizeLine; decide), fun E nE => ne_ints (ns := leanL ds k) (ms := []) (.inl (.inl (same_upd nE _ _ eX))) (.inl (.inl upd_same)) ⟨_, rfl, ?_⟩⟩
    have s3 := same_upd (o := .lst []) nE
    have eX3 := s3 _ _ eX
    generalize upd H2 E (.lst []) = H3 at s3 eX3 ⊢
    have s13 := s12.trans s3
    by_cases hl : leanL ds k = []
    rotate_left 1
    · rw [decide_eq_false hl]
      refine iteT ⟨_, rfl, X, _, rfl, .inl ⟨.inl (.inl eX3), fun P nP => ?_⟩⟩
      obtain ⟨s4, e4⟩ := new_at (.tup ((leanL ds k).map V.int)) nP
      generalize upd H3 P (.tup ((leanL ds k).map V.int)) = H4 at s4 e4 ⊢
      refine ⟨(by show 2 ≤ sizeLine; decide), fun t1 n1 => ?_⟩
      obtain ⟨s5, e5⟩ := new_at (.tup [.str "leaned", .ref P]) n1
      generalize upd H4 t1 (.tup [.str "leaned", .ref P]) = H5 at s5 e5 ⊢
      refine ⟨_, rfl, (by show 2 ≤ sizeLine; decide), fun t2 n2 => ?_⟩
      have s6 := same_upd (o := .tup [.ref t1, .ref A]) n2
      have sF := s13.trans (s4.trans (s5.trans s6))
      have eo : undO ds (.int k) = .lean (leanL ds k) := by
        unfold undO
        rw [if_pos hkB]
        exact if_neg hl
      have es : undS ds (.int k) = ds := if_neg fun z => hl z.2.1
      refine q _ t2 (.ref t1) A sF (.inl (.inl upd_same)) ?_ (.inl rfl) ?_
      · rw [eo]
        exact ⟨t1, _, rfl, .inl (.inl (s6 _ _ e5)), dk_ints (.inl (.inl ((s5.trans s6) _ _ e4)))⟩
      · rw [es]
        exact LdK.same ⟨us, eA, pd⟩ sF
    rw [decide_eq_true hl]
    have hA3 := s13 _ _ eA
    have pd3 := Paired.mono pd fun _ _ => NdAt.keep (Same.tk s13)
    refine iteF ⟨_, rfl, A, rfl, ⟨_, .inl (.inl hA3)⟩, fun C hC => ?_⟩
    refine lcgen ds (fun x => decide (x.1 ≠ k)) (fun x => x) (NdAt K) (fun k h => NdAt.keep k h) (Paired.length pd).symm (by rw [Paired.length pd]; omega) (.inl (.inl hA3)) hC (fun i u x H4 R Z hu hx s4 hR hZ => ?_) (fun H4 ts s4 eC pt => ?_)
    · obtain ⟨x', hx', hn⟩ := Paired.at pd3 hu
      rw [hx] at hx'
      cases hx'
      obtain ⟨t3, y, rfl, ht3, py, rfl, hy⟩ := hn.keep (Same.tk s4)
      refine ⟨t3, _, rfl, ht3, rfl, _, _, rfl, _, _, rfl, rfl, rfl, _, rfl, _, rfl, rfl, _, rfl, ite2 (fun e => ?_) (fun e => ?_)⟩
      · have e' : ¬ x.1 = k := fun h => by
          rw [decide_eq_true (show V.int x.1 = V.int k by rw [h])] at e
          cases e
        exact ⟨_, rfl, _, rfl, (by show 2 ≤ sizeLine; decide), fun t4 nt4 => hR (decide_eq_true e') _ _ (same_upd nt4) ⟨t4, _, rfl, .inl (.inl upd_same), py, rfl, Same.sqT (same_upd nt4) hy⟩⟩
      · refine hZ (decide_eq_false fun h => e ?_) _ (Same.refl _)
        rw [decide_eq_false (show ¬ V.int x.1 = V.int k from fun z => h (V.int.inj z))]
        rfl
    have s14 := s13.trans s4
    have hCd : LdK K H4 C (asDrop ds k) := ⟨ts, eC, by rw [List.map_id'] at pt; exact pt⟩
    have wf' := wf_drop wf nd hl
    refine ⟨_, rfl, C, _, rfl, hCd, Nat.le_trans asDrop_len l3, wf', drop_nodup nd, fun hr H5 s5 => ?_, fun a b hr H5 t s5 ht => ?_⟩
    · refine ⟨_, rfl, rfl, _, rfl, ifN rfl ⟨(by show 2 ≤ sizeLine; decide), fun t2 n2 => ?_⟩⟩
      obtain ⟨s6, e6⟩ := new_at (.tup [.str "told", .non]) n2
      generalize upd H5 t2 (.tup [.str "told", .non]) = H6 at s6 e6 ⊢
      refine ⟨_, rfl, (by show 2 ≤ sizeLine; decide), fun t3 n3 => ?_⟩
      have s7 := same_upd (o := .tup [.ref t2, .ref C]) n3
      have s57 := s5.trans (s6.trans s7)
      have eo : undO ds (.int k) = .nil := by
        unfold undO
        rw [if_pos hkB, if_pos (show leanL ds (intD (.int k)) = [] from hl), show roomS (mkS (asDrop ds (intD (.int k)))) = _ from hr]
      have es : undS ds (.int k) = asDrop ds k := if_pos ⟨hkB, hl, hr⟩
      refine q _ t3 (.ref t2) C (s14.trans s57) (.inl (.inl upd_same)) ?_ (.inr (s13.free hC)) ?_
      · rw [eo]
        exact ⟨t2, _, rfl, .inl (.inl (s7 _ _ e6)), dk_non⟩
      · rw [es]
        exact hCd.same s57
    · refine ⟨_, rfl, rfl, _, rfl, ifY rfl ⟨_, rfl, (by show 2 ≤ sizeLine; decide), fun t2 n2 => ?_⟩⟩
      obtain ⟨s6, e6⟩ := new_at (.tup [.str "many", .ref t]) n2
      generalize upd H5 t2 (.tup [.str "many", .ref t]) = H6 at s6 e6 ⊢
      refine ⟨_, rfl, (by show 2 ≤ sizeLine; decide), fun t3 n3 => ?_⟩
      have s7 := same_upd (o := .tup [.ref t2, .ref A]) n3
      have s57 := s5.trans (s6.trans s7)
      have eo : undO ds (.int k) = .many a b := by
        unfold undO
        rw [if_pos hkB, if_pos (show leanL ds (intD (.int k)) = [] from hl), show roomS (mkS (asDrop ds (intD (.int k)))) = _ from hr]
      have es : undS ds (.int k) = ds := if_neg fun z => by
        have : roomS (mkS (asDrop ds k)) = none := z.2.2
        rw [hr] at this
        exact nomatch this
      refine q _ t3 (.ref t2) A (s14.trans s57) (.inl (.inl upd_same)) ?_ (.inl rfl) ?_
      · rw [eo]
        exact ⟨t2, _, rfl, .inl (.inl (s7 _ _ e6)), dk_two (Same.sqT (s6.trans s7) ht)⟩
      · rw [es]
        exact LdK.same ⟨us, eA, pd⟩ (s14.trans s57)
def sp__law_stands_so (K : PySem.W.Frag) (CT : Nat → Addr) : Sp := fun vs H Q _ => ∃ (p D m L R B M A : Addr) (n : Int) (ds : List (Int × Dd)), vs = [.ref p, .ref A] ∧ RollC K CT H p D m L R B M n ds ∧ LdK K H A ds ∧ ds.length ≤ 300 ∧ WFd ds ∧ (ds.map (·.1)).Nodup ∧ ∀ H', Same H H' → Q (.bl true) H'
theorem ok__law_stands_so {f : Addr} {fd : FuncData} (F : Fun K "_law_stands_so" "_law_stands_so" s__law_stands_so f fd) (T : Txt K mg) {CT : Nat → Addr} (TC : ClT K w mg CT) (D_Roll__standing : Ml P w K mg base 1 (CT 1) "standing" ["self"] (sp_Roll__standing K CT)) (D_Roll__sheet_now : Ml P w K mg base 4 (CT 1) "sheet_now" ["self"] (sp_Roll__sheet_now K CT)) (D__law_made : Cl P w K mg base 2 "_law_made" ["_law_deeds"] (sp__law_made K)) : FnOk P w K mg base CX0 5 f fd ["_law_roll", "_law_deeds"] (sp__law_stands_so K CT) := by
  refine F.ok sc__law_stands_so (fun vs H Q E h => ?_) (fun cdv A outer s H vs Q E hr h => ?_)
  · obtain ⟨p, D, m, L, R, B, M, A, n, ds, rfl, _⟩ := h
    rfl
  · obtain ⟨p, D, m, L, R, B, M, A, n, ds, rfl, rc, hA, l3, wf, nd, q⟩ := h
    obtain ⟨dx, hob⟩ := rc.ob
    refine ⟨_, (pss_one (ps_ret (pe_and (pe_cmpR (op_eqD hr.units) (pe_mth0 D_Roll__standing TC.cR (hr.mono (by omega)) (pv 0)) (pv 1) (nomark _)) (pe_one (pe_cmpR (op_eqD hr.units) (pe_mth0 D_Roll__sheet_now TC.cR (hr.mono (by omega)) (pv 0)) (pe_own D__law_made (hr.mono (by omega)) (by rfl) (pa_cons (pv 1) pa_nil)) (nomark _)))))), ?_⟩
    refine ⟨_, rfl, p, dx, _, rfl, hob, rfl, p, D, m, L, R, B, M, n, ds, rfl, rc, fun H1 X us s1 nX eX pd => ?_⟩
    obtain ⟨us', eA, pd'⟩ := hA.same s1
    refine ⟨_, rfl, eq_eqd (.lst (.inl (.inl eX)) (dpAll_of (f := ndD) (fun _ _ h => NdAt.dp h) pd)) (.lst (.inl (.inl eA)) (dpAll_of (f := ndD) (fun _ _ h => NdAt.dp h) pd')) (sd_nds ds) (by decide) ⟨_, rfl, iteT ?_⟩⟩
    have rc1 := rc.same s1
    have sm : (mkS ds).small 900 := by
      have := mkS_small wf ds.length (Nat.le_refl _)
      rw [List.take_length] at this
      obtain ⟨a1, a2, a3, a4⟩ := this
      exact ⟨by omega, by omega, by omega, by omega⟩
    have mn := lnk_nd wf nd
    refine ⟨_, rfl, p, dx, _, rfl, s1 _ _ hob, rfl, p, D, m, L, R, B, M, n, ds, rfl, rc1, sm, mn, fun hl H2 s2 => ?_, fun hl H2 v s2 hv => ?_⟩
    · refine ⟨_, rfl, A, ds, rfl, (hA.same s1).same s2, l3, wf, nd, fun _ H3 s3 => ?_, fun hl' => absurd hl hl'⟩
      exact eq_eqd .non .non (k := 0) Sd.none (by decide) (q _ ((s1.trans s2).trans s3))
    · refine ⟨_, rfl, A, ds, rfl, (hA.same s1).same s2, l3, wf, nd, fun hl' => absurd hl' hl, fun _ H3 u s3 hu => ?_⟩
      exact eq_eqd (hv.keep (Same.tk s3)).dp hu.dp (sd_sh _ _ _ _) (by decide) (q _ ((s1.trans s2).trans s3))
end

theorem seqI {t u : TS} {D : Ends} {σ : L2.St} {H : Hp} (R : L2.St → Hp → Prop) (h : ∀ nx : L2.St → Hp → Prop, (∀ σ' H', R σ' H' → nx σ' H') → t { D with nx := nx } σ H) (k : ∀ σ' H', R σ' H' → u D σ' H') : tSeq t u D σ H := h _ k
theorem kL (ds : List PyData) : kitB (tyn (.list ds)) "list" = some true := by
  simp only [tyn]
  decide +kernel
theorem std_int {ds : List (Int × Dd)} (hp : ∀ x ∈ ds, 0 ≤ x.1) (k : Int) : stdD ds (.int k) = decide (k ∈ ds.map (·.1)) := by
  have h := asV_some (l := ds) (k := k)
  show (decide (0 ≤ k) && (asV ds k).isSome) = _
  by_cases hm : k ∈ ds.map (·.1)
  · have h0 : 0 ≤ k := by
      obtain ⟨x, hx, rfl⟩ := List.mem_map.mp hm
      exact hp x hx
    rw [decide_eq_true hm, h.mpr hm, decide_eq_true h0]
    rfl
  · rw [decide_eq_false hm, Bool.eq_false_iff.mpr fun z => hm (h.mp z), Bool.and_false]
theorem RollC.gw {K : PySem.W.Frag} {CT : Nat → Addr} {H H' : Hp} {p D m L R B M st : Addr} {n : Int} {ds : List (Int × Dd)} {TS : List (Addr × Str)} (rc : RollC K CT H p D m L R B M n ds) (hs : IsSx H st) (nL : L ≠ st) (nM : M ≠ st) (g : Gw TS st H H') : RollC K CT H' p D m L R B M n ds := by
  obtain ⟨⟨dx, h1⟩, ⟨kvs, h2, h3⟩, h4, a, b, c⟩ := rc
  have hs0 := hs
  obtain ⟨u, v, es, _⟩ := hs
  have tk : TKeep K H H' := g.tk hs0
  have hd := h4
  obtain ⟨⟨dm, m1⟩, m2, ⟨kr, m3, _⟩, ⟨kb, m4, _⟩, ⟨ms, m5, _⟩, _, _⟩ := hd
  refine ⟨⟨dx, g.1 _ _ (ne_of h1 es (by intro z; cases z)) ins_tbl h1⟩, ⟨kvs, g.1 _ _ (ne_of h2 es (by intro z; cases z)) dk_tbl h2, AsP.mono (fun _ _ => DeedAt.keep tk) h3⟩, h4.keep tk (fun o e => ?_) (fun o e => ?_) (fun o e => ?_) (fun o e => ?_) (fun o e => ?_), a, b, c⟩
  · rw [m1] at e
    cases e
    exact g.1 _ _ (ne_of m1 es (by intro z; cases z)) ins_tbl m1
  · rw [m2] at e
    cases e
    exact g.1 _ _ nL lst_tbl m2
  · rw [m3] at e
    cases e
    exact g.1 _ _ (ne_of m3 es (by intro z; cases z)) dk_tbl m3
  · rw [m4] at e
    cases e
    exact g.1 _ _ (ne_of m4 es (by intro z; cases z)) dk_tbl m4
  · rw [m5] at e
    cases e
    exact g.1 _ _ nM lst_tbl m5
theorem LdK.gw {K : PySem.W.Frag} {H H' : Hp} {A st : Addr} {ds : List (Int × Dd)} {TS : List (Addr × Str)} (h : LdK K H A ds) (hs : IsSx H st) (nA : A ≠ st) (g : Gw TS st H H') : LdK K H' A ds := by
  obtain ⟨us, e, pd⟩ := h
  exact ⟨us, g.1 _ _ nA lst_tbl e, Paired.mono pd fun _ _ => NdAt.keep (g.tk hs)⟩
section
variable {P : Program} {w : World} {K : PySem.W.Frag} {mg : Str → Option Value} {base : Heap}
def sp__law_leans_right (K : PySem.W.Frag) (TS : List (Addr × Str)) (CT : Nat → Addr) : Sp := fun vs H Q _ => ∃ (st p D m L R B M A : Addr) (n : Int) (ds : List (Int × Dd)), vs = [.ref st, .ref p, .ref A] ∧ IsSx H st ∧ LamX.Tabs TS H ∧ RollC K CT H p D m L R B M n ds ∧ L ≠ st ∧ M ≠ st ∧ LdK K H A ds ∧ A ≠ st ∧ ds.length ≤ 300 ∧ (∀ x ∈ ds, 0 ≤ x.1) ∧ ∀ H', Gw TS st H H' → Q (.bl true) H'
theorem ok__law_leans_right {f g cc PP : Addr} {fd fdm : FuncData} {c : Nat → Addr} {LE : Addr} {TS : List (Addr × Str)} (F : FunC K "_law_leans_right" "_law_leans_right" s__law_leans_right f fd cc) (T : Txt K mg) (TX : ExcN K mg c LE) (MR : Mkr base mg cc PP "_law_leans_right" TS) {CT : Nat → Addr} (TC : ClT K w mg CT) (Fm : Fun K "_law_met" "_law_met" s__law_met g fdm) (mm : mg "_law_met" = some (.ref g)) (bm : Binds K fdm ["_law_call"] []) (DE : ClE P w K mg base 1 "_law_classes" ["_law_e"] (spCls c)) (D__law_take : Cl P w K mg base 1 "_law_take" ["_law_state_here", "_law_many"] (sp__law_take K)) (D_Roll__leaning : MlX P w K mg base 3 (CT 1) "leaning" ["self", "number"] (sp_Roll__leaning K c CT)) (D__law_leaning : Cl P w K mg base 1 "_law_leaning" ["_law_deeds", "_law_number"] (sp__law_leaning K)) : FnOk P w K mg base CX0 6 f fd ["_law_state_here", "_law_roll", "_law_deeds"] (sp__law_leans_right K TS CT) := by
  refine fun_okL F sc__law_leans_right (fun vs H Q E h => ?_) (fun A outer s H vs Q E hr h => ?_)
  · obtain ⟨st, p, D, m, L, R, B, M, A, n, ds, rfl, _⟩ := h
    rfl
  · obtain ⟨st, p, D, m, L, R, B, M, A, n, ds, rfl, hs, hT, rc, nL, nM, hA, nA, l3, hp, q⟩ := h
    refine ⟨_, (pss_cons (ps_set (i := 3) sc__law_leans_right.nd rfl (Or.inr rfl) (pe_own D__law_take (hr.mono (by omega)) (by rfl) (pa_cons (pv 0) (pa_cons pe_int pa_nil))))
      (pss_cons (ps_if (PW.pt (pw_and (pt_cmpR (op_neD hr.units) (pv 2) (pe_lst pa_nil) (nomark _)) (pw_and1 (pt_cmpR op_gt (pe_own D__law_take (hr.mono (by omega)) (by rfl) (pa_cons (pv 0) (pa_cons pe_int pa_nil))) pe_int (nomark _))))) (pss_one (ps_set (i := 3) sc__law_leans_right.nd rfl (Or.inr rfl) (pe_ix ix_tup (pe_ix ix_list (pv 2) (pe_own D__law_take (hr.mono (by omega)) (by rfl) (pa_cons (pv 0) (pa_cons (pe_callB call_len_seq (by rfl) T.b_len (by decide +kernel) (pa_cons (pv 2) pa_nil)) pa_nil))) (fun _ _ => rfl)) pe_int (fun _ _ => rfl)))) pss_nil)
      (pss_cons (ps_set (i := 4) sc__law_leans_right.nd rfl (Or.inl rfl) (pe_met (k := 3) (met_mk Fm mm bm T TX DE (hr.mono (by omega))) (by rfl) MR.tb rfl MR.hm MR.hu (hr.mono (by omega)) (LamX.lamS_by (sc := defScope s__law_leans_right) (by decide +kernel)) (fun A outer s H E f c' hr => (pe_mthX D_Roll__leaning TC.cR (hr.mono (by omega)) (takes_of rfl rfl rfl rfl) (pv 1) (pa_cons (pv 3) pa_nil)))))
      (pss_cons (ps_if (pt_cmpR op_notIn_seq (pv 3) (pe_lc (own := [("_law_one", 5), ("_law_deed_here", 6)]) (g := (gTup _ 2 (gCons (gName 5) (gCons (gName 6) gNil)))) (tt := tYes) (by rfl) sc__law_leans_right.nd (pi_list (pv 2)) (blkOk_by (own := [("_law_one", 5), ("_law_deed_here", 6)]) (N := ["_law_state_here", "_law_roll", "_law_deeds", "_law_number", "_law_told", "_law_one", "_law_deed_here"]) (sc := defScope s__law_leans_right) (by decide +kernel)) (fun _ _ _ _ _ => (pg_tup (by rfl) (pgs_cons (pg_name (i := 5) sc__law_leans_right.nd rfl (Or.inl rfl)) (pgs_cons (pg_name (i := 6) sc__law_leans_right.nd rfl (Or.inl rfl)) pgs_nil)))) (fun _ _ _ _ _ => pts_nil) (fun _ _ _ _ _ => (pv 5))) (by rfl)) (pss_one (ps_ret (pe_cmpR (op_eqD hr.units) (pv 4) (pe_tup (pa_cons pe_str (pa_cons pe_int pa_nil))) (nomark _)))) pss_nil)
      (pss_cons (ps_if (PW.pt (pw_or (pt_cmpR (op_neD hr.units) (pv 4) (pe_tup (pa_cons pe_str (pa_cons (pe_own D__law_leaning (hr.mono (by omega)) (by rfl) (pa_cons (pv 2) (pa_cons (pv 3) pa_nil))) pa_nil))) (nomark _)) (pw_or1 (pt_not (pt_val (pe_callB call_isi (by rfl) T.b_isinstance (by decide +kernel) (pa_cons (pe_ix ix_tup (pv 4) pe_int (fun _ _ => rfl)) (pa_cons (pe_bltn (v := .ty "list") (by rfl) T.b_list (by decide +kernel) rfl) pa_nil)))))))) (pss_one (ps_ret pe_bl)) pss_nil)
      (pss_cons (ps_expr (pe_bm PySem.F.plainAttrs_list PySem.F.slot_list_append PySem.F.type_list_append mt_append (pe_ix ix_tup (pv 4) pe_int (fun _ _ => rfl)) (pa_cons pe_int pa_nil)))
      (pss_one (ps_ret (pe_cmpR (op_eqD hr.units) (pe_mthX D_Roll__leaning TC.cR (hr.mono (by omega)) takes0 (pv 1) (pa_cons (pv 3) pa_nil)) (pe_own D__law_leaning (hr.mono (by omega)) (by rfl) (pa_cons (pv 2) (pa_cons (pv 3) pa_nil))) (nomark _)))))))))), ?_⟩
    dsimp only
    refine seqA (fun v H' => Gx st H H' ∧ ∃ k : Int, v = .int k) (fun Q' k => ⟨_, rfl, st, 60, rfl, hs, by decide, by decide, fun r H1 r0 r1 g1 => k _ _ ⟨g1, r, rfl⟩⟩) (fun v H1 z => ?_)
    obtain ⟨g1, k0, rfl⟩ := z
    have hs1 := g1.2.1 hs
    refine seqI (fun σ' H' => ∃ k : Int, σ' = [some (.ref st), some (.ref p), some (.ref A), some (.int k), none, none, none] ∧ Gx st H H') (fun nx kn => ?_) (fun σ' H2 z => ?_)
    · obtain ⟨us, eA, pd⟩ := hA.gw hs nA (g1.l (TS := TS))
      refine ⟨_, rfl, (by show 0 ≤ sizeLine; decide), fun E nE => ?_⟩
      obtain ⟨s2, e2⟩ := new_at (.lst []) nE
      generalize upd H1 E (.lst []) = H2 at s2 e2 ⊢
      have g2 := g1.trans (gx_same (st := st) s2)
      have pd2 := Paired.mono pd fun _ _ h => NdAt.keep (Same.tk s2) h
      refine ne_data (k := 64) (d := .list (ds.map ndD)) (e := .list []) (.lst (.inl (.inl (s2 _ _ eA))) (dpAll_of (f := ndD) (fun _ _ h => NdAt.dp h) pd2)) (.lst (.inl (.inl e2)) .nil) ((sd_nds ds).more (by decide)) (Sd.more (k := 1) (Sd.lst fun e he => by cases he) (by decide)) (Nat.le_refl _) (fun b hb => ⟨_, rfl, ?_⟩)
      cases b with
      | true => exact iteF (iteF (kn _ _ ⟨k0, rfl, g2⟩))
      | false =>
        have hn : ds ≠ [] := fun z => by
          have := hb.mpr (by rw [z]; rfl)
          cases this
        have hl : 0 < ds.length := List.length_pos_iff.mpr hn
        have hs2 := g2.2.1 hs
        refine iteT ⟨_, rfl, st, 4, rfl, hs2, by decide, by decide, fun r H3 r0 r1 g3 => ⟨_, _, rfl, rfl, _, rfl, ite2 (fun _ => ?_) (fun _ => ?_)⟩⟩
        · have hs3 := g3.2.1 hs2
          have eA3 := g3.1 _ _ nA lst_tbl (s2 _ _ eA)
          refine ⟨_, rfl, _, rfl, _, rfl, A, _, rfl, .inl (.inl (.inl eA3)), st, _, rfl, hs3, by rw [Paired.length pd]; omega, by rw [Paired.length pd]; omega, fun r' H4 r0' r1' g4 => ?_⟩
          rw [Paired.length pd] at r1'
          obtain ⟨x, hx⟩ : ∃ x, ds[r'.toNat]? = some x := ⟨_, List.getElem?_eq_getElem (by omega)⟩
          obtain ⟨u, hu⟩ : ∃ u, us[r'.toNat]? = some u := ⟨_, List.getElem?_eq_getElem (by rw [Paired.length pd]; omega)⟩
          obtain ⟨x', hx', t, y, rfl, ht, hy⟩ := Paired.at pd2 hu
          refine ⟨A, _, r', _, rfl, rfl, .inl (.inl (g4.1 _ _ nA lst_tbl eA3)), at_of (j := r'.toNat) (by omega) hu, t, _, 0, _, rfl, rfl, g4.sqT hs3 (g3.sqT hs2 ht), at0, kn _ _ ⟨x'.1, rfl, (g2.trans g3).trans g4⟩⟩
        · exact kn _ _ ⟨k0, rfl, g2.trans g3⟩
    obtain ⟨k, rfl, g2⟩ := z
    have hs2 := g2.2.1 hs
    have hT2 := g2.2.2 _ hT
    refine ⟨hT2, fun H3 e3 t3 => ?_⟩
    have g3 : Gw TS st H H3 := (g2.l (TS := TS)).trans (gw_ext (st := st) e3 t3)
    have hs3 := g3.2.1 hs
    have rc3 := rc.gw hs nL nM g3
    have hA3 := hA.gw hs nA g3
    obtain ⟨us, eA, pd⟩ := hA3
    obtain ⟨dx, hob⟩ := rc3.ob
    refine ⟨_, rfl, p, dx, _, rfl, hob, rfl, _, rfl, p, D, m, L, R, B, M, n, ds, H3, true, .int k, .int k, rfl, rc3, l3, .int k, fun hsd => ?_, fun k' ev hsd H4 X s4 nX eX => ?_⟩
    · have hm : k ∉ ds.map (·.1) := by
        rw [std_int hp] at hsd
        exact of_decide_eq_false hsd
      refine ⟨5, by decide, rfl, fun dd e => (nomatch e), fun _ H4 T s4 nT eT => ?_, fun z => absurd z (by decide), fun z => absurd z (by decide)⟩
      have eA4 := s4 _ _ eA
      refine ⟨_, rfl, _, rfl, A, rfl, ⟨_, .inl (.inl eA4)⟩, fun G hG => ?_⟩
      refine lcfil (fun _ => true) (fun x => x.1) eA4 (Paired.mono pd fun _ _ => NdAt.keep (Same.tk s4)) (by omega) hG (fun i u x H1 R Z hu hx hn s1 hR hZ => ?_) (fun H5 s5 eG => ?_)
      · obtain ⟨t, y, rfl, ht, py, rfl, hy⟩ := hn
        exact ⟨t, _, rfl, ht, rfl, _, _, rfl, _, _, rfl, rfl, rfl, yes_ok ⟨_, rfl, hR rfl _ (Same.refl _)⟩⟩
      rw [filter_yes] at eG
      refine ⟨G, _, rfl, .inl (.inl (.inl eG)), rfl, flat_ints _, _, rfl, ?_⟩
      show if (if true = true then !inV (.int k) ((ds.map (·.1)).map V.int) else inV (.int k) ((ds.map (·.1)).map V.int)) = true then _ else _
      rw [notin_ints, decide_eq_false hm]
      refine iteT ⟨_, rfl, (by show 2 ≤ sizeLine; decide), fun t2 n2 => ?_⟩
      have s6 := same_upd (o := .tup [.str "refused", .int 5]) n2
      exact eq_eqd (ref_dp (.inl (.inl ((s5.trans s6) _ _ eT)))) (ref_dp (.inl (.inl upd_same))) (sd_ref 5) (by decide) (q _ (g3.trans (gw_same (TS := TS) (s4.trans (s5.trans s6)))))
    · cases ev
      have hm : k ∈ ds.map (·.1) := by
        rw [std_int hp] at hsd
        exact of_decide_eq_true hsd
      refine ⟨(by show 2 ≤ sizeLine; decide), fun T nT => ?_⟩
      obtain ⟨s5, e5⟩ := new_at (.tup [.str "told", .ref X]) nT
      generalize upd H4 T (.tup [.str "told", .ref X]) = H5 at s5 e5 ⊢
      have s45 := s4.trans s5
      have eA5 := s45 _ _ eA
      refine ⟨_, rfl, _, rfl, A, rfl, ⟨_, .inl (.inl eA5)⟩, fun G hG => ?_⟩
      refine lcfil (fun _ => true) (fun x => x.1) eA5 (Paired.mono pd fun _ _ => NdAt.keep (Same.tk s45)) (by omega) hG (fun i u x H1 R Z hu hx hn s1 hR hZ => ?_) (fun H6 s6 eG => ?_)
      · obtain ⟨t, y, rfl, ht, py, rfl, hy⟩ := hn
        exact ⟨t, _, rfl, ht, rfl, _, _, rfl, _, _, rfl, rfl, rfl, yes_ok ⟨_, rfl, hR rfl _ (Same.refl _)⟩⟩
      rw [filter_yes] at eG
      refine ⟨G, _, rfl, .inl (.inl (.inl eG)), rfl, flat_ints _, _, rfl, ?_⟩
      show if (if true = true then !inV (.int k) ((ds.map (·.1)).map V.int) else inV (.int k) ((ds.map (·.1)).map V.int)) = true then _ else _
      rw [notin_ints, decide_eq_true hm]
      have s36 := s45.trans s6
      have hA6 : LdK K H6 A ds := LdK.same ⟨us, eA, pd⟩ s36
      refine iteF ⟨_, rfl, _, rfl, _, rfl, A, ds, k, rfl, hA6, l3, fun H7 Y s7 nY eY => ⟨(by show 2 ≤ sizeLine; decide), fun t2 n2 => ?_⟩⟩
      obtain ⟨s8, e8⟩ := new_at (.tup [.str "told", .ref Y]) n2
      generalize upd H7 t2 (.tup [.str "told", .ref Y]) = H8 at s8 e8 ⊢
      have s68 := s6.trans (s7.trans s8)
      have eT8 := s68 _ _ e5
      have eX8 := s68 _ _ (s5 _ _ eX)
      have eY8 := s8 _ _ eY
      refine ne_eqd (told_dp (.inl (.inl eT8)) (ints_dpl (.inl (.inl eX8)))) (told_dp (.inl (.inl e8)) (ints_dpl (.inl (.inl eY8)))) ⟨_, sd_told Sd.ints, by decide⟩ ⟨_, rfl, iteF ?_⟩
      have hg : Dg K (fun _ => none) H8 true (.ref X) (.list ((leanL ds k).map .int)) := .lst rfl eX8 (ints_dg' _)
      refine ⟨_, rfl, T, _, 1, .ref X, rfl, rfl, .inl (.inl eT8), at_n 1 rfl, _, _, _, _, _, rfl, .ty _, hg.ty, kit_ty (kL _), _, rfl, iteF ?_⟩
      have lX : (leanL ds k).length ≤ 300 := Nat.le_trans lean_len l3
      refine ⟨_, rfl, T, _, 1, .ref X, rfl, rfl, .inl (.inl eT8), at_n 1 rfl, .inl ⟨rfl, _, .inl (.inl eX8)⟩, X, _, _, rfl, rfl, eX8, small1000 (by rw [List.length_map]; omega), ?_⟩
      have nXs := sx_ne hs3 nX
      have s38 := s4.trans (s5.trans s68)
      have g9 : Gx st H3 (upd H8 X (.lst ((leanL ds k).map V.int ++ [.int 0]))) := gx_upd (gx_same s38) nX nXs eX8 _
      generalize upd H8 X (.lst ((leanL ds k).map V.int ++ [.int 0])) = H9 at g9 ⊢
      have g39 := g3.trans (g9.l (TS := TS))
      have rc9 := rc.gw hs nL nM g39
      have hA9 := hA.gw hs nA g39
      obtain ⟨dx, hob⟩ := rc9.ob
      refine ⟨_, rfl, p, dx, _, rfl, hob, rfl, _, rfl, p, D, m, L, R, B, M, n, ds, H9, true, .int k, .int k, rfl, rc9, l3, .int k, (fun hsd' => by rw [hsd] at hsd'; cases hsd'), fun k' ev hsd' Ha X' sa nX' eX' => ?_⟩
      cases ev
      refine ⟨_, rfl, _, rfl, A, ds, k, rfl, hA9.same sa, l3, fun Hb Y' sb nY' eY' => ?_⟩
      exact eq_eqd (ints_dpl (.inl (.inl (sb _ _ eX')))) (ints_dpl (.inl (.inl eY'))) Sd.ints (by decide) (q _ (g39.trans (gw_same (TS := TS) (sa.trans sb))))
end

/-! ### the law of rolls -/
def KeepL (H H' : Hp) : Prop := ∀ y o, H y = some o → (∀ C dx fs, o ≠ .ins C dx fs) → (∀ kvs, o ≠ .dK kvs) → H' y = some o
theorem keep2 {H H' : Hp} {p D : Addr} {C dx : Addr} {fs : List (Str × V)} {kvs : List (Key × V)} (hp : H p = some (.ins C dx fs)) (hD : H D = some (.dK kvs)) (k : ∀ y o, y ≠ p → y ≠ D → H y = some o → H' y = some o) : KeepL H H' := fun y o e h1 h2 => k y o (fun z => by rw [z, hp] at e; exact h1 _ _ _ (Option.some.inj e).symm) (fun z => by rw [z, hD] at e; exact h2 _ (Option.some.inj e).symm) e
theorem keep1 {H H' : Hp} {p : Addr} {C dx : Addr} {fs : List (Str × V)} (hp : H p = some (.ins C dx fs)) (k : ∀ y o, y ≠ p → H y = some o → H' y = some o) : KeepL H H' := fun y o e h1 _ => k y o (fun z => by rw [z, hp] at e; exact h1 _ _ _ (Option.some.inj e).symm) e
theorem KeepL.of {H H' : Hp} (s : Same H H') : KeepL H H' := fun y o e _ _ => s y o e
section
variable {K : PySem.W.Frag} {H H' : Hp}
theorem KeepL.tk (k : KeepL H H') : TKeep K H H' := fun a xs h => by
  rcases h with (h | ⟨o, h⟩) | h
  · exact .inl (.inl (k _ _ h (by intro _ _ _ z; cases z) (by intro _ z; cases z)))
  · exact .inl (.inr ⟨o, k _ _ h (by intro _ _ _ z; cases z) (by intro _ z; cases z)⟩)
  · exact .inr h
theorem KeepL.sqL (k : KeepL H H') {a : Addr} {xs : List V} (h : SqL K H a xs) : SqL K H' a xs := by
  rcases h with (h | ⟨o, h⟩) | h
  · exact .inl (.inl (k _ _ h (by intro _ _ _ z; cases z) (by intro _ z; cases z)))
  · exact .inl (.inr ⟨o, k _ _ h (by intro _ _ _ z; cases z) (by intro _ z; cases z)⟩)
  · exact .inr h
theorem KeepL.sx (k : KeepL H H') {st : Addr} (h : IsSx H st) : IsSx H' st := by
  obtain ⟨a, b, e, r⟩ := h
  exact ⟨a, b, k _ _ e (by intro _ _ _ z; cases z) (by intro _ z; cases z), r⟩
theorem KeepL.tabs (k : KeepL H H') {T : List (Addr × Str)} (h : LamX.Tabs T H) : LamX.Tabs T H' := fun p hp => by
  obtain ⟨ps, a1, a2, a3⟩ := h p hp
  refine ⟨ps, k _ _ a1 (by intro _ _ _ z; cases z) (by intro _ z; cases z), a2, fun pos cv hc => ?_⟩
  obtain ⟨c0, e1, e2⟩ := a3 pos cv hc
  exact ⟨c0, e1, k _ _ e2 (by intro _ _ _ z; unfold LamX.CodeO at z; cases z) (by intro _ z; unfold LamX.CodeO at z; cases z)⟩
theorem KeepL.ld (k : KeepL H H') {A : Addr} {ds : List (Int × Dd)} (h : LdK K H A ds) : LdK K H' A ds := by
  obtain ⟨us, e, pd⟩ := h
  exact ⟨us, k _ _ e (by intro _ _ _ z; cases z) (by intro _ z; cases z), Paired.mono pd fun _ _ => NdAt.keep k.tk⟩
end
/-- the numbers and deeds that the law keeps -/
structure DsI (ds : List (Int × Dd)) (n : Int) (N : Nat) : Prop where
  wf : WFd ds
  nd : (ds.map (·.1)).Nodup
  pos : ∀ x ∈ ds, 0 ≤ x.1
  lt : ∀ x ∈ ds, x.1 < n
  n0 : 0 ≤ n
  len : ds.length ≤ N
def putN (ds : List (Int × Dd)) (n : Int) (δ : Dd) : Int := if fitsL ds δ = true ∧ roomS (mkS (ds ++ [(n, δ)])) = none then n + 1 else n
theorem DsI.put {ds : List (Int × Dd)} {n : Int} {N : Nat} (h : DsI ds n N) (δ : Dd) : DsI (putS ds n δ) (putN ds n δ) (N + 1) := by
  obtain ⟨wf, nd, pos, lt, n0, len⟩ := h
  unfold putS putN
  by_cases hc : fitsL ds δ = true ∧ roomS (mkS (ds ++ [(n, δ)])) = none
  · rw [if_pos hc, if_pos hc]
    have hn : n ∉ ds.map (·.1) := fun z => by
      obtain ⟨x, hx, e⟩ := List.mem_map.mp z
      have := lt x hx
      omega
    refine ⟨wf_snoc wf (fits_ok (lnk wf nd) hc.1), nd_snoc nd hn, fun x hx => ?_, fun x hx => ?_, by omega, by rw [List.length_append]; exact Nat.succ_le_succ len⟩
    · rcases List.mem_append.mp hx with hx | hx
      · exact pos x hx
      · rw [List.mem_singleton.mp hx]; exact n0
    · rcases List.mem_append.mp hx with hx | hx
      · have := lt x hx
        omega
      · rw [List.mem_singleton.mp hx]
        show n < n + 1
        omega
  · rw [if_neg hc, if_neg hc]
    exact ⟨wf, nd, pos, lt, n0, by omega⟩
theorem DsI.und {ds : List (Int × Dd)} {n : Int} {N : Nat} (h : DsI ds n N) (d : PyData) : DsI (undS ds d) n N := by
  obtain ⟨wf, nd, pos, lt, n0, len⟩ := h
  unfold undS
  by_cases hc : keyB ds d = true ∧ leanL ds (intD d) = [] ∧ roomS (mkS (asDrop ds (intD d))) = none
  · rw [if_pos hc]
    exact ⟨wf_drop wf nd hc.2.1, drop_nodup nd, fun x hx => pos x (List.mem_filter.mp hx).1, fun x hx => lt x (List.mem_filter.mp hx).1, n0, Nat.le_trans asDrop_len len⟩
  · rw [if_neg hc]
    exact ⟨wf, nd, pos, lt, n0, len⟩
theorem DsI.notin {ds : List (Int × Dd)} {n : Int} {N : Nat} (h : DsI ds n N) : n ∉ ds.map (·.1) := fun z => by
  obtain ⟨x, hx, e⟩ := List.mem_map.mp z
  have := h.lt x hx
  omega
theorem DsI.small {ds : List (Int × Dd)} {n : Int} {N : Nat} (h : DsI ds n N) {k : Nat} (hk : N ≤ k) : (mkS ds).small k := by
  have := mkS_small h.wf ds.length (Nat.le_refl _)
  rw [List.take_length] at this
  obtain ⟨a1, a2, a3, a4⟩ := this
  have := h.len
  exact ⟨by omega, by omega, by omega, by omega⟩
theorem std_key {ds : List (Int × Dd)} (hp : ∀ x ∈ ds, 0 ≤ x.1) (d : PyData) : stdD ds d = keyB ds d := by
  cases d with
  | int k => exact std_int hp k
  | _ => rfl
theorem put_told {ds : List (Int × Dd)} {n : Int} {δ : Dd} : (if (putO ds n δ).w = ("told" : Str) then (1 : Int) else 0) + n = putN ds n δ := by
  by_cases hf : fitsL ds δ = true
  · cases hr : roomS (mkS (ds ++ [(n, δ)])) with
    | none =>
      have eo : putO ds n δ = .num n := by
        unfold putO
        rw [if_pos hf, hr]
      rw [eo, show putN ds n δ = n + 1 from if_pos ⟨hf, hr⟩]
      show (if ("told" : Str) = "told" then (1 : Int) else 0) + n = _
      rw [if_pos rfl]
      omega
    | some x =>
      have eo : putO ds n δ = .many x.1 x.2 := by
        unfold putO
        rw [if_pos hf, hr]
      rw [eo, show putN ds n δ = n from if_neg (fun z => by rw [hr] at z; exact nomatch z.2)]
      show (if ("many" : Str) = "told" then (1 : Int) else 0) + n = _
      rw [if_neg (by decide +kernel)]
      omega
  · have eo : putO ds n δ = .ref 11 := if_neg hf
    rw [eo, show putN ds n δ = n from if_neg fun z => hf z.1]
    show (if ("refused" : Str) = "told" then (1 : Int) else 0) + n = _
    rw [if_neg (by decide +kernel)]
    omega
/-- what stands between two turns -/
structure RI (K : PySem.W.Frag) (CT : Nat → Addr) (TS : List (Addr × Str)) (H : Hp) (st p A a : Addr) (n : Int) (ds : List (Int × Dd)) (ns : List Int) : Prop where
  hs : IsSx H st
  ht : LamX.Tabs TS H
  hS : SqL K H a (ns.map V.int)
  na : a ≠ st ∨ ∀ H', SqL K H' a (ns.map V.int)
  rc : ∃ D m L R B M, RollC K CT H p D m L R B M n ds ∧ L ≠ st ∧ M ≠ st
  hA : LdK K H A ds
  nA : A ≠ st
theorem Gw.sqL {TS : List (Addr × Str)} {K : PySem.W.Frag} {H H' : Hp} {a st : Addr} {xs : List V} (g : Gw TS st H H') (n : a ≠ st ∨ ∀ H', SqL K H' a xs) (h : SqL K H a xs) : SqL K H' a xs := by
  rcases n with n | n
  rotate_left 1
  · exact n _
  rcases h with (h | ⟨o, h⟩) | h
  · exact .inl (.inl (g.1 _ _ n lst_tbl h))
  · exact .inl (.inr ⟨o, g.1 _ _ n (fun ps z => by cases z) h⟩)
  · exact .inr h
theorem RI.gw {K : PySem.W.Frag} {CT : Nat → Addr} {TS : List (Addr × Str)} {H H' : Hp} {st p A a : Addr} {n : Int} {ds : List (Int × Dd)} {ns : List Int} (h : RI K CT TS H st p A a n ds ns) (g : Gw TS st H H') : RI K CT TS H' st p A a n ds ns := by
  obtain ⟨hs, ht, hS, na, ⟨D, m, L, R, B, M, rc, nL, nM⟩, hA, nA⟩ := h
  exact ⟨g.2.1 hs, g.2.2 ht, g.sqL na hS, na, ⟨D, m, L, R, B, M, rc.gw hs nL nM g, nL, nM⟩, hA.gw hs nA g, nA⟩
def DgK (K : PySem.W.Frag) (H : Hp) (v : V) (d : PyData) : Prop := ∀ H', TKeep K H H' → Dg K (fun _ => none) H' true v d
theorem DgK.keep {K : PySem.W.Frag} {H H' : Hp} {v : V} {d : PyData} (h : DgK K H v d) (k : TKeep K H H') : DgK K H' v d := fun H2 k2 => h H2 fun a xs z => k2 _ _ (k _ _ z)

section
variable {P : Program} {w : World} {K : PySem.W.Frag} {mg : Str → Option Value} {base : Heap}
def sp_law (K : PySem.W.Frag) (TS : List (Addr × Str)) : Sp := fun vs H Q _ => ∃ (a : Addr) (ns : List Int), vs = [.ref a] ∧ SqL K H a (ns.map V.int) ∧ ns.length ≤ 63 ∧ LamX.Tabs TS H ∧ ∀ H', Q (.bl true) H'
theorem ok_law {f g cc PP : Addr} {fd fdm : FuncData} {c : Nat → Addr} {LE : Addr} {TS : List (Addr × Str)} (F : FunC K "law" "law" s_law f fd cc) (T : Txt K mg) (TX : ExcN K mg c LE) (MR : Mkr base mg cc PP "law" TS) {CT : Nat → Addr} (TC : ClT K w mg CT) (Fm : Fun K "_law_met" "_law_met" s__law_met g fdm) (mm : mg "_law_met" = some (.ref g)) (bm : Binds K fdm ["_law_call"] []) (DE : ClE P w K mg base 1 "_law_classes" ["_law_e"] (spCls c)) (D__law_state : Cl P w K mg base 2 "_law_state" ["_law_script", "_law_k"] (sp__law_state K)) (D_Roll__init : Mi P w K mg base 3 (CT 1) "Roll" ["self"] (sp_Roll__init K CT)) (D__law_take : Cl P w K mg base 1 "_law_take" ["_law_state_here", "_law_many"] (sp__law_take K)) (D__law_deed : Cl P w K mg base 2 "_law_deed" ["_law_state_here", "_law_deeds"] (sp__law_deed K)) (D__law_put : Cl P w K mg base 3 "_law_put" ["_law_deeds", "_law_number", "_law_deed_here"] (sp__law_put K)) (D_Roll__put : MlX P w K mg base 7 (CT 1) "put" ["self", "deed"] (sp_Roll__put K c CT)) (D__law_leaning : Cl P w K mg base 1 "_law_leaning" ["_law_deeds", "_law_number"] (sp__law_leaning K)) (D__law_undone : Cl P w K mg base 3 "_law_undone" ["_law_deeds", "_law_number"] (sp__law_undone K)) (D_Roll__undo : MlX P w K mg base 5 (CT 1) "undo" ["self", "number"] (sp_Roll__undo K c CT)) (D__law_leans_right : Cl P w K mg base 6 "_law_leans_right" ["_law_state_here", "_law_roll", "_law_deeds"] (sp__law_leans_right K TS CT)) (D__law_stands_so : Cl P w K mg base 5 "_law_stands_so" ["_law_roll", "_law_deeds"] (sp__law_stands_so K CT)) : FnOk P w K mg base CX0 10 f fd ["_law_script"] (sp_law K TS) := by
  refine fun_okL F sc_law (fun vs H Q E h => ?_) (fun A outer s H vs Q E hr h => ?_)
  · obtain ⟨a, ns, rfl, _⟩ := h
    rfl
  · obtain ⟨a, ns, rfl, hS, hlen, hT0, q⟩ := h
    refine ⟨_, (pss_cons (ps_for PassesOwn.never rfl (pi_range1 (by rfl) T.b_range (pa_cons (pe_callB (call_max2 rfl) (by rfl) T.b_max (by decide +kernel) (pa_cons pe_int (pa_cons (pe_callB (call_min2 rfl) (by rfl) T.b_min (by decide +kernel) (pa_cons (pe_callB call_len_seq (by rfl) T.b_len (by decide +kernel) (pa_cons (pv 0) pa_nil)) (pa_cons pe_int pa_nil))) pa_nil))) pa_nil)) (pg_name (i := 1) sc_law.nd rfl (Or.inl rfl))
        (pss_cons (ps_set (i := 2) sc_law.nd rfl (Or.inl rfl) (pe_own D__law_state (hr.mono (by omega)) (by rfl) (pa_cons (pv 0) (pa_cons (pv 1) pa_nil))))
      (pss_cons (ps_asg (pe_tup (pa_cons (pe_new D_Roll__init (hr.mono (by omega)) (by rfl)) (pa_cons (pe_lst pa_nil) (pa_cons pe_int pa_nil)))) (pg_tup (by rfl) (pgs_cons (pg_name (i := 3) sc_law.nd rfl (Or.inr rfl)) (pgs_cons (pg_name (i := 4) sc_law.nd rfl (Or.inr rfl)) (pgs_cons (pg_name (i := 5) sc_law.nd rfl (Or.inl rfl)) pgs_nil)))))
      (pss_one (ps_for PassesOwn.never rfl (pi_range1 (by rfl) T.b_range (pa_cons (pe_op op_add pe_int (pe_own D__law_take (hr.mono (by omega)) (by rfl) (pa_cons (pv 2) (pa_cons pe_int pa_nil)))) pa_nil)) (pg_name (i := 6) sc_law.nd rfl (Or.inl rfl))
        (pss_cons (ps_set (i := 7) sc_law.nd rfl (Or.inr rfl) (pe_own D__law_deed (hr.mono (by omega)) (by rfl) (pa_cons (pv 2) (pa_cons (pv 4) pa_nil))))
      (pss_cons (ps_asg (pe_own D__law_put (hr.mono (by omega)) (by rfl) (pa_cons (pv 4) (pa_cons (pv 5) (pa_cons (pv 7) pa_nil)))) (pg_tup (by rfl) (pgs_cons (pg_name (i := 8) sc_law.nd rfl (Or.inl rfl)) (pgs_cons (pg_name (i := 4) sc_law.nd rfl (Or.inr rfl)) pgs_nil))))
      (C8.pss_cut (ps_if (pt_cmpR (op_neD hr.units) (pe_met (k := 7) (met_mk Fm mm bm T TX DE (hr.mono (by omega))) (by rfl) MR.tb rfl MR.hm MR.hu (hr.mono (by omega)) (LamX.lamS_by (sc := defScope s_law) (by decide +kernel)) (fun A outer s H E f c' hr => (pe_mthX D_Roll__put TC.cR (hr.mono (by omega)) (takes_of rfl rfl rfl rfl) (pv 3) (pa_cons (pv 7) pa_nil)))) (pv 8) (nomark _)) (pss_one (ps_ret pe_bl)) pss_nil)
      (C8.pss_cut (ps_set (i := 5) sc_law.nd rfl (Or.inl rfl) (pe_op op_add (pv 5) (pe_callTy call_int1 (by rfl) T.b_int (by decide +kernel) (pa_cons (pe_cmpR op_eq (pe_ix ix_tup (pv 8) pe_int (fun _ _ => rfl)) pe_str (nomark _)) pa_nil))))
      (pss_cons (ps_for PassesOwn.never rfl (pi_range1 (by rfl) T.b_range (pa_cons (pe_op op_fdivN (pe_own D__law_take (hr.mono (by omega)) (by rfl) (pa_cons (pv 2) (pa_cons pe_int pa_nil))) pe_int) pa_nil)) (pg_name (i := 9) sc_law.nd rfl (Or.inl rfl))
        (C8.pss_cut (ps_set (i := 10) sc_law.nd rfl (Or.inl rfl) (pe_op op_cat (pe_lc (own := [("_law_one", 14), ("_law_other", 15)]) (g := (gTup _ 2 (gCons (gName 14) (gCons (gName 15) gNil)))) (tt := tYes) (by rfl) sc_law.nd (pi_list (pv 4)) (blkOk_by (own := [("_law_one", 14), ("_law_other", 15)]) (N := ["_law_script", "_law_k", "_law_state_here", "_law_roll", "_law_deeds", "_law_number", "_law_turn", "_law_deed_here", "_law_due", "_law_lap", "_law_some", "_law_free", "_law_spot", "_law_odd", "_law_one", "_law_other"]) (sc := defScope s_law) (by decide +kernel)) (fun _ _ _ _ _ => (pg_tup (by rfl) (pgs_cons (pg_name (i := 14) sc_law.nd rfl (Or.inl rfl)) (pgs_cons (pg_name (i := 15) sc_law.nd rfl (Or.inl rfl)) pgs_nil)))) (fun _ _ _ _ _ => pts_nil) (fun _ _ _ _ _ => (pv 14))) (pe_lst (pa_cons (pv 5) (pa_cons (pe_op op_add (pv 5) pe_int) (pa_cons (pe_own D__law_take (hr.mono (by omega)) (by rfl) (pa_cons (pv 2) (pa_cons pe_int pa_nil))) pa_nil))))))
      (pss_cons (ps_setLc (i := 11) (own := [("_law_one", 14), ("_law_other", 15)]) (g := (gTup _ 2 (gCons (gName 14) (gCons (gName 15) gNil)))) (by rfl) sc_law.nd rfl rfl (sw_true rfl rfl rfl (by decide +kernel)) (pi_list (pv 4)) (blkOk_by (own := [("_law_one", 14), ("_law_other", 15)]) (N := ["_law_script", "_law_k", "_law_state_here", "_law_roll", "_law_deeds", "_law_number", "_law_turn", "_law_deed_here", "_law_due", "_law_lap", "_law_some", "_law_free", "_law_spot", "_law_odd", "_law_one", "_law_other"]) (sc := defScope s_law) (by decide +kernel)) (fun _ _ _ _ _ => (pg_tup (by rfl) (pgs_cons (pg_name (i := 14) sc_law.nd rfl (Or.inl rfl)) (pgs_cons (pg_name (i := 15) sc_law.nd rfl (Or.inl rfl)) pgs_nil)))) (fun _ _ _ _ _ => (pts_one (pt_cmpR (r := rEqD K) (op_eqD hr.units) (pe_own D__law_leaning (hr.mono (by omega)) (by rfl) (pa_cons (pv 4) (pa_cons (pv 14) pa_nil))) (pe_lst pa_nil) (nomark _)))) (fun _ _ _ _ _ => (pv 14)))
      (pss_cons (ps_set (i := 12) sc_law.nd rfl (Or.inr rfl) (pe_ix ix_list (pe_op op_cat (pv 11) (pv 10)) (pe_own D__law_take (hr.mono (by omega)) (by rfl) (pa_cons (pv 2) (pa_cons (pe_callB call_len_seq (by rfl) T.b_len (by decide +kernel) (pa_cons (pe_op op_cat (pv 11) (pv 10)) pa_nil)) pa_nil))) (fun _ _ => rfl)))
      (pss_cons (ps_set (i := 13) sc_law.nd rfl (Or.inl rfl) (pe_lst (pa_cons (pe_un un_neg pe_int) (pa_cons pe_bl (pa_cons pe_non (pa_cons pe_str (pa_cons (pe_tup (pa_cons pe_int pa_nil)) (pa_cons (pe_op op_pow pe_int pe_int) pa_nil))))))))
      (C8.pss_cut (ps_set (i := 12) sc_law.nd rfl (Or.inr rfl) (pe_ifExp (pt_cmpR op_eq (pe_own D__law_take (hr.mono (by omega)) (by rfl) (pa_cons (pv 2) (pa_cons pe_int pa_nil))) pe_int (nomark _)) (pe_ix ix_list (pv 13) (pe_own D__law_take (hr.mono (by omega)) (by rfl) (pa_cons (pv 2) (pa_cons pe_int pa_nil))) (fun _ _ => rfl)) (pv 12)))
      (pss_cons (ps_asg (pe_own D__law_undone (hr.mono (by omega)) (by rfl) (pa_cons (pv 4) (pa_cons (pv 12) pa_nil))) (pg_tup (by rfl) (pgs_cons (pg_name (i := 8) sc_law.nd rfl (Or.inl rfl)) (pgs_cons (pg_name (i := 4) sc_law.nd rfl (Or.inr rfl)) pgs_nil))))
      (pss_one (ps_if (pt_cmpR (op_neD hr.units) (pe_met (k := 5) (met_mk Fm mm bm T TX DE (hr.mono (by omega))) (by rfl) MR.tb rfl MR.hm MR.hu (hr.mono (by omega)) (LamX.lamS_by (sc := defScope s_law) (by decide +kernel)) (fun A outer s H E f c' hr => (pe_mthX D_Roll__undo TC.cR (hr.mono (by omega)) (takes_of rfl rfl rfl rfl) (pv 3) (pa_cons (pv 12) pa_nil)))) (pv 8) (nomark _)) (pss_one (ps_ret pe_bl)) pss_nil)))))))))
      (pss_one (ps_if (PW.pt (pw_or (pt_not (pt_val (pe_own D__law_leans_right (hr.mono (by omega)) (by rfl) (pa_cons (pv 2) (pa_cons (pv 3) (pa_cons (pv 4) pa_nil)))))) (pw_or1 (pt_not (pt_val (pe_own D__law_stands_so (hr.mono (by omega)) (by rfl) (pa_cons (pv 3) (pa_cons (pv 4) pa_nil)))))))) (pss_one (ps_ret pe_bl)) pss_nil))))))))))))
      (pss_one (ps_ret pe_bl))), ?_⟩
    obtain ⟨c1, c0, c2, ec⟩ : ∃ c : Int, 0 ≤ c ∧ c ≤ 2 ∧ (if (if (2 : Int) < ((ns.map V.int).length : Int) then (2 : Int) else ((ns.map V.int).length : Int)) > 1 then (if (2 : Int) < ((ns.map V.int).length : Int) then (2 : Int) else ((ns.map V.int).length : Int)) else (1 : Int)) = c := by
      refine ⟨_, ?_, ?_, rfl⟩ <;> (repeat' split) <;> omega
    refine ⟨_, rfl, a, _, rfl, .inl hS, _, _, rfl, _, _, rfl, c1, ?_, by omega, by omega, ?_⟩
    · rw [ec]
    refine for_range (lo := 0) (n := c1.toNat) (fun i σ H' => (SqL K H' a (ns.map V.int) ∧ LamX.Tabs TS H') ∧ ∃ y1 y2 y3 y4 y5 y6 y7 y8 y9 y10 y11 y12 y13, σ = [some (.ref a), y1, y2, y3, y4, y5, y6, y7, y8, y9, y10, y11, y12, y13, none, none])
      ⟨⟨hS, hT0⟩, none, none, none, none, none, none, none, none, none, none, none, none, none, rfl⟩ ?_ (fun _ H' _ => q H')
    rintro i σ H0 hi ⟨⟨hS0, hT1⟩, y1, y2, y3, y4, y5, y6, y7, y8, y9, y10, y11, y12, y13, rfl⟩
    refine ⟨_, rfl, _, rfl, a, ns, _, rfl, hS0, by omega, fun H1 st s1 n1 hs1 => ?_⟩
    intro p dx np ndx nex
    have s2 : Same H1 (upd (upd H1 dx (.own p)) p (.ins (CT 1) dx [])) := fun b o e => by
      rw [upd_ne (ne_of_none e np), upd_ne (ne_of_none e ndx)]
      exact e
    refine ⟨H1, p, dx, rfl, upd_same, s2, np, fun H2 D m L R B M s2 nD nL nM rc => ⟨rfl, ?_⟩⟩
    refine ⟨(by show 0 ≤ sizeLine; decide), fun A nA => ?_⟩
    obtain ⟨s3, e3⟩ := new_at (.lst []) nA
    generalize upd H2 A (.lst []) = H3 at s3 e3 ⊢
    refine ⟨(by show 3 ≤ sizeLine; decide), fun t nt => ?_⟩
    obtain ⟨s4, e4⟩ := new_at (.tup [.ref p, .ref A, .int 0]) nt
    generalize upd H3 t (.tup [.ref p, .ref A, .int 0]) = H4 at s4 e4 ⊢
    have hs2 : IsSx H2 st := (gx_same (st := st) s2).2.1 hs1
    have na : a ≠ st ∨ ∀ H', SqL K H' a (ns.map V.int) := by
      rcases hS0 with (h | ⟨o, h⟩) | h
      · exact .inl (ne_of_none h n1)
      · exact .inl (ne_of_none h n1)
      · exact .inr fun _ => .inr h
    have s14 := s2.trans (s3.trans s4)
    have I0 : RI K CT TS H4 st p A a 0 [] ns := ⟨(gx_same (st := st) s14).2.1 hs1, (hT1.ext s1).ext s14, (Gw.sqL (gw_same (TS := TS) (s1.trans s14)) na hS0), na, ⟨D, m, L, R, B, M, rc.same (s3.trans s4), sx_ne hs1 nL, sx_ne hs1 nM⟩, ⟨[], s4 _ _ e3, .nil⟩, sx_ne hs2 nA⟩
    have J0 : DsI [] 0 0 := ⟨(fun i n δ h => by cases h), .nil, (fun x hx => by cases hx), (fun x hx => by cases hx), Int.le_refl _, Nat.le_refl _⟩
    refine ⟨t, _, rfl, .inl (.inl e4), rfl, _, _, rfl, _, _, rfl, _, _, rfl, rfl, ?_⟩
    refine ⟨_, rfl, st, 41, rfl, I0.hs, by decide, by decide, fun r H5 r0 r1 g5 => ⟨_, _, rfl, rfl, 10 + r, rfl, by omega, by omega, ?_⟩⟩
    refine for_range (lo := 0) (n := (10 + r).toNat) (fun j σ H' => (∃ A n ds, RI K CT TS H' st p A a n ds ns ∧ DsI ds n j ∧ ∃ y6 y7 y8 y9 y10 y11 y12 y13, σ = [some (.ref a), some (.int (0 + (i : Int))), some (.ref st), some (.ref p), some (.ref A), some (.int n), y6, y7, y8, y9, y10, y11, y12, y13, none, none]))
      ⟨A, 0, [], I0.gw g5.l, J0, _, _, _, _, _, _, _, _, rfl⟩ ?_ (fun σ H' z => by
        obtain ⟨A, n, ds, I, J, z6, z7, z8, z9, z10, z11, z12, z13, rfl⟩ := z
        exact ⟨⟨I.hS, I.ht⟩, _, _, _, _, _, _, _, _, _, _, _, _, _, rfl⟩)
    rintro j σ H6 hj ⟨A, n, ds, I, J, y6, y7, y8, y9, y10, y11, y12, y13, rfl⟩
    have hj50 : j ≤ 50 := by omega
    have l3 : ds.length ≤ 300 := Nat.le_trans J.len (by omega)
    clear I0 J0 e4 s4 e3 s3 rc hs2 s14
    refine ⟨_, rfl, _, rfl, st, A, ds, rfl, I.hs, I.hA, l3, J.pos, fun H7 v δ g7 hv hg => ?_⟩
    have I7 := I.gw (g7.l (TS := TS))
    refine ⟨_, rfl, _, rfl, _, rfl, A, ds, n, v, δ, rfl, I7.hA, Nat.le_trans J.len (by omega), J.wf, J.nd, J.notin, hv, fun H8 t u A' s8 ht hu hA' hLd => ?_⟩
    refine ⟨t, _, rfl, ht, rfl, _, _, rfl, _, _, rfl, rfl, ?_⟩
    have I8 := I7.gw (gw_same (TS := TS) s8)
    have nA' : A' ≠ st := by
      rcases hA' with h | h
      · rw [h]; exact I.nA
      · exact sx_ne I7.hs h
    have hv8 := hv.keep (Same.tk s8)
    have L := lnk J.wf J.nd
    refine ⟨fun σ' H' => σ' = [some (.ref a), some (.int (0 + (i : Int))), some (.ref st), some (.ref p), some (.ref A'), some (.int n), some (.int (0 + (j : Int))), some v, some u, y9, y10, y11, y12, y13, none, none] ∧ RI K CT TS H' st p A' a (putN ds n δ) (putS ds n δ) ns ∧ DueAt K H' u (putO ds n δ), ?_, ?_⟩
    · refine ⟨I8.ht, fun H9 e9 t9 => ?_⟩
      have g9 : Gw TS st H8 H9 := gw_ext (st := st) e9 t9
      have I9 := I8.gw g9
      have tk9 : TKeep K H8 H9 := g9.tk I8.hs
      have hu9 := hu.keep tk9
      have hL9 := hLd.gw I8.hs nA' g9
      have hv9 := hv8.keep tk9
      obtain ⟨D, m, L', R, B, M, rc, nL, nM⟩ := I9.rc
      obtain ⟨dx, hob⟩ := rc.ob
      obtain ⟨kvs, hD, _⟩ := rc.dd
      have et := tak_fits L hg
      refine ⟨_, rfl, p, dx, _, rfl, hob, rfl, _, rfl, p, D, m, L', R, B, M, n, ds, H9, true, v, ddD δ, rfl, rc, ⟨l3, J.lt⟩, J.small (by omega), lnk_nd J.wf J.nd, hv9.dg, ?_, fun hf Ha sa => ?_, fun hf => ⟨δ, hv9, ?_, ?_, fun b1 b2 hr Ha d' sa nd' ed' => ?_, fun hr Ha m' L2 R2 B2 M2 ka nL2 nM2 rca => ?_⟩⟩
      · intro es e
        injection e with e
        rw [← e]
        show (δ.nums.map PyData.int).length + 1 ≤ 1000
        rw [List.length_map]
        cases δ <;> (show _ + 1 ≤ 1000; simp [Dd.nums])
      · rw [et] at hf
        have eo : putO ds n δ = .ref 11 := if_neg (by rw [hf]; decide)
        have es : putS ds n δ = ds := if_neg fun z => by rw [hf] at z; exact absurd z.1 (by decide)
        have en : putN ds n δ = n := if_neg fun z => by rw [hf] at z; exact absurd z.1 (by decide)
        refine ⟨11, by decide, rfl, fun dd e => (nomatch e), fun _ Hb t2 sb nt2 et2 => ?_, fun z => absurd z (by decide), fun z => absurd z (by decide)⟩
        have gb := gw_same (TS := TS) (st := st) (sa.trans sb)
        have hub := hu9.keep (Same.tk (sa.trans sb))
        refine ⟨_, rfl, ne_eqd (d := (putO ds n δ).d) (by rw [eo]; exact ref_dp (.inl (.inl et2))) hub.dp ⟨_, Out.sd _, by decide⟩ ⟨_, rfl, iteF ⟨rfl, ?_, hub⟩⟩⟩
        have Ib := I9.gw gb
        rw [en]
        rw [es] at hL9 ⊢
        exact ⟨Ib.hs, Ib.ht, Ib.hS, Ib.na, Ib.rc, hL9.gw I9.hs nA' gb, nA'⟩
      · rw [et] at hf
        exact fits_ok L hf
      · rw [et] at hf
        rw [← mkS_snoc]
        exact lnk_nd (wf_snoc J.wf (fits_ok L hf)) (nd_snoc J.nd J.notin)
      · rw [et] at hf
        rw [← mkS_snoc] at hr
        have eo : putO ds n δ = .many b1 b2 := by
          unfold putO
          rw [if_pos hf, hr]
        have es : putS ds n δ = ds := if_neg fun z => by rw [hr] at z; exact nomatch z.2
        have en : putN ds n δ = n := if_neg fun z => by rw [hr] at z; exact nomatch z.2
        refine ⟨14, by decide, rfl, fun dd e => ⟨_, by cases e; exact ed'⟩, fun z => absurd z (by decide), fun _ => ⟨d', _, _, _, rfl, ed', rfl, rfl, fun Hb t2 q2 sb npd eq ep => ?_⟩, fun z => absurd z (by decide)⟩
        have gb := gw_same (TS := TS) (st := st) (sa.trans sb)
        have hub := hu9.keep (Same.tk (sa.trans sb))
        refine ⟨_, rfl, ne_eqd (d := (putO ds n δ).d) (by rw [eo]; exact many_dp (.inl (.inl ep)) (.inl (.inl eq))) hub.dp ⟨_, Out.sd _, by decide⟩ ⟨_, rfl, iteF ⟨rfl, ?_, hub⟩⟩⟩
        have Ib := I9.gw gb
        rw [en]
        rw [es] at hL9 ⊢
        exact ⟨Ib.hs, Ib.ht, Ib.hS, Ib.na, Ib.rc, hL9.gw I9.hs nA' gb, nA'⟩
      · rw [et] at hf
        rw [← mkS_snoc] at hr
        have eo : putO ds n δ = .num n := by
          unfold putO
          rw [if_pos hf, hr]
        have es : putS ds n δ = ds ++ [(n, δ)] := if_pos ⟨hf, hr⟩
        have en : putN ds n δ = n + 1 := if_pos ⟨hf, hr⟩
        refine ⟨(by show 2 ≤ sizeLine; decide), fun t2 nt2 => ?_⟩
        have kl : KeepL H9 Ha := keep2 hob hD ka
        obtain ⟨sb, eb⟩ := new_at (.tup [.str "told", .int n]) nt2
        generalize upd Ha t2 (.tup [.str "told", .int n]) = Hb at sb eb ⊢
        have hub := (hu9.keep kl.tk).keep (Same.tk sb)
        refine ⟨_, rfl, ne_eqd (d := (putO ds n δ).d) (by rw [eo]; exact told_dp (.inl (.inl eb)) (.int n)) hub.dp ⟨_, Out.sd _, by decide⟩ ⟨_, rfl, iteF ⟨rfl, ?_, hub⟩⟩⟩
        rw [en, es]
        rw [es] at hL9
        refine ⟨(gx_same (st := st) sb).2.1 (kl.sx I9.hs), (kl.tabs I9.ht).ext sb, ?_, I9.na, ⟨D, m', L2, R2, B2, M2, rca.same sb, sx_ne I9.hs nL2, sx_ne I9.hs nM2⟩, (kl.ld hL9).same sb, nA'⟩
        exact (KeepL.of sb).sqL (kl.sqL I9.hS)
    rintro σ' H9 ⟨rfl, I9, hu9⟩
    have J9 := J.put δ
    obtain ⟨u', x', rfl, hu1, _⟩ := hu9
    have pt := put_told (ds := ds) (n := n) (δ := δ)
    generalize putN ds n δ = n' at I9 J9 pt
    generalize putS ds n δ = ds' at I9 J9
    generalize putO ds n δ = o' at hu1 pt
    clear hv hv8 hg I I7 I8 hu hLd L ht s8 g7 J l3 hA'
    refine ⟨fun σ' H' => σ' = [some (.ref a), some (.int (0 + (i : Int))), some (.ref st), some (.ref p), some (.ref A'), some (.int n'), some (.int (0 + (j : Int))), some v, some (.ref u'), y9, y10, y11, y12, y13, none, none] ∧ RI K CT TS H' st p A' a n' ds' ns, ?_, ?_⟩
    · have en : n + (if decide (V.str o'.w = .str "told") = true then (1 : Int) else 0) = n' := by
        rw [← pt]
        by_cases h : o'.w = ("told" : Str)
        · rw [if_pos h, if_pos (decide_eq_true (by rw [h]))]
          omega
        · rw [if_neg h, if_neg (sv_ne h)]
          omega
      refine ⟨_, rfl, _, rfl, u', _, 0, _, rfl, rfl, hu1, at0, rfl, .inr ⟨_, rfl, _, _, rfl, rfl, ?_, I9⟩⟩
      rw [← en]
      rfl
    rintro σ' Ha ⟨rfl, Ia⟩
    clear hu1 pt I9
    have N50 : j + 1 ≤ 60 := by omega
    refine ⟨_, rfl, st, 5, rfl, Ia.hs, by decide, by decide, fun r Hb r0 r1 gb => ⟨_, _, rfl, rfl, ⟨by decide, by omega⟩, r.fdiv 3, rfl, ?_, ?_, ?_⟩⟩
    · rw [Int.fdiv_eq_ediv_of_nonneg _ (by decide)]; omega
    · rw [Int.fdiv_eq_ediv_of_nonneg _ (by decide)]; omega
    refine for_range (lo := 0) (n := (r.fdiv 3).toNat) (fun l σ H' => (∃ A ds, RI K CT TS H' st p A a n' ds ns ∧ DsI ds n' (j + 1) ∧ ∃ y8 y9 y10 y11 y12 y13, σ = [some (.ref a), some (.int (0 + (i : Int))), some (.ref st), some (.ref p), some (.ref A), some (.int n'), some (.int (0 + (j : Int))), some v, y8, y9, y10, y11, y12, y13, none, none]))
      ⟨A', ds', Ia.gw gb.l, J9, _, _, _, _, _, _, rfl⟩ ?_ ?_
    · rintro l σ Hc hl ⟨A, ds, I, J, y8, y9, y10, y11, y12, y13, rfl⟩
      have l3 : ds.length ≤ 60 := Nat.le_trans J.len N50
      clear Ia J9 gb nA'
      -- the numbers that stand, and some others
      refine ⟨fun σ' H' => ∃ (S : Addr) (ms : List Int), σ' = [some (.ref a), some (.int (0 + (i : Int))), some (.ref st), some (.ref p), some (.ref A), some (.int n'), some (.int (0 + (j : Int))), some v, y8, some (.int (0 + (l : Int))), some (.ref S), y11, y12, y13, none, none] ∧ RI K CT TS H' st p A a n' ds ns ∧ H' S = some (.lst (ms.map V.int)) ∧ S ≠ st ∧ 0 < ms.length ∧ ms.length ≤ 100, ?_, ?_⟩
      · obtain ⟨us, eA, pd⟩ := I.hA
        refine ⟨_, rfl, A, rfl, ⟨_, .inl (.inl eA)⟩, fun G hG => ?_⟩
        refine lcfil (fun _ => true) (fun x => x.1) eA pd (by omega) hG (fun i u x H1 R Z hu hx hn s1 hR hZ => ?_) (fun H1 s1 eG => ?_)
        · obtain ⟨t, y, rfl, ht, py, rfl, hy⟩ := hn
          exact ⟨t, _, rfl, ht, rfl, _, _, rfl, _, _, rfl, rfl, rfl, yes_ok ⟨_, rfl, hR rfl _ (Same.refl _)⟩⟩
        rw [filter_yes] at eG
        have I1 := I.gw (gw_same (TS := TS) s1)
        have nG := sx_ne I.hs hG
        refine ⟨_, rfl, _, rfl, _, _, rfl, rfl, _, rfl, st, 60, rfl, I1.hs, by decide, by decide, fun r2 H2 r20 r21 g2 => ⟨(by show 3 ≤ sizeLine; decide), fun N nN => ?_⟩⟩
        obtain ⟨s3, e3⟩ := new_at (.lst [.int n', .int (n' + 7), .int r2]) nN
        generalize upd H2 N (.lst [.int n', .int (n' + 7), .int r2]) = H3 at s3 e3 ⊢
        have I3 := (I1.gw g2.l).gw (gw_same (TS := TS) s3)
        refine ⟨G, N, _, _, rfl, rfl, s3 _ _ (g2.1 _ _ nG lst_tbl eG), e3, ?_, fun C nC => ?_⟩
        · rw [List.length_map, List.length_map]
          exact Nat.le_of_lt (small1000 (by show ds.length + 3 ≤ 1000; omega))
        have s4 := same_upd (o := .lst ((ds.map (·.1)).map V.int ++ [.int n', .int (n' + 7), .int r2])) nC
        refine ⟨C, ds.map (·.1) ++ [n', n' + 7, r2], rfl, I3.gw (gw_same (TS := TS) s4), ?_, sx_ne I3.hs nC, ?_, ?_⟩
        · rw [List.map_append]
          exact upd_same
        · rw [List.length_append]
          exact Nat.lt_of_lt_of_le (by decide) (Nat.le_add_left 3 _)
        · rw [List.length_append, List.length_map]
          show ds.length + 3 ≤ 100
          omega
      rintro σ' Hd ⟨S, ms, rfl, Id, eS, nS, m0, m1⟩
      clear I
      -- those on which nothing leans
      obtain ⟨us, eA, pd⟩ := Id.hA
      refine ⟨_, rfl, A, rfl, ⟨_, .inl (.inl eA)⟩, fun F hF => ?_⟩
      refine lcfil (fun x => decide (leanL ds x.1 = [])) (fun x => x.1) eA pd (by omega) hF (fun i u x H1 R Z hu hx hn s1 hR hZ => ?_) (fun H1 s1 eF => ?_)
      · obtain ⟨t, y, rfl, ht, py, rfl, hy⟩ := hn
        refine ⟨t, _, rfl, ht, rfl, _, _, rfl, _, _, rfl, rfl, rfl, _, rfl, _, rfl, A, ds, x.1, rfl, LdK.same ⟨us, eA, pd⟩ s1, by omega, fun H2 X s2 nX eX => ⟨(by show 0 ≤ sizeLine; decide), fun E nE => ?_⟩⟩
        have s3 := same_upd (o := .lst []) nE
        refine eq_data (k := 1) (ints_dpl (ns := leanL ds x.1) (.inl (.inl (s3 _ _ eX)))) (.lst (.inl (.inl upd_same)) .nil) Sd.ints (Sd.lst fun e he => by cases he) (by decide) (fun b hb => ⟨_, rfl, ?_⟩)
        have hb' : b = true ↔ leanL ds x.1 = [] := by
          rw [hb]
          constructor
          · intro z
            injection z with z
            exact List.map_eq_nil_iff.mp z
          · intro z
            rw [z]
            rfl
        cases b with
        | true => exact iteT ⟨_, rfl, hR (decide_eq_true (hb'.mp rfl)) _ (s2.trans s3)⟩
        | false => exact iteF (hZ (decide_eq_false fun z => by have := hb'.mpr z; cases this) _ (s2.trans s3))
      have I1 := Id.gw (gw_same (TS := TS) s1)
      have nF := sx_ne Id.hs hF
      have eS1 := s1 _ _ eS
      generalize hfr : (ds.filter fun x => decide (leanL ds x.1 = [])).map (·.1) = fr at eF
      have lf : fr.length ≤ 60 := by
        rw [← hfr]
        exact Nat.le_trans filter_map_len l3
      clear hfr pd eA eS Id
      -- a number among them
      refine ⟨_, rfl, _, rfl, F, S, _, _, rfl, rfl, eF, eS1, ?_, fun C nC => ?_⟩
      · rw [List.length_map, List.length_map]
        exact Nat.le_of_lt (small1000 (by omega))
      obtain ⟨s2, e2⟩ := new_at (.lst (fr.map V.int ++ ms.map V.int)) nC
      have nCs := sx_ne I1.hs nC
      generalize upd H1 C (.lst (fr.map V.int ++ ms.map V.int)) = H2 at s2 e2 ⊢
      refine ⟨_, rfl, _, rfl, _, rfl, F, S, _, _, rfl, rfl, s2 _ _ eF, s2 _ _ eS1, ?_, fun C2 nC2 => ?_⟩
      · rw [List.length_map, List.length_map]
        exact Nat.le_of_lt (small1000 (by omega))
      obtain ⟨s3, e3⟩ := new_at (.lst (fr.map V.int ++ ms.map V.int)) nC2
      generalize upd H2 C2 (.lst (fr.map V.int ++ ms.map V.int)) = H3 at s3 e3 ⊢
      have I3 := I1.gw (gw_same (TS := TS) (s2.trans s3))
      have lc : (fr.map V.int ++ ms.map V.int).length = fr.length + ms.length := by rw [List.length_append, List.length_map, List.length_map]
      refine ⟨C2, _, rfl, .inl (.inl (.inl e3)), st, _, rfl, I3.hs, by rw [lc]; omega, by rw [lc]; omega, fun r2 H4 r20 r21 g4 => ?_⟩
      rw [lc] at r21
      obtain ⟨x, _, hat⟩ := ints_at (l := fr ++ ms) r20 (by rw [List.length_append]; exact r21)
      rw [List.map_append] at hat
      refine ⟨C, _, r2, _, rfl, rfl, .inl (.inl (g4.1 _ _ nCs lst_tbl (s3 _ _ e2))), hat, ?_⟩
      have I4 := I3.gw (g4.l (TS := TS))
      clear I1 I3 s1 s2 s3 e2 e3 eF eS1 g4 hat
      -- odd things
      refine ⟨1, rfl, (by show 1 ≤ sizeLine; decide), fun t nt => ?_⟩
      obtain ⟨s5, e5⟩ := new_at (.tup [.int 0]) nt
      generalize upd H4 t (.tup [.int 0]) = H5 at s5 e5 ⊢
      refine ⟨10, 29, rfl, rfl, ⟨by decide, by decide, by decide⟩, (by show 6 ≤ sizeLine; decide), fun W nW => ?_⟩
      have nWs := sx_ne ((gx_same (st := st) s5).2.1 I4.hs) nW
      obtain ⟨s6, e6⟩ := new_at (.lst [.int (-1), .bl true, .non, .str "0", .ref t, .int (10 ^ (29 : Int).toNat)]) nW
      generalize upd H5 W (.lst [.int (-1), .bl true, .non, .str "0", .ref t, .int (10 ^ (29 : Int).toNat)]) = H6 at s6 e6 ⊢
      have I6 := I4.gw (gw_same (TS := TS) (s5.trans s6))
      have et6 : SqT K H6 t [.int 0] := .inl (.inl (s6 _ _ e5))
      clear I4 s5 s6 e5
      refine ⟨fun σ' H' => ∃ (v' : V) (d : PyData), σ' = [some (.ref a), some (.int (0 + (i : Int))), some (.ref st), some (.ref p), some (.ref A), some (.int n'), some (.int (0 + (j : Int))), some v, y8, some (.int (0 + (l : Int))), some (.ref S), some (.ref F), some v', some (.ref W), none, none] ∧ RI K CT TS H' st p A a n' ds ns ∧ DgK K H' v' d, ?_, ?_⟩
      · refine ⟨_, rfl, st, 9, rfl, I6.hs, by decide, by decide, fun r3 H7 r30 r31 g7 => ⟨rfl, _, rfl, ite2 (fun _ => ?_) (fun _ => ?_)⟩⟩
        · have hs7 := g7.2.1 I6.hs
          refine ⟨_, rfl, _, rfl, st, 6, rfl, hs7, by decide, by decide, fun r4 H8 r40 r41 g8 => ?_⟩
          have g78 := g7.trans g8
          have k8 : TKeep K H6 H8 := g78.tk I6.hs
          obtain ⟨v', d, hat, hdg⟩ : ∃ v' d, atI [V.int (-1), .bl true, .non, .str "0", .ref t, .int (10 ^ (29 : Int).toNat)] r4 = some v' ∧ DgK K H8 v' d := by
            rcases (by omega : r4 = 0 ∨ r4 = 1 ∨ r4 = 2 ∨ r4 = 3 ∨ r4 = 4 ∨ r4 = 5) with e | e | e | e | e | e <;> subst e
            · exact ⟨_, _, rfl, fun _ _ => .int _⟩
            · exact ⟨_, _, rfl, fun _ _ => .bl _⟩
            · exact ⟨_, _, rfl, fun _ _ => .non⟩
            · exact ⟨_, _, rfl, fun _ _ => .str _⟩
            · exact ⟨_, _, rfl, fun _ k => .tup (k _ _ (k8 _ _ et6)) (.cons (.int _) .nil)⟩
            · exact ⟨_, _, rfl, fun _ _ => .int _⟩
          exact ⟨W, _, r4, _, rfl, rfl, .inl (.inl (g78.1 _ _ nWs lst_tbl e6)), hat, v', d, rfl, I6.gw g78.l, hdg⟩
        · exact ⟨_, rfl, _, _, rfl, I6.gw g7.l, fun _ _ => .int x⟩
      rintro σ' H7 ⟨v', d, rfl, I7, hdg⟩
      clear I6 e6 et6
      refine ⟨_, rfl, _, rfl, A, ds, _, true, v', d, rfl, I7.hA, by omega, J.wf, J.nd, hdg _ (fun _ _ z => z), fun H8 t u A2 s8 ht hu hA2 hLd => ?_⟩
      refine ⟨t, _, rfl, ht, rfl, _, _, rfl, _, _, rfl, rfl, ?_⟩
      have I8 := I7.gw (gw_same (TS := TS) s8)
      have nA2 : A2 ≠ st := by
        rcases hA2 with h | h
        · rw [h]; exact I7.nA
        · exact sx_ne I7.hs h
      have hd8 := hdg.keep (Same.tk s8)
      refine ⟨I8.ht, fun H9 e9 t9 => ?_⟩
      have g9 : Gw TS st H8 H9 := gw_ext (st := st) e9 t9
      have I9 := I8.gw g9
      have tk9 : TKeep K H8 H9 := g9.tk I8.hs
      have hu9 := hu.keep tk9
      have hL9 := hLd.gw I8.hs nA2 g9
      have hd9 := hd8 _ tk9
      have J9 := J.und d
      obtain ⟨D, m, L', R, B, M, rc, nL, nM⟩ := I9.rc
      obtain ⟨dx, hob⟩ := rc.ob
      have ek := std_key J.pos d
      have stay : undS ds d = ds → ∀ Hb, Same H9 Hb → RI K CT TS Hb st p A2 a n' (undS ds d) ns := fun es Hb sb => by
        have Ib := I9.gw (gw_same (TS := TS) sb)
        rw [es] at hL9 ⊢
        exact ⟨Ib.hs, Ib.ht, Ib.hS, Ib.na, Ib.rc, hL9.same sb, nA2⟩
      refine ⟨_, rfl, p, dx, _, rfl, hob, rfl, _, rfl, p, D, m, L', R, B, M, n', ds, _, true, v', d, rfl, rc, by omega, J.nd, hd9, fun hf Ha sa => ?_, fun k ev hf => ⟨fun hl Ha dd t2 sa nd ed ht2 => ?_, fun hl => ⟨?_, ?_, fun b1 b2 hr Ha d' sa nd' ed' => ?_, fun hr Ha D' m' L2 R2 B2 M2 ka nD2 nL2 nM2 rca => ?_⟩⟩⟩
      · rw [ek] at hf
        have eo : undO ds d = .ref 5 := if_neg (by rw [hf]; decide)
        have es : undS ds d = ds := if_neg fun z => by rw [hf] at z; exact absurd z.1 (by decide)
        refine ⟨5, by decide, rfl, fun dd e => (nomatch e), fun _ Hb t2 sb nt2 et2 => ?_, fun z => absurd z (by decide), fun z => absurd z (by decide)⟩
        exact ⟨_, rfl, ne_eqd (d := (undO ds d).d) (by rw [eo]; exact ref_dp (.inl (.inl et2))) (hu9.keep (Same.tk (sa.trans sb))).dp ⟨_, Out.sd _, by decide⟩ ⟨_, rfl, iteF ⟨A2, _, stay es _ (sa.trans sb), J9, _, _, _, _, _, _, rfl⟩⟩⟩
      · -- leaned upon
        rw [ek] at hf
        obtain ⟨k2, rfl⟩ : ∃ k2, d = .int k2 := by
          cases d with
          | int k2 => exact ⟨k2, rfl⟩
          | _ => cases hf
        have e2 : k = k2 := by
          subst ev
          cases hd9
          rfl
        subst e2
        have eo : undO ds (.int k) = .lean (leanL ds k) := by
          unfold undO
          rw [if_pos hf]
          exact if_neg hl
        have es : undS ds (.int k) = ds := if_neg fun z => hl z.2.1
        refine ⟨15, by decide, rfl, fun dd e => ⟨_, by cases e; exact ed⟩, fun z => absurd z (by decide), fun z => absurd z (by decide), fun _ => ⟨dd, _, _, rfl, ed, rfl, fun Hb t3 sb nt3 et3 => ?_⟩⟩
        exact ⟨_, rfl, ne_eqd (d := (undO ds (.int k)).d) (by rw [eo]; exact (.tup (.inl (.inl et3)) (.cons (.str _) (.cons (dk_ints (Same.sqT sb ht2)).dp .nil)))) (hu9.keep (Same.tk (sa.trans sb))).dp ⟨_, Out.sd _, by decide⟩ ⟨_, rfl, iteF ⟨A2, _, stay es _ (sa.trans sb), J9, _, _, _, _, _, _, rfl⟩⟩⟩
      · -- what is left stands by itself
        rw [ek] at hf
        obtain ⟨k2, rfl⟩ : ∃ k2, d = .int k2 := by
          cases d with
          | int k2 => exact ⟨k2, rfl⟩
          | _ => cases hf
        have e2 : k = k2 := by
          subst ev
          cases hd9
          rfl
        subst e2
        exact wf_drop J.wf J.nd hl
      · -- its rows are others
        rw [ek] at hf
        obtain ⟨k2, rfl⟩ : ∃ k2, d = .int k2 := by
          cases d with
          | int k2 => exact ⟨k2, rfl⟩
          | _ => cases hf
        have e2 : k = k2 := by
          subst ev
          cases hd9
          rfl
        subst e2
        exact lnk_nd (wf_drop J.wf J.nd hl) (drop_nodup J.nd)
      · -- too many
        rw [ek] at hf
        obtain ⟨k2, rfl⟩ : ∃ k2, d = .int k2 := by
          cases d with
          | int k2 => exact ⟨k2, rfl⟩
          | _ => cases hf
        have e2 : k = k2 := by
          subst ev
          cases hd9
          rfl
        subst e2
        have eo : undO ds (.int k) = .many b1 b2 := by
          unfold undO
          rw [if_pos hf, if_pos (show leanL ds (intD (.int k)) = [] from hl), show roomS (mkS (asDrop ds (intD (.int k)))) = _ from hr]
        have es : undS ds (.int k) = ds := if_neg fun z => by
          have : roomS (mkS (asDrop ds k)) = none := z.2.2
          rw [hr] at this
          exact nomatch this
        refine ⟨14, by decide, rfl, fun dd e => ⟨_, by cases e; exact ed'⟩, fun z => absurd z (by decide), fun _ => ⟨d', _, _, _, rfl, ed', rfl, rfl, fun Hb t2 q2 sb npd eq ep => ?_⟩, fun z => absurd z (by decide)⟩
        exact ⟨_, rfl, ne_eqd (d := (undO ds (.int k)).d) (by rw [eo]; exact many_dp (.inl (.inl ep)) (.inl (.inl eq))) (hu9.keep (Same.tk (sa.trans sb))).dp ⟨_, Out.sd _, by decide⟩ ⟨_, rfl, iteF ⟨A2, _, stay es _ (sa.trans sb), J9, _, _, _, _, _, _, rfl⟩⟩⟩
      · -- undone
        rw [ek] at hf
        obtain ⟨k2, rfl⟩ : ∃ k2, d = .int k2 := by
          cases d with
          | int k2 => exact ⟨k2, rfl⟩
          | _ => cases hf
        have e2 : k = k2 := by
          subst ev
          cases hd9
          rfl
        subst e2
        have eo : undO ds (.int k) = .nil := by
          unfold undO
          rw [if_pos hf, if_pos (show leanL ds (intD (.int k)) = [] from hl), show roomS (mkS (asDrop ds (intD (.int k)))) = _ from hr]
        have es : undS ds (.int k) = asDrop ds k := if_pos ⟨hf, hl, hr⟩
        refine ⟨(by show 2 ≤ sizeLine; decide), fun t2 nt2 => ?_⟩
        have kl : KeepL H9 Ha := keep1 hob ka
        obtain ⟨sb, eb⟩ := new_at (.tup [.str "told", .non]) nt2
        generalize upd Ha t2 (.tup [.str "told", .non]) = Hb at sb eb ⊢
        have hI : RI K CT TS Hb st p A2 a n' (undS ds (.int k)) ns := by
          rw [es] at hL9 ⊢
          exact ⟨(gx_same (st := st) sb).2.1 (kl.sx I9.hs), (kl.tabs I9.ht).ext sb, (KeepL.of sb).sqL (kl.sqL I9.hS), I9.na, ⟨D', m', L2, R2, B2, M2, rca.same sb, sx_ne I9.hs nL2, sx_ne I9.hs nM2⟩, (kl.ld hL9).same sb, nA2⟩
        exact ⟨_, rfl, ne_eqd (d := (undO ds (.int k)).d) (by rw [eo]; exact told_dp (.inl (.inl eb)) .non) ((hu9.keep kl.tk).keep (Same.tk sb)).dp ⟨_, Out.sd _, by decide⟩ ⟨_, rfl, iteF ⟨A2, _, hI, J9, _, _, _, _, _, _, rfl⟩⟩⟩
    · rintro σ Hc ⟨A, ds, I, J, y8, y9, y10, y11, y12, y13, rfl⟩
      have l3 : ds.length ≤ 300 := Nat.le_trans J.len (by omega)
      obtain ⟨D, m, L', R, B, M, rc, nL, nM⟩ := I.rc
      refine ⟨_, rfl, _, rfl, _, rfl, st, p, D, m, L', R, B, M, A, n', ds, rfl, I.hs, I.ht, rc, nL, nM, I.hA, I.nA, l3, J.pos, fun Hd gd => ⟨_, rfl, iteF ?_⟩⟩
      have Id := I.gw gd
      obtain ⟨D, m, L', R, B, M, rc, nL, nM⟩ := Id.rc
      refine ⟨_, rfl, _, rfl, p, D, m, L', R, B, M, A, n', ds, rfl, rc, Id.hA, l3, J.wf, J.nd, fun He se => ⟨_, rfl, iteF ?_⟩⟩
      exact ⟨A, n', ds, Id.gw (gw_same se), J, _, _, _, _, _, _, _, _, rfl⟩
end

theorem all_mk {l : PySem.W.OpenLaw} {w : World} {K : PySem.W.Frag} {h : Heap} {mg : Str → Option Value} {fa : Addr} {q : Program} (X : K.In h) (G : h.Ns mainGlobals mg) (hfa : mg "law" = some (.ref fa)) (TQ : TabsIn q K h)
    {f0 f1 f2 f3 f4 f5 f6 f7 f8 f9 f10 f11 f12 f13 f14 f15 f16 f17 f18 f19 f20 f21 f22 f23 f24 f25 f26 f27 f28 f29 f30 f31 f32 f33 f34 f35 f36 f37 f38 f39 f40 f41 f42 KC0 KC1 T9 tp0 tp1 tp2 tp3 tp4 tp5 tp6 tp7 C0 C1 C2 C3 C4 C5 C6 C7 C8 C9 C10 C11 C12 C13 C14 C15 LE cc41 PP41 cc42 PP42 : Addr} {od0 an0 od1 an1 od2 an2 od3 an3 od4 an4 od5 an5 od6 an6 od7 an7 od8 an8 od9 an9 od10 an10 od11 an11 od12 an12 od13 an13 od14 an14 od15 an15 od16 an16 od17 an17 od18 an18 od19 an19 od20 an20 od21 an21 od22 an22 od23 an23 od24 an24 od25 an25 od26 an26 od27 an27 od28 an28 od29 an29 od30 an30 od31 an31 od32 an32 od33 an33 od34 an34 od35 an35 od36 an36 od37 an37 od38 an38 od39 an39 od40 an40 od41 an41 od42 an42 dc_41 dc_42 : Option Addr} {sl0 sl1 sl2 sl3 sl4 sl5 sl6 sl7 sl8 sl9 sl10 sl11 sl12 sl13 sl14 sl15 sl16 sl17 sl18 sl19 sl20 sl21 sl22 sl23 sl24 sl25 sl26 sl27 sl28 sl29 sl30 sl31 sl32 sl33 sl34 sl35 sl36 sl37 sl38 sl39 sl40 sl41 sl42 slc41 slc42 : Array (Option Value)} {oc0 kV0 dc0 pm0 ct0 cd0 oc1 kV1 dc1 pm1 ct1 cd1 oc2 kV2 dc2 pm2 ct2 cd2 oc3 kV3 dc3 pm3 ct3 cd3 oc4 kV4 dc4 pm4 ct4 cd4 oc5 kV5 dc5 pm5 ct5 cd5 oc6 kV6 dc6 pm6 ct6 cd6 oc7 kV7 dc7 pm7 ct7 cd7 oc8 kV8 dc8 pm8 ct8 cd8 oc9 kV9 dc9 pm9 ct9 cd9 oc10 kV10 dc10 pm10 ct10 cd10 oc11 kV11 dc11 pm11 ct11 cd11 oc12 kV12 dc12 pm12 ct12 cd12 oc13 kV13 dc13 pm13 ct13 cd13 oc14 kV14 dc14 pm14 ct14 cd14 oc15 kV15 dc15 pm15 ct15 cd15 oc16 kV16 dc16 pm16 ct16 cd16 oc17 kV17 dc17 pm17 ct17 cd17 oc18 kV18 dc18 pm18 ct18 cd18 oc19 kV19 dc19 pm19 ct19 cd19 oc20 kV20 dc20 pm20 ct20 cd20 oc21 kV21 dc21 pm21 ct21 cd21 oc22 kV22 dc22 pm22 ct22 cd22 oc23 kV23 dc23 pm23 ct23 cd23 oc24 kV24 dc24 pm24 ct24 cd24 oc25 kV25 dc25 pm25 ct25 cd25 oc26 kV26 dc26 pm26 ct26 cd26 oc27 kV27 dc27 pm27 ct27 cd27 oc28 kV28 dc28 pm28 ct28 cd28 oc29 kV29 dc29 pm29 ct29 cd29 oc30 kV30 dc30 pm30 ct30 cd30 oc31 kV31 dc31 pm31 ct31 cd31 oc32 kV32 dc32 pm32 ct32 cd32 oc33 kV33 dc33 pm33 ct33 cd33 oc34 kV34 dc34 pm34 ct34 cd34 oc35 kV35 dc35 pm35 ct35 cd35 oc36 kV36 dc36 pm36 ct36 cd36 oc37 kV37 dc37 pm37 ct37 cd37 oc38 kV38 dc38 pm38 ct38 cd38 oc39 kV39 dc39 pm39 ct39 cd39 oc40 kV40 dc40 pm40 ct40 cd40 oc41 kV41 dc41 pm41 ct41 oc42 kV42 dc42 pm42 ct42 ec41 ec42 : Value} {vc41 vc42 : Array Value} {t0 t1 t2 t3 t4 t5 t6 : Tok}
    (gKC0 : PySem.W.nsIn K mainGlobals "Made" = some (some (.ref KC0))) (pgKC0 : PySem.W.plainGet K KC0 Str.empty = true) (hdKC0 : PySem.W.hasDictIn K KC0 = true) (poKC0 : PySem.W.plainOver K KC0 = true) (saKC0 : PySem.W.findIn K (.ref KC0) "__setattr__" = some (some (.builtin "object.__setattr__"))) (mkKC0 : PySem.W.makesIn K KC0 = true) (kpKC0 : PySem.W.keepIn K (.ref KC0) = true)
    (naKC0layers : PySem.W.findIn K (.ref KC0) "layers" = some none)
    (naKC0rows : PySem.W.findIn K (.ref KC0) "rows" = some none)
    (naKC0backs : PySem.W.findIn K (.ref KC0) "backs" = some none)
    (naKC0moves : PySem.W.findIn K (.ref KC0) "moves" = some none)
    (gKC1 : PySem.W.nsIn K mainGlobals "Roll" = some (some (.ref KC1))) (pgKC1 : PySem.W.plainGet K KC1 Str.empty = true) (hdKC1 : PySem.W.hasDictIn K KC1 = true) (poKC1 : PySem.W.plainOver K KC1 = true) (saKC1 : PySem.W.findIn K (.ref KC1) "__setattr__" = some (some (.builtin "object.__setattr__"))) (mkKC1 : PySem.W.makesIn K KC1 = true) (kpKC1 : PySem.W.keepIn K (.ref KC1) = true)
    (naKC1deeds : PySem.W.findIn K (.ref KC1) "deeds" = some none)
    (naKC1made : PySem.W.findIn K (.ref KC1) "made" = some none)
    (naKC1numbered : PySem.W.findIn K (.ref KC1) "numbered" = some none)
    (gPA : PySem.W.nsIn K mainGlobals "PARTS" = some (some (.ref T9))) (dW : He.dicW K T9 = some (He.keysIn w.params ["layer", "row", "draw", "hold", "drop", "round", "straight", "move"]))
    (pn0 : PySem.W.nsIn K T9 "layer" = some (some (.ref tp0))) (pw0 : tupW K tp0 = some [])
    (pn1 : PySem.W.nsIn K T9 "row" = some (some (.ref tp1))) (pw1 : tupW K tp1 = some [some ("layer" : Str), some ("drawing" : Str), some ("hold" : Str)])
    (pn2 : PySem.W.nsIn K T9 "draw" = some (some (.ref tp2))) (pw2 : tupW K tp2 = some [some ("row" : Str), some ("drawing" : Str)])
    (pn3 : PySem.W.nsIn K T9 "hold" = some (some (.ref tp3))) (pw3 : tupW K tp3 = some [some ("row" : Str), some ("hold" : Str)])
    (pn4 : PySem.W.nsIn K T9 "drop" = some (some (.ref tp4))) (pw4 : tupW K tp4 = some [some ("row" : Str)])
    (pn5 : PySem.W.nsIn K T9 "round" = some (some (.ref tp5))) (pw5 : tupW K tp5 = some [some ("row" : Str)])
    (pn6 : PySem.W.nsIn K T9 "straight" = some (some (.ref tp6))) (pw6 : tupW K tp6 = some [some ("layer" : Str)])
    (pn7 : PySem.W.nsIn K T9 "move" = some (some (.ref tp7))) (pw7 : tupW K tp7 = some [some ("way" : Str), some ("way" : Str), some ("many" : Str)])
    (a0 : PySem.W.nsIn K mainGlobals "_law_met" = some (some (.ref f0))) (l0 : K.lookup f0 = some ⟨oc0, od0, .func (PySem.W.fnOf "_law_met" "_law_met" (defArgs s__law_met) (defBody s__law_met) (defScope s__law_met) .none kV0 dc0 pm0 an0 cd0 ct0), sl0⟩) (c0 : PySem.W.codeIn K cd0 "_law_met" = true) (k0 : PySem.W.keepIn K (.ref f0) = true)
    (a1 : PySem.W.nsIn K mainGlobals "_law_classes" = some (some (.ref f1))) (l1 : K.lookup f1 = some ⟨oc1, od1, .func (PySem.W.fnOf "_law_classes" "_law_classes" (defArgs s__law_classes) (defBody s__law_classes) (defScope s__law_classes) .none kV1 dc1 pm1 an1 cd1 ct1), sl1⟩) (c1 : PySem.W.codeIn K cd1 "_law_classes" = true) (k1 : PySem.W.keepIn K (.ref f1) = true)
    (a2 : PySem.W.nsIn K mainGlobals "is_whole_from" = some (some (.ref f2))) (l2 : K.lookup f2 = some ⟨oc2, od2, .func (PySem.W.fnOf "is_whole_from" "is_whole_from" (defArgs s_is_whole_from) (defBody s_is_whole_from) (defScope s_is_whole_from) .none kV2 dc2 pm2 an2 cd2 ct2), sl2⟩) (c2 : PySem.W.codeIn K cd2 "is_whole_from" = true) (k2 : PySem.W.keepIn K (.ref f2) = true)
    (a3 : PySem.W.nsIn K mainGlobals "is_whole" = some (some (.ref f3))) (l3 : K.lookup f3 = some ⟨oc3, od3, .func (PySem.W.fnOf "is_whole" "is_whole" (defArgs s_is_whole) (defBody s_is_whole) (defScope s_is_whole) .none kV3 dc3 pm3 an3 cd3 ct3), sl3⟩) (c3 : PySem.W.codeIn K cd3 "is_whole" = true) (k3 : PySem.W.keepIn K (.ref f3) = true)
    (a4 : PySem.W.nsIn K mainGlobals "need_at_most" = some (some (.ref f4))) (l4 : K.lookup f4 = some ⟨oc4, od4, .func (PySem.W.fnOf "need_at_most" "need_at_most" (defArgs s_need_at_most) (defBody s_need_at_most) (defScope s_need_at_most) .none kV4 dc4 pm4 an4 cd4 ct4), sl4⟩) (c4 : PySem.W.codeIn K cd4 "need_at_most" = true) (k4 : PySem.W.keepIn K (.ref f4) = true)
    (a5 : PySem.W.nsIn K mainGlobals "is_drawing" = some (some (.ref f5))) (l5 : K.lookup f5 = some ⟨oc5, od5, .func (PySem.W.fnOf "is_drawing" "is_drawing" (defArgs s_is_drawing) (defBody s_is_drawing) (defScope s_is_drawing) .none kV5 dc5 pm5 an5 cd5 ct5), sl5⟩) (c5 : PySem.W.codeIn K cd5 "is_drawing" = true) (k5 : PySem.W.keepIn K (.ref f5) = true)
    (a6 : PySem.W.nsIn K mainGlobals "is_hold" = some (some (.ref f6))) (l6 : K.lookup f6 = some ⟨oc6, od6, .func (PySem.W.fnOf "is_hold" "is_hold" (defArgs s_is_hold) (defBody s_is_hold) (defScope s_is_hold) .none kV6 dc6 pm6 an6 cd6 ct6), sl6⟩) (c6 : PySem.W.codeIn K cd6 "is_hold" = true) (k6 : PySem.W.keepIn K (.ref f6) = true)
    (a7 : PySem.W.nsIn K mainGlobals "is_way" = some (some (.ref f7))) (l7 : K.lookup f7 = some ⟨oc7, od7, .func (PySem.W.fnOf "is_way" "is_way" (defArgs s_is_way) (defBody s_is_way) (defScope s_is_way) .none kV7 dc7 pm7 an7 cd7 ct7), sl7⟩) (c7 : PySem.W.codeIn K cd7 "is_way" = true) (k7 : PySem.W.keepIn K (.ref f7) = true)
    (a8 : PySem.W.nsIn K mainGlobals "is_many" = some (some (.ref f8))) (l8 : K.lookup f8 = some ⟨oc8, od8, .func (PySem.W.fnOf "is_many" "is_many" (defArgs s_is_many) (defBody s_is_many) (defScope s_is_many) .none kV8 dc8 pm8 an8 cd8 ct8), sl8⟩) (c8 : PySem.W.codeIn K cd8 "is_many" = true) (k8 : PySem.W.keepIn K (.ref f8) = true)
    (a9 : PySem.W.nsIn K mainGlobals "is_plain_part" = some (some (.ref f9))) (l9 : K.lookup f9 = some ⟨oc9, od9, .func (PySem.W.fnOf "is_plain_part" "is_plain_part" (defArgs s_is_plain_part) (defBody s_is_plain_part) (defScope s_is_plain_part) .none kV9 dc9 pm9 an9 cd9 ct9), sl9⟩) (c9 : PySem.W.codeIn K cd9 "is_plain_part" = true) (k9 : PySem.W.keepIn K (.ref f9) = true)
    (a10 : PySem.W.nsIn K mainGlobals "named" = some (some (.ref f10))) (l10 : K.lookup f10 = some ⟨oc10, od10, .func (PySem.W.fnOf "named" "named" (defArgs s_named) (defBody s_named) (defScope s_named) .none kV10 dc10 pm10 an10 cd10 ct10), sl10⟩) (c10 : PySem.W.codeIn K cd10 "named" = true) (k10 : PySem.W.keepIn K (.ref f10) = true)
    (a11 : PySem.W.findIn K (.ref KC0) "__init__" = some (some (.ref f11))) (l11 : K.lookup f11 = some ⟨oc11, od11, .func (PySem.W.fnOf "__init__" "Made.__init__" (defArgs s_Made__init) (defBody s_Made__init) (defScope s_Made__init) .none kV11 dc11 pm11 an11 cd11 ct11), sl11⟩) (c11 : PySem.W.codeIn K cd11 "Made.__init__" = true) (k11 : PySem.W.keepIn K (.ref f11) = true) (n11 : PySem.W.isFn K (.ref f11) = true)
    (a12 : PySem.W.findIn K (.ref KC0) "twin" = some (some (.ref f12))) (l12 : K.lookup f12 = some ⟨oc12, od12, .func (PySem.W.fnOf "twin" "Made.twin" (defArgs s_Made__twin) (defBody s_Made__twin) (defScope s_Made__twin) .none kV12 dc12 pm12 an12 cd12 ct12), sl12⟩) (c12 : PySem.W.codeIn K cd12 "Made.twin" = true) (k12 : PySem.W.keepIn K (.ref f12) = true) (n12 : PySem.W.isFn K (.ref f12) = true)
    (a13 : PySem.W.findIn K (.ref KC0) "fits" = some (some (.ref f13))) (l13 : K.lookup f13 = some ⟨oc13, od13, .func (PySem.W.fnOf "fits" "Made.fits" (defArgs s_Made__fits) (defBody s_Made__fits) (defScope s_Made__fits) .none kV13 dc13 pm13 an13 cd13 ct13), sl13⟩) (c13 : PySem.W.codeIn K cd13 "Made.fits" = true) (k13 : PySem.W.keepIn K (.ref f13) = true) (n13 : PySem.W.isFn K (.ref f13) = true)
    (a14 : PySem.W.findIn K (.ref KC0) "takes" = some (some (.ref f14))) (l14 : K.lookup f14 = some ⟨oc14, od14, .func (PySem.W.fnOf "takes" "Made.takes" (defArgs s_Made__takes) (defBody s_Made__takes) (defScope s_Made__takes) .none kV14 dc14 pm14 an14 cd14 ct14), sl14⟩) (c14 : PySem.W.codeIn K cd14 "Made.takes" = true) (k14 : PySem.W.keepIn K (.ref f14) = true) (n14 : PySem.W.isFn K (.ref f14) = true)
    (a15 : PySem.W.findIn K (.ref KC0) "follow_row" = some (some (.ref f15))) (l15 : K.lookup f15 = some ⟨oc15, od15, .func (PySem.W.fnOf "follow_row" "Made.follow_row" (defArgs s_Made__follow_row) (defBody s_Made__follow_row) (defScope s_Made__follow_row) .none kV15 dc15 pm15 an15 cd15 ct15), sl15⟩) (c15 : PySem.W.codeIn K cd15 "Made.follow_row" = true) (k15 : PySem.W.keepIn K (.ref f15) = true) (n15 : PySem.W.isFn K (.ref f15) = true)
    (a16 : PySem.W.findIn K (.ref KC0) "follow" = some (some (.ref f16))) (l16 : K.lookup f16 = some ⟨oc16, od16, .func (PySem.W.fnOf "follow" "Made.follow" (defArgs s_Made__follow) (defBody s_Made__follow) (defScope s_Made__follow) .none kV16 dc16 pm16 an16 cd16 ct16), sl16⟩) (c16 : PySem.W.codeIn K cd16 "Made.follow" = true) (k16 : PySem.W.keepIn K (.ref f16) = true) (n16 : PySem.W.isFn K (.ref f16) = true)
    (a17 : PySem.W.findIn K (.ref KC0) "rows_in" = some (some (.ref f17))) (l17 : K.lookup f17 = some ⟨oc17, od17, .func (PySem.W.fnOf "rows_in" "Made.rows_in" (defArgs s_Made__rows_in) (defBody s_Made__rows_in) (defScope s_Made__rows_in) .none kV17 dc17 pm17 an17 cd17 ct17), sl17⟩) (c17 : PySem.W.codeIn K cd17 "Made.rows_in" = true) (k17 : PySem.W.keepIn K (.ref f17) = true) (n17 : PySem.W.isFn K (.ref f17) = true)
    (a18 : PySem.W.findIn K (.ref KC0) "need_room" = some (some (.ref f18))) (l18 : K.lookup f18 = some ⟨oc18, od18, .func (PySem.W.fnOf "need_room" "Made.need_room" (defArgs s_Made__need_room) (defBody s_Made__need_room) (defScope s_Made__need_room) .none kV18 dc18 pm18 an18 cd18 ct18), sl18⟩) (c18 : PySem.W.codeIn K cd18 "Made.need_room" = true) (k18 : PySem.W.keepIn K (.ref f18) = true) (n18 : PySem.W.isFn K (.ref f18) = true)
    (a19 : PySem.W.findIn K (.ref KC0) "layer_made" = some (some (.ref f19))) (l19 : K.lookup f19 = some ⟨oc19, od19, .func (PySem.W.fnOf "layer_made" "Made.layer_made" (defArgs s_Made__layer_made) (defBody s_Made__layer_made) (defScope s_Made__layer_made) .none kV19 dc19 pm19 an19 cd19 ct19), sl19⟩) (c19 : PySem.W.codeIn K cd19 "Made.layer_made" = true) (k19 : PySem.W.keepIn K (.ref f19) = true) (n19 : PySem.W.isFn K (.ref f19) = true)
    (a20 : PySem.W.findIn K (.ref KC0) "sheet_made" = some (some (.ref f20))) (l20 : K.lookup f20 = some ⟨oc20, od20, .func (PySem.W.fnOf "sheet_made" "Made.sheet_made" (defArgs s_Made__sheet_made) (defBody s_Made__sheet_made) (defScope s_Made__sheet_made) .none kV20 dc20 pm20 an20 cd20 ct20), sl20⟩) (c20 : PySem.W.codeIn K cd20 "Made.sheet_made" = true) (k20 : PySem.W.keepIn K (.ref f20) = true) (n20 : PySem.W.isFn K (.ref f20) = true)
    (a21 : PySem.W.nsIn K mainGlobals "made_anew" = some (some (.ref f21))) (l21 : K.lookup f21 = some ⟨oc21, od21, .func (PySem.W.fnOf "made_anew" "made_anew" (defArgs s_made_anew) (defBody s_made_anew) (defScope s_made_anew) .none kV21 dc21 pm21 an21 cd21 ct21), sl21⟩) (c21 : PySem.W.codeIn K cd21 "made_anew" = true) (k21 : PySem.W.keepIn K (.ref f21) = true)
    (a22 : PySem.W.findIn K (.ref KC1) "__init__" = some (some (.ref f22))) (l22 : K.lookup f22 = some ⟨oc22, od22, .func (PySem.W.fnOf "__init__" "Roll.__init__" (defArgs s_Roll__init) (defBody s_Roll__init) (defScope s_Roll__init) .none kV22 dc22 pm22 an22 cd22 ct22), sl22⟩) (c22 : PySem.W.codeIn K cd22 "Roll.__init__" = true) (k22 : PySem.W.keepIn K (.ref f22) = true) (n22 : PySem.W.isFn K (.ref f22) = true)
    (a23 : PySem.W.findIn K (.ref KC1) "need_standing" = some (some (.ref f23))) (l23 : K.lookup f23 = some ⟨oc23, od23, .func (PySem.W.fnOf "need_standing" "Roll.need_standing" (defArgs s_Roll__need_standing) (defBody s_Roll__need_standing) (defScope s_Roll__need_standing) .none kV23 dc23 pm23 an23 cd23 ct23), sl23⟩) (c23 : PySem.W.codeIn K cd23 "Roll.need_standing" = true) (k23 : PySem.W.keepIn K (.ref f23) = true) (n23 : PySem.W.isFn K (.ref f23) = true)
    (a24 : PySem.W.findIn K (.ref KC1) "put" = some (some (.ref f24))) (l24 : K.lookup f24 = some ⟨oc24, od24, .func (PySem.W.fnOf "put" "Roll.put" (defArgs s_Roll__put) (defBody s_Roll__put) (defScope s_Roll__put) .none kV24 dc24 pm24 an24 cd24 ct24), sl24⟩) (c24 : PySem.W.codeIn K cd24 "Roll.put" = true) (k24 : PySem.W.keepIn K (.ref f24) = true) (n24 : PySem.W.isFn K (.ref f24) = true)
    (a25 : PySem.W.findIn K (.ref KC1) "sheet_now" = some (some (.ref f25))) (l25 : K.lookup f25 = some ⟨oc25, od25, .func (PySem.W.fnOf "sheet_now" "Roll.sheet_now" (defArgs s_Roll__sheet_now) (defBody s_Roll__sheet_now) (defScope s_Roll__sheet_now) .none kV25 dc25 pm25 an25 cd25 ct25), sl25⟩) (c25 : PySem.W.codeIn K cd25 "Roll.sheet_now" = true) (k25 : PySem.W.keepIn K (.ref f25) = true) (n25 : PySem.W.isFn K (.ref f25) = true)
    (a26 : PySem.W.findIn K (.ref KC1) "standing" = some (some (.ref f26))) (l26 : K.lookup f26 = some ⟨oc26, od26, .func (PySem.W.fnOf "standing" "Roll.standing" (defArgs s_Roll__standing) (defBody s_Roll__standing) (defScope s_Roll__standing) .none kV26 dc26 pm26 an26 cd26 ct26), sl26⟩) (c26 : PySem.W.codeIn K cd26 "Roll.standing" = true) (k26 : PySem.W.keepIn K (.ref f26) = true) (n26 : PySem.W.isFn K (.ref f26) = true)
    (a27 : PySem.W.findIn K (.ref KC1) "leaning" = some (some (.ref f27))) (l27 : K.lookup f27 = some ⟨oc27, od27, .func (PySem.W.fnOf "leaning" "Roll.leaning" (defArgs s_Roll__leaning) (defBody s_Roll__leaning) (defScope s_Roll__leaning) .none kV27 dc27 pm27 an27 cd27 ct27), sl27⟩) (c27 : PySem.W.codeIn K cd27 "Roll.leaning" = true) (k27 : PySem.W.keepIn K (.ref f27) = true) (n27 : PySem.W.isFn K (.ref f27) = true)
    (a28 : PySem.W.findIn K (.ref KC1) "undo" = some (some (.ref f28))) (l28 : K.lookup f28 = some ⟨oc28, od28, .func (PySem.W.fnOf "undo" "Roll.undo" (defArgs s_Roll__undo) (defBody s_Roll__undo) (defScope s_Roll__undo) .none kV28 dc28 pm28 an28 cd28 ct28), sl28⟩) (c28 : PySem.W.codeIn K cd28 "Roll.undo" = true) (k28 : PySem.W.keepIn K (.ref f28) = true) (n28 : PySem.W.isFn K (.ref f28) = true)
    (a29 : PySem.W.nsIn K mainGlobals "_law_cell_at" = some (some (.ref f29))) (l29 : K.lookup f29 = some ⟨oc29, od29, .func (PySem.W.fnOf "_law_cell_at" "_law_cell_at" (defArgs s__law_cell_at) (defBody s__law_cell_at) (defScope s__law_cell_at) .none kV29 dc29 pm29 an29 cd29 ct29), sl29⟩) (c29 : PySem.W.codeIn K cd29 "_law_cell_at" = true) (k29 : PySem.W.keepIn K (.ref f29) = true)
    (a30 : PySem.W.nsIn K mainGlobals "_law_state" = some (some (.ref f30))) (l30 : K.lookup f30 = some ⟨oc30, od30, .func (PySem.W.fnOf "_law_state" "_law_state" (defArgs s__law_state) (defBody s__law_state) (defScope s__law_state) .none kV30 dc30 pm30 an30 cd30 ct30), sl30⟩) (c30 : PySem.W.codeIn K cd30 "_law_state" = true) (k30 : PySem.W.keepIn K (.ref f30) = true)
    (a31 : PySem.W.nsIn K mainGlobals "_law_take" = some (some (.ref f31))) (l31 : K.lookup f31 = some ⟨oc31, od31, .func (PySem.W.fnOf "_law_take" "_law_take" (defArgs s__law_take) (defBody s__law_take) (defScope s__law_take) .none kV31 dc31 pm31 an31 cd31 ct31), sl31⟩) (c31 : PySem.W.codeIn K cd31 "_law_take" = true) (k31 : PySem.W.keepIn K (.ref f31) = true)
    (a32 : PySem.W.nsIn K mainGlobals "_law_known" = some (some (.ref f32))) (l32 : K.lookup f32 = some ⟨oc32, od32, .func (PySem.W.fnOf "_law_known" "_law_known" (defArgs s__law_known) (defBody s__law_known) (defScope s__law_known) .none kV32 dc32 pm32 an32 cd32 ct32), sl32⟩) (c32 : PySem.W.codeIn K cd32 "_law_known" = true) (k32 : PySem.W.keepIn K (.ref f32) = true)
    (a33 : PySem.W.nsIn K mainGlobals "_law_fits" = some (some (.ref f33))) (l33 : K.lookup f33 = some ⟨oc33, od33, .func (PySem.W.fnOf "_law_fits" "_law_fits" (defArgs s__law_fits) (defBody s__law_fits) (defScope s__law_fits) .none kV33 dc33 pm33 an33 cd33 ct33), sl33⟩) (c33 : PySem.W.codeIn K cd33 "_law_fits" = true) (k33 : PySem.W.keepIn K (.ref f33) = true)
    (a34 : PySem.W.nsIn K mainGlobals "_law_room" = some (some (.ref f34))) (l34 : K.lookup f34 = some ⟨oc34, od34, .func (PySem.W.fnOf "_law_room" "_law_room" (defArgs s__law_room) (defBody s__law_room) (defScope s__law_room) .none kV34 dc34 pm34 an34 cd34 ct34), sl34⟩) (c34 : PySem.W.codeIn K cd34 "_law_room" = true) (k34 : PySem.W.keepIn K (.ref f34) = true)
    (a35 : PySem.W.nsIn K mainGlobals "_law_made" = some (some (.ref f35))) (l35 : K.lookup f35 = some ⟨oc35, od35, .func (PySem.W.fnOf "_law_made" "_law_made" (defArgs s__law_made) (defBody s__law_made) (defScope s__law_made) .none kV35 dc35 pm35 an35 cd35 ct35), sl35⟩) (c35 : PySem.W.codeIn K cd35 "_law_made" = true) (k35 : PySem.W.keepIn K (.ref f35) = true)
    (a36 : PySem.W.nsIn K mainGlobals "_law_leaning" = some (some (.ref f36))) (l36 : K.lookup f36 = some ⟨oc36, od36, .func (PySem.W.fnOf "_law_leaning" "_law_leaning" (defArgs s__law_leaning) (defBody s__law_leaning) (defScope s__law_leaning) .none kV36 dc36 pm36 an36 cd36 ct36), sl36⟩) (c36 : PySem.W.codeIn K cd36 "_law_leaning" = true) (k36 : PySem.W.keepIn K (.ref f36) = true)
    (a37 : PySem.W.nsIn K mainGlobals "_law_deed" = some (some (.ref f37))) (l37 : K.lookup f37 = some ⟨oc37, od37, .func (PySem.W.fnOf "_law_deed" "_law_deed" (defArgs s__law_deed) (defBody s__law_deed) (defScope s__law_deed) .none kV37 dc37 pm37 an37 cd37 ct37), sl37⟩) (c37 : PySem.W.codeIn K cd37 "_law_deed" = true) (k37 : PySem.W.keepIn K (.ref f37) = true)
    (a38 : PySem.W.nsIn K mainGlobals "_law_undone" = some (some (.ref f38))) (l38 : K.lookup f38 = some ⟨oc38, od38, .func (PySem.W.fnOf "_law_undone" "_law_undone" (defArgs s__law_undone) (defBody s__law_undone) (defScope s__law_undone) .none kV38 dc38 pm38 an38 cd38 ct38), sl38⟩) (c38 : PySem.W.codeIn K cd38 "_law_undone" = true) (k38 : PySem.W.keepIn K (.ref f38) = true)
    (a39 : PySem.W.nsIn K mainGlobals "_law_put" = some (some (.ref f39))) (l39 : K.lookup f39 = some ⟨oc39, od39, .func (PySem.W.fnOf "_law_put" "_law_put" (defArgs s__law_put) (defBody s__law_put) (defScope s__law_put) .none kV39 dc39 pm39 an39 cd39 ct39), sl39⟩) (c39 : PySem.W.codeIn K cd39 "_law_put" = true) (k39 : PySem.W.keepIn K (.ref f39) = true)
    (a40 : PySem.W.nsIn K mainGlobals "_law_stands_so" = some (some (.ref f40))) (l40 : K.lookup f40 = some ⟨oc40, od40, .func (PySem.W.fnOf "_law_stands_so" "_law_stands_so" (defArgs s__law_stands_so) (defBody s__law_stands_so) (defScope s__law_stands_so) .none kV40 dc40 pm40 an40 cd40 ct40), sl40⟩) (c40 : PySem.W.codeIn K cd40 "_law_stands_so" = true) (k40 : PySem.W.keepIn K (.ref f40) = true)
    (a41 : PySem.W.nsIn K mainGlobals "_law_leans_right" = some (some (.ref f41))) (l41 : K.lookup f41 = some ⟨oc41, od41, .func (PySem.W.fnOf "_law_leans_right" "_law_leans_right" (defArgs s__law_leans_right) (defBody s__law_leans_right) (defScope s__law_leans_right) .none kV41 dc41 pm41 an41 (.ref cc41) ct41), sl41⟩) (c41 : PySem.W.codeIn K (.ref cc41) "_law_leans_right" = true) (k41 : PySem.W.keepIn K (.ref f41) = true)
    (lc41 : K.lookup cc41 = some ⟨ec41, dc_41, .fields vc41, slc41⟩) (v1141 : vc41[11]? = some (.ref PP41)) (tq41 : ((recsOf q).find? fun e => e.name == ("_law_leans_right" : Str)).isSome = true) (tt41 : PySem.W.tabIn K "_law_leans_right" = some (cc41, PP41)) (tn41 : K.lookup PP41 = none)
    (a42 : PySem.W.nsIn K mainGlobals "law" = some (some (.ref f42))) (l42 : K.lookup f42 = some ⟨oc42, od42, .func (PySem.W.fnOf "law" "law" (defArgs s_law) (defBody s_law) (defScope s_law) .none kV42 dc42 pm42 an42 (.ref cc42) ct42), sl42⟩) (c42 : PySem.W.codeIn K (.ref cc42) "law" = true) (k42 : PySem.W.keepIn K (.ref f42) = true)
    (lc42 : K.lookup cc42 = some ⟨ec42, dc_42, .fields vc42, slc42⟩) (v1142 : vc42[11]? = some (.ref PP42)) (tq42 : ((recsOf q).find? fun e => e.name == ("law" : Str)).isSome = true) (tt42 : PySem.W.tabIn K "law" = some (cc42, PP42)) (tn42 : K.lookup PP42 = none)
    (ne41_42 : PP41 ≠ PP42)
    (ne42_41 : PP42 ≠ PP41)
    (z_dict : PySem.W.nsIn K mainGlobals "dict" = some none)
    (z_ValueError : PySem.W.nsIn K mainGlobals "ValueError" = some none)
    (z_len : PySem.W.nsIn K mainGlobals "len" = some none)
    (z_isinstance : PySem.W.nsIn K mainGlobals "isinstance" = some none)
    (z_max : PySem.W.nsIn K mainGlobals "max" = some none)
    (z_min : PySem.W.nsIn K mainGlobals "min" = some none)
    (z_all : PySem.W.nsIn K mainGlobals "all" = some none)
    (z_tuple : PySem.W.nsIn K mainGlobals "tuple" = some none)
    (z_list : PySem.W.nsIn K mainGlobals "list" = some none)
    (z_range : PySem.W.nsIn K mainGlobals "range" = some none)
    (z_zip : PySem.W.nsIn K mainGlobals "zip" = some none)
    (z_bool : PySem.W.nsIn K mainGlobals "bool" = some none)
    (z_int : PySem.W.nsIn K mainGlobals "int" = some none)
    (z_str : PySem.W.nsIn K mainGlobals "str" = some none)
    (v_MOST_DRAWING : PySem.W.nsIn K mainGlobals "MOST_DRAWING" = some (some (.int 9 t0)))
    (v_MOST_HOLD : PySem.W.nsIn K mainGlobals "MOST_HOLD" = some (some (.int 24 t1)))
    (v_MOST_ROWS : PySem.W.nsIn K mainGlobals "MOST_ROWS" = some (some (.int 8 t2)))
    (v_MOST_WAY : PySem.W.nsIn K mainGlobals "MOST_WAY" = some (some (.int 20 t3)))
    (v_MOST_MANY : PySem.W.nsIn K mainGlobals "MOST_MANY" = some (some (.int 24 t4)))
    (v_MOST_MOVES : PySem.W.nsIn K mainGlobals "MOST_MOVES" = some (some (.int 8 t5)))
    (v_MOST_LAYERS : PySem.W.nsIn K mainGlobals "MOST_LAYERS" = some (some (.int 4 t6)))
    (x0 : PySem.W.nsIn K mainGlobals "NoLayer" = some (some (.ref C0)))
    (x1 : PySem.W.nsIn K mainGlobals "NoWindow" = some (some (.ref C1)))
    (x2 : PySem.W.nsIn K mainGlobals "NoSheet" = some (some (.ref C2)))
    (x3 : PySem.W.nsIn K mainGlobals "NoMoment" = some (some (.ref C3)))
    (x4 : PySem.W.nsIn K mainGlobals "NoRow" = some (some (.ref C4)))
    (x5 : PySem.W.nsIn K mainGlobals "NoNumber" = some (some (.ref C5)))
    (x6 : PySem.W.nsIn K mainGlobals "NoDrawings" = some (some (.ref C6)))
    (x7 : PySem.W.nsIn K mainGlobals "Unlike" = some (some (.ref C7)))
    (x8 : PySem.W.nsIn K mainGlobals "Endless" = some (some (.ref C8)))
    (x9 : PySem.W.nsIn K mainGlobals "Squeezed" = some (some (.ref C9)))
    (x10 : PySem.W.nsIn K mainGlobals "NoPaper" = some (some (.ref C10)))
    (x11 : PySem.W.nsIn K mainGlobals "NoDeed" = some (some (.ref C11)))
    (x12 : PySem.W.nsIn K mainGlobals "NoText" = some (some (.ref C12)))
    (x13 : PySem.W.nsIn K mainGlobals "NoWords" = some (some (.ref C13)))
    (x14 : PySem.W.nsIn K mainGlobals "TooMany" = some (some (.ref C14)))
    (x15 : PySem.W.nsIn K mainGlobals "Leaned" = some (some (.ref C15)))
    (xL : PySem.W.nsIn K mainGlobals "LanternError" = some (some (.ref LE)))
    (xb : excTB K (fun i => [C0, C1, C2, C3, C4, C5, C6, C7, C8, C9, C10, C11, C12, C13, C14, C15].getD i 0) LE = true) (nm1 : PySem.W.findIn K (.ref C14) "many" = some none) (nm2 : PySem.W.findIn K (.ref C14) "most" = some none) (nm3 : PySem.W.findIn K (.ref C15) "numbers" = some none)
    {nmTooMany qnTooMany : Str} {NTooMany fITooMany : Addr} {bsTooMany bmTooMany subTooMany : List Value} {snTooMany : List Str} {abTooMany : Bool} {colTooMany : Option Bool} {ddTooMany odTooMany anTooMany : Option Addr} {m0TooMany m1TooMany m2TooMany m3TooMany m5TooMany : Option Value} {ocTooMany kVTooMany dcTooMany pmTooMany cdTooMany ctTooMany : Value} {slTooMany : Array (Option Value)}
    (xoTooMany : K.lookup C14 = some (excClassObj nmTooMany qnTooMany C14 NTooMany bsTooMany bmTooMany true snTooMany subTooMany abTooMany colTooMany ddTooMany m0TooMany m1TooMany m2TooMany m3TooMany m5TooMany "ValueError.__new__")) (xrTooMany : PySem.HandSPX.refsVE bmTooMany = true) (saTooMany : PySem.W.findIn K (.ref C14) "__setattr__" = some (some (.builtin "object.__setattr__"))) (iITooMany : PySem.W.findIn K (.ref C14) "__init__" = some (some (.ref fITooMany))) (tITooMany : PySem.W.typeIn K (.ref fITooMany) = some (.type "function"))
    (lITooMany : K.lookup fITooMany = some ⟨ocTooMany, odTooMany, .func (PySem.W.fnOf "__init__" "TooMany.__init__" (defArgs s_TooMany_init) (defBody s_TooMany_init) (defScope s_TooMany_init) .none kVTooMany dcTooMany pmTooMany anTooMany cdTooMany ctTooMany), slTooMany⟩) (cITooMany : PySem.W.codeIn K cdTooMany "TooMany.__init__" = true) (kITooMany : PySem.W.keepIn K (.ref fITooMany) = true)
    {nmLeaned qnLeaned : Str} {NLeaned fILeaned : Addr} {bsLeaned bmLeaned subLeaned : List Value} {snLeaned : List Str} {abLeaned : Bool} {colLeaned : Option Bool} {ddLeaned odLeaned anLeaned : Option Addr} {m0Leaned m1Leaned m2Leaned m3Leaned m5Leaned : Option Value} {ocLeaned kVLeaned dcLeaned pmLeaned cdLeaned ctLeaned : Value} {slLeaned : Array (Option Value)}
    (xoLeaned : K.lookup C15 = some (excClassObj nmLeaned qnLeaned C15 NLeaned bsLeaned bmLeaned true snLeaned subLeaned abLeaned colLeaned ddLeaned m0Leaned m1Leaned m2Leaned m3Leaned m5Leaned "ValueError.__new__")) (xrLeaned : PySem.HandSPX.refsVE bmLeaned = true) (saLeaned : PySem.W.findIn K (.ref C15) "__setattr__" = some (some (.builtin "object.__setattr__"))) (iILeaned : PySem.W.findIn K (.ref C15) "__init__" = some (some (.ref fILeaned))) (tILeaned : PySem.W.typeIn K (.ref fILeaned) = some (.type "function"))
    (lILeaned : K.lookup fILeaned = some ⟨ocLeaned, odLeaned, .func (PySem.W.fnOf "__init__" "Leaned.__init__" (defArgs s_Leaned_init) (defBody s_Leaned_init) (defScope s_Leaned_init) .none kVLeaned dcLeaned pmLeaned anLeaned cdLeaned ctLeaned), slLeaned⟩) (cILeaned : PySem.W.codeIn K cdLeaned "Leaned.__init__" = true) (kILeaned : PySem.W.keepIn K (.ref fILeaned) = true) :
    LamX.LawAtS l w K CX0 10 63 "_law_script" mg fa h := by
  have e := hfa.symm.trans (PySem.W.mg_of X G a42)
  cases e
  have T : Txt K mg := ⟨PySem.W.mg_none_of X G z_dict, PySem.W.mg_none_of X G z_ValueError, PySem.W.mg_none_of X G z_len, PySem.W.mg_none_of X G z_isinstance, PySem.W.mg_none_of X G z_max, PySem.W.mg_none_of X G z_min, PySem.W.mg_none_of X G z_all, PySem.W.mg_none_of X G z_tuple, PySem.W.mg_none_of X G z_list, PySem.W.mg_none_of X G z_range, PySem.W.mg_none_of X G z_zip, PySem.W.mg_none_of X G z_bool, PySem.W.mg_none_of X G z_int, PySem.W.mg_none_of X G z_str, ⟨_, PySem.W.mg_of X G v_MOST_DRAWING⟩, ⟨_, PySem.W.mg_of X G v_MOST_HOLD⟩, ⟨_, PySem.W.mg_of X G v_MOST_ROWS⟩, ⟨_, PySem.W.mg_of X G v_MOST_WAY⟩, ⟨_, PySem.W.mg_of X G v_MOST_MANY⟩, ⟨_, PySem.W.mg_of X G v_MOST_MOVES⟩, ⟨_, PySem.W.mg_of X G v_MOST_LAYERS⟩⟩
  have gX : ∀ i n, clsN[i]? = some n → mg n = some (.ref ((fun i => [C0, C1, C2, C3, C4, C5, C6, C7, C8, C9, C10, C11, C12, C13, C14, C15].getD i 0) i)) := fun i n hn => match i, hn with
    | 0, h => by cases (show some ("NoLayer" : Str) = some n from h); exact PySem.W.mg_of X G x0
    | 1, h => by cases (show some ("NoWindow" : Str) = some n from h); exact PySem.W.mg_of X G x1
    | 2, h => by cases (show some ("NoSheet" : Str) = some n from h); exact PySem.W.mg_of X G x2
    | 3, h => by cases (show some ("NoMoment" : Str) = some n from h); exact PySem.W.mg_of X G x3
    | 4, h => by cases (show some ("NoRow" : Str) = some n from h); exact PySem.W.mg_of X G x4
    | 5, h => by cases (show some ("NoNumber" : Str) = some n from h); exact PySem.W.mg_of X G x5
    | 6, h => by cases (show some ("NoDrawings" : Str) = some n from h); exact PySem.W.mg_of X G x6
    | 7, h => by cases (show some ("Unlike" : Str) = some n from h); exact PySem.W.mg_of X G x7
    | 8, h => by cases (show some ("Endless" : Str) = some n from h); exact PySem.W.mg_of X G x8
    | 9, h => by cases (show some ("Squeezed" : Str) = some n from h); exact PySem.W.mg_of X G x9
    | 10, h => by cases (show some ("NoPaper" : Str) = some n from h); exact PySem.W.mg_of X G x10
    | 11, h => by cases (show some ("NoDeed" : Str) = some n from h); exact PySem.W.mg_of X G x11
    | 12, h => by cases (show some ("NoText" : Str) = some n from h); exact PySem.W.mg_of X G x12
    | 13, h => by cases (show some ("NoWords" : Str) = some n from h); exact PySem.W.mg_of X G x13
    | 14, h => by cases (show some ("TooMany" : Str) = some n from h); exact PySem.W.mg_of X G x14
    | 15, h => by cases (show some ("Leaned" : Str) = some n from h); exact PySem.W.mg_of X G x15
    | k + 16, h => by simp [clsN] at h
  have TX : ExcN K mg (fun i => [C0, C1, C2, C3, C4, C5, C6, C7, C8, C9, C10, C11, C12, C13, C14, C15].getD i 0) LE := ⟨excT_of xb, gX, PySem.W.mg_of X G xL, nm1, nm2, nm3⟩
  refine ⟨(PySem.W.fnOf "law" "law" (defArgs s_law) (defBody s_law) (defScope s_law) .none kV42 dc42 pm42 an42 (.ref cc42) ct42), [(cc41, PP41), (cc42, PP42)], sp_law K [(PP41, qLam "_law_leans_right"), (PP42, qLam "law")], ?_, ?_, ?_, fun s v => .of_eq rfl, fun H a ns hl _ hT hS => ⟨a, ns, rfl, hS, hl, ?_, fun _ => rfl⟩, fun base kb gb tb => ?_⟩
  · intro p hp
    simp only [List.mem_cons, List.not_mem_nil, or_false] at hp
    rcases hp with rfl | rfl
    · exact (TQ _ _ _ tq41 tt41).2
    · exact (TQ _ _ _ tq42 tt42).2
  · intro p hp
    simp only [List.mem_cons, List.not_mem_nil, or_false] at hp
    rcases hp with rfl | rfl
    · exact tn41
    · exact tn42
  · intro p hp
    simp only [List.mem_cons, List.not_mem_nil, or_false] at hp
    rcases hp with rfl | rfl
    · exact (TQ _ _ _ tq41 tt41).1
    · exact (TQ _ _ _ tq42 tt42).1
  · intro p hp
    simp only [List.mem_cons, List.not_mem_nil, or_false] at hp
    rcases hp with rfl | rfl
    · exact LamX.TabS.nil (hT (cc41, PP41) (by simp))
    · exact LamX.TabS.nil (hT (cc42, PP42) (by simp))
  have TC : ClT K w mg (fun i => [KC0, KC1, 0, 0, 0, 0, 0, 0, 0, T9].getD i 0) := ⟨⟨pgKC0, hdKC0, poKC0, saKC0⟩, ⟨pgKC1, hdKC1, poKC1, saKC1⟩, naKC0layers, naKC0rows, naKC0backs, naKC0moves, naKC1deeds, naKC1made, naKC1numbered, PySem.W.mg_of X G gPA, He.dicW_ok dW, partsP0 dW, partsP1 pn0 pn1 pn2 pn3 pn4 pn5 pn6 pn7 pw0 pw1 pw2 pw3 pw4 pw5 pw6 pw7⟩
  have FITooMany := fun_mk (st := s_TooMany_init) lITooMany cITooMany kITooMany
  have bITooMany := FITooMany.binds (ps := ["self", "many", "most"]) fun _ _ _ _ _ _ us hl => match us, hl with | [_, _, _], _ => rfl
  have TITooMany : IniT l.prog w K mg base ((fun i => [C0, C1, C2, C3, C4, C5, C6, C7, C8, C9, C10, C11, C12, C13, C14, C15].getD i 0) 14) 3 (sp_TooMany_init (fun i => [C0, C1, C2, C3, C4, C5, C6, C7, C8, C9, C10, C11, C12, C13, C14, C15].getD i 0) K) := ⟨fITooMany, _, _, ⟨⟨_, _, _, _, _, _, _, _, _, _, _, _, _, _, _, xoTooMany, xrTooMany⟩, saTooMany, (TX.e 14 (by decide)).hs, TX.ty 14 (by decide), TX.kp 14 (by decide)⟩, iITooMany, tITooMany, ok_TooMany_init FITooMany, bITooMany⟩
  have FILeaned := fun_mk (st := s_Leaned_init) lILeaned cILeaned kILeaned
  have bILeaned := FILeaned.binds (ps := ["self", "numbers"]) fun _ _ _ _ _ _ us hl => match us, hl with | [_, _], _ => rfl
  have TILeaned : IniT l.prog w K mg base ((fun i => [C0, C1, C2, C3, C4, C5, C6, C7, C8, C9, C10, C11, C12, C13, C14, C15].getD i 0) 15) 2 (sp_Leaned_init (fun i => [C0, C1, C2, C3, C4, C5, C6, C7, C8, C9, C10, C11, C12, C13, C14, C15].getD i 0) K) := ⟨fILeaned, _, _, ⟨⟨_, _, _, _, _, _, _, _, _, _, _, _, _, _, _, xoLeaned, xrLeaned⟩, saLeaned, (TX.e 15 (by decide)).hs, TX.ty 15 (by decide), TX.kp 15 (by decide)⟩, iILeaned, tILeaned, ok_Leaned_init FILeaned, bILeaned⟩
  have F0 := fun_mk (st := s__law_met) l0 c0 k0
  have b0 := F0.binds (ps := ["_law_call"]) fun _ _ _ _ _ _ us hl => match us, hl with | [_], _ => rfl
  have F1 := fun_mk (st := s__law_classes) l1 c1 k1
  have b1 := F1.binds (ps := ["_law_e"]) fun _ _ _ _ _ _ us hl => match us, hl with | [_], _ => rfl
  have DE : ClE l.prog w K mg base 1 "_law_classes" ["_law_e"] (spCls (fun i => [C0, C1, C2, C3, C4, C5, C6, C7, C8, C9, C10, C11, C12, C13, C14, C15].getD i 0)) := ⟨_, _, ok__law_classes F1 T TX, k1, b1, PySem.W.mg_of X G a1⟩
  have F2 := fun_mk (st := s_is_whole_from) l2 c2 k2
  have b2 := F2.binds (ps := ["thing", "least"]) fun _ _ _ _ _ _ us hl => match us, hl with | [_, _], _ => rfl
  have D_is_whole_from : Cl l.prog w K mg base 1 "is_whole_from" ["thing", "least"] (sp_is_whole_from K) := ⟨_, _, ok_is_whole_from F2 T , k2, b2, PySem.W.mg_of X G a2⟩
  have F3 := fun_mk (st := s_is_whole) l3 c3 k3
  have b3 := F3.binds (ps := ["thing", "least", "most"]) fun _ _ _ _ _ _ us hl => match us, hl with | [_, _, _], _ => rfl
  have D_is_whole : Cl l.prog w K mg base 2 "is_whole" ["thing", "least", "most"] (sp_is_whole K) := ⟨_, _, ok_is_whole F3 T D_is_whole_from, k3, b3, PySem.W.mg_of X G a3⟩
  have F4 := fun_mk (st := s_need_at_most) l4 c4 k4
  have b4 := F4.binds (ps := ["many", "most"]) fun _ _ _ _ _ _ us hl => match us, hl with | [_, _], _ => rfl
  have D_need_at_most : ClX l.prog w K mg base 3 "need_at_most" ["many", "most"] (sp_need_at_most K (fun i => [C0, C1, C2, C3, C4, C5, C6, C7, C8, C9, C10, C11, C12, C13, C14, C15].getD i 0)) := ⟨_, _, ok_need_at_most F4 T TX TITooMany , k4, b4, PySem.W.mg_of X G a4⟩
  have F5 := fun_mk (st := s_is_drawing) l5 c5 k5
  have b5 := F5.binds (ps := ["thing"]) fun _ _ _ _ _ _ us hl => match us, hl with | [_], _ => rfl
  have D_is_drawing : Cl l.prog w K mg base 3 "is_drawing" ["thing"] (sp_is_drawing K) := ⟨_, _, ok_is_drawing F5 T D_is_whole, k5, b5, PySem.W.mg_of X G a5⟩
  have F6 := fun_mk (st := s_is_hold) l6 c6 k6
  have b6 := F6.binds (ps := ["thing"]) fun _ _ _ _ _ _ us hl => match us, hl with | [_], _ => rfl
  have D_is_hold : Cl l.prog w K mg base 3 "is_hold" ["thing"] (sp_is_hold K) := ⟨_, _, ok_is_hold F6 T D_is_whole, k6, b6, PySem.W.mg_of X G a6⟩
  have F7 := fun_mk (st := s_is_way) l7 c7 k7
  have b7 := F7.binds (ps := ["thing"]) fun _ _ _ _ _ _ us hl => match us, hl with | [_], _ => rfl
  have D_is_way : Cl l.prog w K mg base 3 "is_way" ["thing"] (sp_is_way K) := ⟨_, _, ok_is_way F7 T D_is_whole, k7, b7, PySem.W.mg_of X G a7⟩
  have F8 := fun_mk (st := s_is_many) l8 c8 k8
  have b8 := F8.binds (ps := ["thing"]) fun _ _ _ _ _ _ us hl => match us, hl with | [_], _ => rfl
  have D_is_many : Cl l.prog w K mg base 3 "is_many" ["thing"] (sp_is_many K) := ⟨_, _, ok_is_many F8 T D_is_whole, k8, b8, PySem.W.mg_of X G a8⟩
  have F9 := fun_mk (st := s_is_plain_part) l9 c9 k9
  have b9 := F9.binds (ps := ["part", "thing"]) fun _ _ _ _ _ _ us hl => match us, hl with | [_, _], _ => rfl
  have D_is_plain_part : Cl l.prog w K mg base 4 "is_plain_part" ["part", "thing"] (sp_is_plain_part K) := ⟨_, _, ok_is_plain_part F9 T D_is_drawing D_is_hold D_is_way D_is_many, k9, b9, PySem.W.mg_of X G a9⟩
  have F10 := fun_mk (st := s_named) l10 c10 k10
  have b10 := F10.binds (ps := ["deed"]) fun _ _ _ _ _ _ us hl => match us, hl with | [_], _ => rfl
  have D_named : Cl l.prog w K mg base 1 "named" ["deed"] (sp_named K) := ⟨_, _, ok_named F10 T , k10, b10, PySem.W.mg_of X G a10⟩
  have F11 := fun_mk (st := s_Made__init) l11 c11 k11
  have b11 := F11.binds (ps := ["self"]) fun _ _ _ _ _ _ us hl => match us, hl with | [_], _ => rfl
  have D_Made__init : Mi l.prog w K mg base 1 ((fun i => [KC0, KC1, 0, 0, 0, 0, 0, 0, 0, T9].getD i 0) 0) "Made" ["self"] (sp_Made__init K (fun i => [KC0, KC1, 0, 0, 0, 0, 0, 0, 0, T9].getD i 0)) := ⟨_, _, ok_Made__init F11 T TC , b11, ⟨mkKC0, a11, n11, kpKC0⟩, PySem.W.mg_of X G gKC0⟩
  have F12 := fun_mk (st := s_Made__twin) l12 c12 k12
  have b12 := F12.binds (ps := ["self"]) fun _ _ _ _ _ _ us hl => match us, hl with | [_], _ => rfl
  have D_Made__twin : Ml l.prog w K mg base 3 ((fun i => [KC0, KC1, 0, 0, 0, 0, 0, 0, 0, T9].getD i 0) 0) "twin" ["self"] (sp_Made__twin K (fun i => [KC0, KC1, 0, 0, 0, 0, 0, 0, 0, T9].getD i 0)) := ⟨_, _, ok_Made__twin F12 T TC D_Made__init, b12, ⟨a12, n12, k12⟩⟩
  have F13 := fun_mk (st := s_Made__fits) l13 c13 k13
  have b13 := F13.binds (ps := ["self", "part", "thing"]) fun _ _ _ _ _ _ us hl => match us, hl with | [_, _, _], _ => rfl
  have D_Made__fits : Ml l.prog w K mg base 5 ((fun i => [KC0, KC1, 0, 0, 0, 0, 0, 0, 0, T9].getD i 0) 0) "fits" ["self", "part", "thing"] (sp_Made__fits K (fun i => [KC0, KC1, 0, 0, 0, 0, 0, 0, 0, T9].getD i 0)) := ⟨_, _, ok_Made__fits F13 T TC D_is_whole_from D_is_plain_part, b13, ⟨a13, n13, k13⟩⟩
  have F14 := fun_mk (st := s_Made__takes) l14 c14 k14
  have b14 := F14.binds (ps := ["self", "thing"]) fun _ _ _ _ _ _ us hl => match us, hl with | [_, _], _ => rfl
  have D_Made__takes : Ml l.prog w K mg base 6 ((fun i => [KC0, KC1, 0, 0, 0, 0, 0, 0, 0, T9].getD i 0) 0) "takes" ["self", "thing"] (sp_Made__takes K (fun i => [KC0, KC1, 0, 0, 0, 0, 0, 0, 0, T9].getD i 0)) := ⟨_, _, ok_Made__takes F14 T TC D_Made__fits, b14, ⟨a14, n14, k14⟩⟩
  have F15 := fun_mk (st := s_Made__follow_row) l15 c15 k15
  have b15 := F15.binds (ps := ["self", "word", "row", "new"]) fun _ _ _ _ _ _ us hl => match us, hl with | [_, _, _, _], _ => rfl
  have D_Made__follow_row : Ml l.prog w K mg base 1 ((fun i => [KC0, KC1, 0, 0, 0, 0, 0, 0, 0, T9].getD i 0) 0) "follow_row" ["self", "word", "row", "new"] (sp_Made__follow_row K (fun i => [KC0, KC1, 0, 0, 0, 0, 0, 0, 0, T9].getD i 0)) := ⟨_, _, ok_Made__follow_row F15 T TC , b15, ⟨a15, n15, k15⟩⟩
  have F16 := fun_mk (st := s_Made__follow) l16 c16 k16
  have b16 := F16.binds (ps := ["self", "number", "deed"]) fun _ _ _ _ _ _ us hl => match us, hl with | [_, _, _], _ => rfl
  have D_Made__follow : Ml l.prog w K mg base 2 ((fun i => [KC0, KC1, 0, 0, 0, 0, 0, 0, 0, T9].getD i 0) 0) "follow" ["self", "number", "deed"] (sp_Made__follow K (fun i => [KC0, KC1, 0, 0, 0, 0, 0, 0, 0, T9].getD i 0)) := ⟨_, _, ok_Made__follow F16 T TC D_Made__follow_row, b16, ⟨a16, n16, k16⟩⟩
  have F17 := fun_mk (st := s_Made__rows_in) l17 c17 k17
  have b17 := F17.binds (ps := ["self", "layer"]) fun _ _ _ _ _ _ us hl => match us, hl with | [_, _], _ => rfl
  have D_Made__rows_in : Ml l.prog w K mg base 1 ((fun i => [KC0, KC1, 0, 0, 0, 0, 0, 0, 0, T9].getD i 0) 0) "rows_in" ["self", "layer"] (sp_Made__rows_in K (fun i => [KC0, KC1, 0, 0, 0, 0, 0, 0, 0, T9].getD i 0)) := ⟨_, _, ok_Made__rows_in F17 T TC , b17, ⟨a17, n17, k17⟩⟩
  have F18 := fun_mk (st := s_Made__need_room) l18 c18 k18
  have b18 := F18.binds (ps := ["self"]) fun _ _ _ _ _ _ us hl => match us, hl with | [_], _ => rfl
  have D_Made__need_room : MlX l.prog w K mg base 4 ((fun i => [KC0, KC1, 0, 0, 0, 0, 0, 0, 0, T9].getD i 0) 0) "need_room" ["self"] (sp_Made__need_room K (fun i => [C0, C1, C2, C3, C4, C5, C6, C7, C8, C9, C10, C11, C12, C13, C14, C15].getD i 0) (fun i => [KC0, KC1, 0, 0, 0, 0, 0, 0, 0, T9].getD i 0)) := ⟨_, _, ok_Made__need_room F18 T TX TC  D_need_at_most D_Made__rows_in, b18, ⟨a18, n18, k18⟩⟩
  have F19 := fun_mk (st := s_Made__layer_made) l19 c19 k19
  have b19 := F19.binds (ps := ["self", "layer"]) fun _ _ _ _ _ _ us hl => match us, hl with | [_, _], _ => rfl
  have D_Made__layer_made : Ml l.prog w K mg base 2 ((fun i => [KC0, KC1, 0, 0, 0, 0, 0, 0, 0, T9].getD i 0) 0) "layer_made" ["self", "layer"] (sp_Made__layer_made K (fun i => [KC0, KC1, 0, 0, 0, 0, 0, 0, 0, T9].getD i 0)) := ⟨_, _, ok_Made__layer_made F19 T TC D_Made__rows_in, b19, ⟨a19, n19, k19⟩⟩
  have F20 := fun_mk (st := s_Made__sheet_made) l20 c20 k20
  have b20 := F20.binds (ps := ["self"]) fun _ _ _ _ _ _ us hl => match us, hl with | [_], _ => rfl
  have D_Made__sheet_made : Ml l.prog w K mg base 3 ((fun i => [KC0, KC1, 0, 0, 0, 0, 0, 0, 0, T9].getD i 0) 0) "sheet_made" ["self"] (sp_Made__sheet_made K (fun i => [KC0, KC1, 0, 0, 0, 0, 0, 0, 0, T9].getD i 0)) := ⟨_, _, ok_Made__sheet_made F20 T TC D_Made__layer_made, b20, ⟨a20, n20, k20⟩⟩
  have F21 := fun_mk (st := s_made_anew) l21 c21 k21
  have b21 := F21.binds (ps := ["deeds"]) fun _ _ _ _ _ _ us hl => match us, hl with | [_], _ => rfl
  have D_made_anew : Cl l.prog w K mg base 3 "made_anew" ["deeds"] (sp_made_anew K (fun i => [KC0, KC1, 0, 0, 0, 0, 0, 0, 0, T9].getD i 0)) := ⟨_, _, ok_made_anew F21 T TC D_Made__init D_Made__follow, k21, b21, PySem.W.mg_of X G a21⟩
  have F22 := fun_mk (st := s_Roll__init) l22 c22 k22
  have b22 := F22.binds (ps := ["self"]) fun _ _ _ _ _ _ us hl => match us, hl with | [_], _ => rfl
  have D_Roll__init : Mi l.prog w K mg base 3 ((fun i => [KC0, KC1, 0, 0, 0, 0, 0, 0, 0, T9].getD i 0) 1) "Roll" ["self"] (sp_Roll__init K (fun i => [KC0, KC1, 0, 0, 0, 0, 0, 0, 0, T9].getD i 0)) := ⟨_, _, ok_Roll__init F22 T TC D_Made__init, b22, ⟨mkKC1, a22, n22, kpKC1⟩, PySem.W.mg_of X G gKC1⟩
  have F23 := fun_mk (st := s_Roll__need_standing) l23 c23 k23
  have b23 := F23.binds (ps := ["self", "number"]) fun _ _ _ _ _ _ us hl => match us, hl with | [_, _], _ => rfl
  have D_Roll__need_standing : MlX l.prog w K mg base 2 ((fun i => [KC0, KC1, 0, 0, 0, 0, 0, 0, 0, T9].getD i 0) 1) "need_standing" ["self", "number"] (sp_Roll__need_standing K (fun i => [C0, C1, C2, C3, C4, C5, C6, C7, C8, C9, C10, C11, C12, C13, C14, C15].getD i 0) (fun i => [KC0, KC1, 0, 0, 0, 0, 0, 0, 0, T9].getD i 0)) := ⟨_, _, ok_Roll__need_standing F23 T TX TC  D_is_whole_from, b23, ⟨a23, n23, k23⟩⟩
  have F24 := fun_mk (st := s_Roll__put) l24 c24 k24
  have b24 := F24.binds (ps := ["self", "deed"]) fun _ _ _ _ _ _ us hl => match us, hl with | [_, _], _ => rfl
  have D_Roll__put : MlX l.prog w K mg base 7 ((fun i => [KC0, KC1, 0, 0, 0, 0, 0, 0, 0, T9].getD i 0) 1) "put" ["self", "deed"] (sp_Roll__put K (fun i => [C0, C1, C2, C3, C4, C5, C6, C7, C8, C9, C10, C11, C12, C13, C14, C15].getD i 0) (fun i => [KC0, KC1, 0, 0, 0, 0, 0, 0, 0, T9].getD i 0)) := ⟨_, _, ok_Roll__put F24 T TX TC  D_Made__takes D_Made__twin D_Made__follow D_Made__need_room, b24, ⟨a24, n24, k24⟩⟩
  have F25 := fun_mk (st := s_Roll__sheet_now) l25 c25 k25
  have b25 := F25.binds (ps := ["self"]) fun _ _ _ _ _ _ us hl => match us, hl with | [_], _ => rfl
  have D_Roll__sheet_now : Ml l.prog w K mg base 4 ((fun i => [KC0, KC1, 0, 0, 0, 0, 0, 0, 0, T9].getD i 0) 1) "sheet_now" ["self"] (sp_Roll__sheet_now K (fun i => [KC0, KC1, 0, 0, 0, 0, 0, 0, 0, T9].getD i 0)) := ⟨_, _, ok_Roll__sheet_now F25 T TC D_Made__sheet_made, b25, ⟨a25, n25, k25⟩⟩
  have F26 := fun_mk (st := s_Roll__standing) l26 c26 k26
  have b26 := F26.binds (ps := ["self"]) fun _ _ _ _ _ _ us hl => match us, hl with | [_], _ => rfl
  have D_Roll__standing : Ml l.prog w K mg base 1 ((fun i => [KC0, KC1, 0, 0, 0, 0, 0, 0, 0, T9].getD i 0) 1) "standing" ["self"] (sp_Roll__standing K (fun i => [KC0, KC1, 0, 0, 0, 0, 0, 0, 0, T9].getD i 0)) := ⟨_, _, ok_Roll__standing F26 T TC , b26, ⟨a26, n26, k26⟩⟩
  have F27 := fun_mk (st := s_Roll__leaning) l27 c27 k27
  have b27 := F27.binds (ps := ["self", "number"]) fun _ _ _ _ _ _ us hl => match us, hl with | [_, _], _ => rfl
  have D_Roll__leaning : MlX l.prog w K mg base 3 ((fun i => [KC0, KC1, 0, 0, 0, 0, 0, 0, 0, T9].getD i 0) 1) "leaning" ["self", "number"] (sp_Roll__leaning K (fun i => [C0, C1, C2, C3, C4, C5, C6, C7, C8, C9, C10, C11, C12, C13, C14, C15].getD i 0) (fun i => [KC0, KC1, 0, 0, 0, 0, 0, 0, 0, T9].getD i 0)) := ⟨_, _, ok_Roll__leaning F27 T TX TC  D_Roll__need_standing D_named, b27, ⟨a27, n27, k27⟩⟩
  have F28 := fun_mk (st := s_Roll__undo) l28 c28 k28
  have b28 := F28.binds (ps := ["self", "number"]) fun _ _ _ _ _ _ us hl => match us, hl with | [_, _], _ => rfl
  have D_Roll__undo : MlX l.prog w K mg base 5 ((fun i => [KC0, KC1, 0, 0, 0, 0, 0, 0, 0, T9].getD i 0) 1) "undo" ["self", "number"] (sp_Roll__undo K (fun i => [C0, C1, C2, C3, C4, C5, C6, C7, C8, C9, C10, C11, C12, C13, C14, C15].getD i 0) (fun i => [KC0, KC1, 0, 0, 0, 0, 0, 0, 0, T9].getD i 0)) := ⟨_, _, ok_Roll__undo F28 T TX TC TILeaned D_Roll__leaning D_made_anew D_Made__need_room, b28, ⟨a28, n28, k28⟩⟩
  have F29 := fun_mk (st := s__law_cell_at) l29 c29 k29
  have b29 := F29.binds (ps := ["_law_script", "_law_k"]) fun _ _ _ _ _ _ us hl => match us, hl with | [_, _], _ => rfl
  have D__law_cell_at : Cl l.prog w K mg base 1 "_law_cell_at" ["_law_script", "_law_k"] (sp__law_cell_at K) := ⟨_, _, ok__law_cell_at F29 T , k29, b29, PySem.W.mg_of X G a29⟩
  have F30 := fun_mk (st := s__law_state) l30 c30 k30
  have b30 := F30.binds (ps := ["_law_script", "_law_k"]) fun _ _ _ _ _ _ us hl => match us, hl with | [_, _], _ => rfl
  have D__law_state : Cl l.prog w K mg base 2 "_law_state" ["_law_script", "_law_k"] (sp__law_state K) := ⟨_, _, ok__law_state F30 T D__law_cell_at, k30, b30, PySem.W.mg_of X G a30⟩
  have F31 := fun_mk (st := s__law_take) l31 c31 k31
  have b31 := F31.binds (ps := ["_law_state_here", "_law_many"]) fun _ _ _ _ _ _ us hl => match us, hl with | [_, _], _ => rfl
  have D__law_take : Cl l.prog w K mg base 1 "_law_take" ["_law_state_here", "_law_many"] (sp__law_take K) := ⟨_, _, ok__law_take F31 T , k31, b31, PySem.W.mg_of X G a31⟩
  have F32 := fun_mk (st := s__law_known) l32 c32 k32
  have b32 := F32.binds (ps := ["_law_deeds"]) fun _ _ _ _ _ _ us hl => match us, hl with | [_], _ => rfl
  have D__law_known : Cl l.prog w K mg base 1 "_law_known" ["_law_deeds"] (sp__law_known K) := ⟨_, _, ok__law_known F32 T , k32, b32, PySem.W.mg_of X G a32⟩
  have F33 := fun_mk (st := s__law_fits) l33 c33 k33
  have b33 := F33.binds (ps := ["_law_deeds", "_law_deed_here"]) fun _ _ _ _ _ _ us hl => match us, hl with | [_, _], _ => rfl
  have D__law_fits : Cl l.prog w K mg base 2 "_law_fits" ["_law_deeds", "_law_deed_here"] (sp__law_fits K) := ⟨_, _, ok__law_fits F33 T D__law_known, k33, b33, PySem.W.mg_of X G a33⟩
  have F34 := fun_mk (st := s__law_room) l34 c34 k34
  have b34 := F34.binds (ps := ["_law_deeds"]) fun _ _ _ _ _ _ us hl => match us, hl with | [_], _ => rfl
  have D__law_room : Cl l.prog w K mg base 2 "_law_room" ["_law_deeds"] (sp__law_room K) := ⟨_, _, ok__law_room F34 T D__law_known, k34, b34, PySem.W.mg_of X G a34⟩
  have F35 := fun_mk (st := s__law_made) l35 c35 k35
  have b35 := F35.binds (ps := ["_law_deeds"]) fun _ _ _ _ _ _ us hl => match us, hl with | [_], _ => rfl
  have D__law_made : Cl l.prog w K mg base 2 "_law_made" ["_law_deeds"] (sp__law_made K) := ⟨_, _, ok__law_made F35 T D__law_known, k35, b35, PySem.W.mg_of X G a35⟩
  have F36 := fun_mk (st := s__law_leaning) l36 c36 k36
  have b36 := F36.binds (ps := ["_law_deeds", "_law_number"]) fun _ _ _ _ _ _ us hl => match us, hl with | [_, _], _ => rfl
  have D__law_leaning : Cl l.prog w K mg base 1 "_law_leaning" ["_law_deeds", "_law_number"] (sp__law_leaning K) := ⟨_, _, ok__law_leaning F36 T , k36, b36, PySem.W.mg_of X G a36⟩
  have F37 := fun_mk (st := s__law_deed) l37 c37 k37
  have b37 := F37.binds (ps := ["_law_state_here", "_law_deeds"]) fun _ _ _ _ _ _ us hl => match us, hl with | [_, _], _ => rfl
  have D__law_deed : Cl l.prog w K mg base 2 "_law_deed" ["_law_state_here", "_law_deeds"] (sp__law_deed K) := ⟨_, _, ok__law_deed F37 T D__law_known D__law_take, k37, b37, PySem.W.mg_of X G a37⟩
  have F38 := fun_mk (st := s__law_undone) l38 c38 k38
  have b38 := F38.binds (ps := ["_law_deeds", "_law_number"]) fun _ _ _ _ _ _ us hl => match us, hl with | [_, _], _ => rfl
  have D__law_undone : Cl l.prog w K mg base 3 "_law_undone" ["_law_deeds", "_law_number"] (sp__law_undone K) := ⟨_, _, ok__law_undone F38 T D__law_leaning D__law_room, k38, b38, PySem.W.mg_of X G a38⟩
  have F39 := fun_mk (st := s__law_put) l39 c39 k39
  have b39 := F39.binds (ps := ["_law_deeds", "_law_number", "_law_deed_here"]) fun _ _ _ _ _ _ us hl => match us, hl with | [_, _, _], _ => rfl
  have D__law_put : Cl l.prog w K mg base 3 "_law_put" ["_law_deeds", "_law_number", "_law_deed_here"] (sp__law_put K) := ⟨_, _, ok__law_put F39 T D__law_fits D__law_room, k39, b39, PySem.W.mg_of X G a39⟩
  have F40 := fun_mk (st := s__law_stands_so) l40 c40 k40
  have b40 := F40.binds (ps := ["_law_roll", "_law_deeds"]) fun _ _ _ _ _ _ us hl => match us, hl with | [_, _], _ => rfl
  have D__law_stands_so : Cl l.prog w K mg base 5 "_law_stands_so" ["_law_roll", "_law_deeds"] (sp__law_stands_so K (fun i => [KC0, KC1, 0, 0, 0, 0, 0, 0, 0, T9].getD i 0)) := ⟨_, _, ok__law_stands_so F40 T TC D_Roll__standing D_Roll__sheet_now D__law_made, k40, b40, PySem.W.mg_of X G a40⟩
  have F41 := funC_mk (st := s__law_leans_right) l41 c41
  have F41b := fun_mk (st := s__law_leans_right) l41 c41 k41
  have b41 := F41b.binds (ps := ["_law_state_here", "_law_roll", "_law_deeds"]) fun _ _ _ _ _ _ us hl => match us, hl with | [_, _, _], _ => rfl
  have MR41 : Mkr base mg cc41 PP41 "_law_leans_right" [(PP41, qLam "_law_leans_right"), (PP42, qLam "law")] := ⟨tb (cc41, PP41) (by simp), by simp, fun p hp e => by
    simp only [List.mem_cons, List.not_mem_nil, or_false] at hp
    rcases hp with rfl | rfl
    · rfl
    · exact absurd e ne42_41⟩
  have D__law_leans_right : Cl l.prog w K mg base 6 "_law_leans_right" ["_law_state_here", "_law_roll", "_law_deeds"] (sp__law_leans_right K [(PP41, qLam "_law_leans_right"), (PP42, qLam "law")] (fun i => [KC0, KC1, 0, 0, 0, 0, 0, 0, 0, T9].getD i 0)) := ⟨_, _, ok__law_leans_right F41 T TX MR41 TC F0 (PySem.W.mg_of X G a0) b0 DE D__law_take D_Roll__leaning D__law_leaning, k41, b41, PySem.W.mg_of X G a41⟩
  have F42 := funC_mk (st := s_law) l42 c42
  have F42b := fun_mk (st := s_law) l42 c42 k42
  have MR42 : Mkr base mg cc42 PP42 "law" [(PP41, qLam "_law_leans_right"), (PP42, qLam "law")] := ⟨tb (cc42, PP42) (by simp), by simp, fun p hp e => by
    simp only [List.mem_cons, List.not_mem_nil, or_false] at hp
    rcases hp with rfl | rfl
    · exact absurd e ne41_42
    · rfl⟩
  exact ok_law F42 T TX MR42 TC F0 (PySem.W.mg_of X G a0) b0 DE D__law_state D_Roll__init D__law_take D__law_deed D__law_put D_Roll__put D__law_leaning D__law_undone D_Roll__undo D__law_leans_right D__law_stands_so

end Lan
open PySem PySem.W PyProof.Rows
set_option maxRecDepth 100000 in
set_option maxHeartbeats 0 in
theorem PySem.Challenge.cw_lanternrows_k51_undone_out_of_the_midst_holds : PySem.Challenge.rw_lanternrows_k51_undone_out_of_the_midst.Holds := by
  w_on; o_law; k_head; (case hw => w_witness2)
  k_fill
  refine Lan.walk_ofL (l := PySem.Challenge.rw_lanternrows_k51_undone_out_of_the_midst) (n := 63) (k := 10) (x := "_law_script") rfl (by decide) rfl ⟨rfl, by decide, by decide⟩ (fun w h Y => PySem.W.km_in_of Y) ?F
  case F =>
    intro w mg fa h KX G hmg TQ
    refine' Lan.all_mk KX G hmg TQ ?gKC0 ?pgKC0 ?hdKC0 ?poKC0 ?saKC0 ?mkKC0 ?kpKC0 ?naKC0layers ?naKC0rows ?naKC0backs ?naKC0moves ?gKC1 ?pgKC1 ?hdKC1 ?poKC1 ?saKC1 ?mkKC1 ?kpKC1 ?naKC1deeds ?naKC1made ?naKC1numbered ?gPA ?dW ?pn0 ?pw0 ?pn1 ?pw1 ?pn2 ?pw2 ?pn3 ?pw3 ?pn4 ?pw4 ?pn5 ?pw5 ?pn6 ?pw6 ?pn7 ?pw7 ?a0 ?l0 ?c0 ?k0 ?a1 ?l1 ?c1 ?k1 ?a2 ?l2 ?c2 ?k2 ?a3 ?l3 ?c3 ?k3 ?a4 ?l4 ?c4 ?k4 ?a5 ?l5 ?c5 ?k5 ?a6 ?l6 ?c6 ?k6 ?a7 ?l7 ?c7 ?k7 ?a8 ?l8 ?c8 ?k8 ?a9 ?l9 ?c9 ?k9 ?a10 ?l10 ?c10 ?k10 ?a11 ?l11 ?c11 ?k11 ?n11 ?a12 ?l12 ?c12 ?k12 ?n12 ?a13 ?l13 ?c13 ?k13 ?n13 ?a14 ?l14 ?c14 ?k14 ?n14 ?a15 ?l15 ?c15 ?k15 ?n15 ?a16 ?l16 ?c16 ?k16 ?n16 ?a17 ?l17 ?c17 ?k17 ?n17 ?a18 ?l18 ?c18 ?k18 ?n18 ?a19 ?l19 ?c19 ?k19 ?n19 ?a20 ?l20 ?c20 ?k20 ?n20 ?a21 ?l21 ?c21 ?k21 ?a22 ?l22 ?c22 ?k22 ?n22 ?a23 ?l23 ?c23 ?k23 ?n23 ?a24 ?l24 ?c24 ?k24 ?n24 ?a25 ?l25 ?c25 ?k25 ?n25 ?a26 ?l26 ?c26 ?k26 ?n26 ?a27 ?l27 ?c27 ?k27 ?n27 ?a28 ?l28 ?c28 ?k28 ?n28 ?a29 ?l29 ?c29 ?k29 ?a30 ?l30 ?c30 ?k30 ?a31 ?l31 ?c31 ?k31 ?a32 ?l32 ?c32 ?k32 ?a33 ?l33 ?c33 ?k33 ?a34 ?l34 ?c34 ?k34 ?a35 ?l35 ?c35 ?k35 ?a36 ?l36 ?c36 ?k36 ?a37 ?l37 ?c37 ?k37 ?a38 ?l38 ?c38 ?k38 ?a39 ?l39 ?c39 ?k39 ?a40 ?l40 ?c40 ?k40 ?a41 ?l41 ?c41 ?k41 ?lc41 ?v1141 ?tq41 ?tt41 ?tn41 ?a42 ?l42 ?c42 ?k42 ?lc42 ?v1142 ?tq42 ?tt42 ?tn42 ?ne41_42 ?ne42_41 ?z_dict ?z_ValueError ?z_len ?z_isinstance ?z_max ?z_min ?z_all ?z_tuple ?z_list ?z_range ?z_zip ?z_bool ?z_int ?z_str ?v_MOST_DRAWING ?v_MOST_HOLD ?v_MOST_ROWS ?v_MOST_WAY ?v_MOST_MANY ?v_MOST_MOVES ?v_MOST_LAYERS ?x0 ?x1 ?x2 ?x3 ?x4 ?x5 ?x6 ?x7 ?x8 ?x9 ?x10 ?x11 ?x12 ?x13 ?x14 ?x15 ?xL ?xb ?nm1 ?nm2 ?nm3 ?xoTooMany ?xrTooMany ?saTooMany ?iITooMany ?tITooMany ?lITooMany ?cITooMany ?kITooMany ?xoLeaned ?xrLeaned ?saLeaned ?iILeaned ?tILeaned ?lILeaned ?cILeaned ?kILeaned
    (case gKC0 => k_is)
    (case pgKC0 => kernel_rfl)
    (case hdKC0 => kernel_rfl)
    (case poKC0 => kernel_rfl)
    (case saKC0 => k_is)
    (case mkKC0 => kernel_rfl)
    (case kpKC0 => k_is)
    (case naKC0layers => k_is)
    (case naKC0rows => k_is)
    (case naKC0backs => k_is)
    (case naKC0moves => k_is)
    (case gKC1 => k_is)
    (case pgKC1 => kernel_rfl)
    (case hdKC1 => kernel_rfl)
    (case poKC1 => kernel_rfl)
    (case saKC1 => k_is)
    (case mkKC1 => kernel_rfl)
    (case kpKC1 => k_is)
    (case naKC1deeds => k_is)
    (case naKC1made => k_is)
    (case naKC1numbered => k_is)
    (case gPA => k_is)
    (case dW => kernel_rfl)
    (case pn0 => k_is)
    (case pw0 => kernel_rfl)
    (case pn1 => k_is)
    (case pw1 => kernel_rfl)
    (case pn2 => k_is)
    (case pw2 => kernel_rfl)
    (case pn3 => k_is)
    (case pw3 => kernel_rfl)
    (case pn4 => k_is)
    (case pw4 => kernel_rfl)
    (case pn5 => k_is)
    (case pw5 => kernel_rfl)
    (case pn6 => k_is)
    (case pw6 => kernel_rfl)
    (case pn7 => k_is)
    (case pw7 => kernel_rfl)
    (case a0 => k_is)
    (case l0 => k_is)
    (case c0 => k_is)
    (case k0 => k_is)
    (case a1 => k_is)
    (case l1 => k_is)
    (case c1 => k_is)
    (case k1 => k_is)
    (case a2 => k_is)
    (case l2 => k_is)
    (case c2 => k_is)
    (case k2 => k_is)
    (case a3 => k_is)
    (case l3 => k_is)
    (case c3 => k_is)
    (case k3 => k_is)
    (case a4 => k_is)
    (case l4 => k_is)
    (case c4 => k_is)
    (case k4 => k_is)
    (case a5 => k_is)
    (case l5 => k_is)
    (case c5 => k_is)
    (case k5 => k_is)
    (case a6 => k_is)
    (case l6 => k_is)
    (case c6 => k_is)
    (case k6 => k_is)
    (case a7 => k_is)
    (case l7 => k_is)
    (case c7 => k_is)
    (case k7 => k_is)
    (case a8 => k_is)
    (case l8 => k_is)
    (case c8 => k_is)
    (case k8 => k_is)
    (case a9 => k_is)
    (case l9 => k_is)
    (case c9 => k_is)
    (case k9 => k_is)
    (case a10 => k_is)
    (case l10 => k_is)
    (case c10 => k_is)
    (case k10 => k_is)
    (case a11 => k_is)
    (case l11 => k_is)
    (case c11 => k_is)
    (case k11 => k_is)
    (case n11 => k_is)
    (case a12 => k_is)
    (case l12 => k_is)
    (case c12 => k_is)
    (case k12 => k_is)
    (case n12 => k_is)
    (case a13 => k_is)
    (case l13 => k_is)
    (case c13 => k_is)
    (case k13 => k_is)
    (case n13 => k_is)
    (case a14 => k_is)
    (case l14 => k_is)
    (case c14 => k_is)
    (case k14 => k_is)
    (case n14 => k_is)
    (case a15 => k_is)
    (case l15 => k_is)
    (case c15 => k_is)
    (case k15 => k_is)
    (case n15 => k_is)
    (case a16 => k_is)
    (case l16 => k_is)
    (case c16 => k_is)
    (case k16 => k_is)
    (case n16 => k_is)
    (case a17 => k_is)
    (case l17 => k_is)
    (case c17 => k_is)
    (case k17 => k_is)
    (case n17 => k_is)
    (case a18 => k_is)
    (case l18 => k_is)
    (case c18 => k_is)
    (case k18 => k_is)
    (case n18 => k_is)
    (case a19 => k_is)
    (case l19 => k_is)
    (case c19 => k_is)
    (case k19 => k_is)
    (case n19 => k_is)
    (case a20 => k_is)
    (case l20 => k_is)
    (case c20 => k_is)
    (case k20 => k_is)
    (case n20 => k_is)
    (case a21 => k_is)
    (case l21 => k_is)
    (case c21 => k_is)
    (case k21 => k_is)
    (case a22 => k_is)
    (case l22 => k_is)
    (case c22 => k_is)
    (case k22 => k_is)
    (case n22 => k_is)
    (case a23 => k_is)
    (case l23 => k_is)
    (case c23 => k_is)
    (case k23 => k_is)
    (case n23 => k_is)
    (case a24 => k_is)
    (case l24 => k_is)
    (case c24 => k_is)
    (case k24 => k_is)
    (case n24 => k_is)
    (case a25 => k_is)
    (case l25 => k_is)
    (case c25 => k_is)
    (case k25 => k_is)
    (case n25 => k_is)
    (case a26 => k_is)
    (case l26 => k_is)
    (case c26 => k_is)
    (case k26 => k_is)
    (case n26 => k_is)
    (case a27 => k_is)
    (case l27 => k_is)
    (case c27 => k_is)
    (case k27 => k_is)
    (case n27 => k_is)
    (case a28 => k_is)
    (case l28 => k_is)
    (case c28 => k_is)
    (case k28 => k_is)
    (case n28 => k_is)
    (case a29 => k_is)
    (case l29 => k_is)
    (case c29 => k_is)
    (case k29 => k_is)
    (case a30 => k_is)
    (case l30 => k_is)
    (case c30 => k_is)
    (case k30 => k_is)
    (case a31 => k_is)
    (case l31 => k_is)
    (case c31 => k_is)
    (case k31 => k_is)
    (case a32 => k_is)
    (case l32 => k_is)
    (case c32 => k_is)
    (case k32 => k_is)
    (case a33 => k_is)
    (case l33 => k_is)
    (case c33 => k_is)
    (case k33 => k_is)
    (case a34 => k_is)
    (case l34 => k_is)
    (case c34 => k_is)
    (case k34 => k_is)
    (case a35 => k_is)
    (case l35 => k_is)
    (case c35 => k_is)
    (case k35 => k_is)
    (case a36 => k_is)
    (case l36 => k_is)
    (case c36 => k_is)
    (case k36 => k_is)
    (case a37 => k_is)
    (case l37 => k_is)
    (case c37 => k_is)
    (case k37 => k_is)
    (case a38 => k_is)
    (case l38 => k_is)
    (case c38 => k_is)
    (case k38 => k_is)
    (case a39 => k_is)
    (case l39 => k_is)
    (case c39 => k_is)
    (case k39 => k_is)
    (case a40 => k_is)
    (case l40 => k_is)
    (case c40 => k_is)
    (case k40 => k_is)
    (case a41 => k_is)
    (case l41 => k_is)
    (case c41 => k_is)
    (case k41 => k_is)
    (case lc41 => k_is)
    (case v1141 => rfl)
    (case tq41 => kernel_rfl)
    (case tt41 => kernel_rfl)
    (case tn41 => kernel_rfl)
    (case a42 => k_is)
    (case l42 => k_is)
    (case c42 => k_is)
    (case k42 => k_is)
    (case lc42 => k_is)
    (case v1142 => rfl)
    (case tq42 => kernel_rfl)
    (case tt42 => kernel_rfl)
    (case tn42 => kernel_rfl)
    (case ne41_42 => decide)
    (case ne42_41 => decide)
    (case z_dict => k_is)
    (case z_ValueError => k_is)
    (case z_len => k_is)
    (case z_isinstance => k_is)
    (case z_max => k_is)
    (case z_min => k_is)
    (case z_all => k_is)
    (case z_tuple => k_is)
    (case z_list => k_is)
    (case z_range => k_is)
    (case z_zip => k_is)
    (case z_bool => k_is)
    (case z_int => k_is)
    (case z_str => k_is)
    (case v_MOST_DRAWING => k_is)
    (case v_MOST_HOLD => k_is)
    (case v_MOST_ROWS => k_is)
    (case v_MOST_WAY => k_is)
    (case v_MOST_MANY => k_is)
    (case v_MOST_MOVES => k_is)
    (case v_MOST_LAYERS => k_is)
    (case x0 => k_is)
    (case x1 => k_is)
    (case x2 => k_is)
    (case x3 => k_is)
    (case x4 => k_is)
    (case x5 => k_is)
    (case x6 => k_is)
    (case x7 => k_is)
    (case x8 => k_is)
    (case x9 => k_is)
    (case x10 => k_is)
    (case x11 => k_is)
    (case x12 => k_is)
    (case x13 => k_is)
    (case x14 => k_is)
    (case x15 => k_is)
    (case xL => k_is)
    (case xb => kernel_rfl)
    (case nm1 => k_is)
    (case nm2 => k_is)
    (case nm3 => k_is)
    (case xoTooMany => k_is)
    (case xrTooMany => decide +kernel)
    (case saTooMany => k_is)
    (case iITooMany => k_is)
    (case tITooMany => k_is)
    (case lITooMany => k_is)
    (case cITooMany => k_is)
    (case kITooMany => k_is)
    (case xoLeaned => k_is)
    (case xrLeaned => decide +kernel)
    (case saLeaned => k_is)
    (case iILeaned => k_is)
    (case tILeaned => k_is)
    (case lILeaned => k_is)
    (case cILeaned => k_is)
    (case kILeaned => k_is)
