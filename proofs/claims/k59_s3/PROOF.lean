import PyProof.Rows.All
import Wide.All
import OpenK.AllK
import Wide.FinOn
import HandS.ForMost
import HandS.IsInst
import HandS.TupAny
import HandS.TupMul
import HandS.Conv
import HandS.Style
import HandS.Flow
import HandS.Codes
import HandS.Zip
import KE.GoesNew
import HandS.Lambda
import HandS.EndTab
import HandS.ExcInit
import HandS.ExcField
import HandS.ExcIs
import HandS.HeadHook3
import HandS.Head2
import HandS.HeadHook4
import HandS.HeadWalk
import HandS.HotCalls
import HandS.TryOnly
import HandS.WordsExc
import HandS.ExcOwn
import HandS.Small
import HandS.FStr
import KE.KExcIs
import HandS.SetFor
import HandS.Strs
import KE.KDictZip
import HandS.SortKw
import KE.DataMinMax
import HandS.Flt
import HandS.RaiseMore
import HandS.StrMore
import HandS.Walk
import HandS.Deep
import HandS.CallSlots
import HandS.ListItems
import HandS.DictComp
import HandS.Star
import HandS.JoinGen
import HandS.TupLen
import HandS.SetBool
import HandS.SetKeys
import KE.KeyNested
import KE.KDictKeyed
import KE.SortData
import PyProof.DictMoreH
import PyProof.DictRoadsH
import HandS.TupSets
import PySem.Challenge.RW_lanternrows_k59_asked_by_turns
set_option Elab.async false
set_option linter.all false
set_option maxRecDepth 100000
set_option maxHeartbeats 4000000
namespace Lan
open PySem PySem.Spec PyProof.Rows L2
/-! ### short rules -/
def bkV : Option Int → V
  | none => .non
  | some i => .int i
structure Cl (P : Program) (w : World) (K : PySem.W.Frag) (mg : Str → Option Value) (base : Heap) (k : Nat) (x : Str) (ps : List Str) (sp : Sp) : Prop where
  ex : ∃ (f : Addr) (fd : FuncData), FnOk P w K mg base CX0 k f fd ps sp ∧ PySem.W.keepIn K (.ref f) = true ∧ Binds K fd ps [] ∧ mg x = some (.ref f)
section
variable {X : Cx}
theorem pe_gint {x : Str} {pos : Pos} {n : Int} (hg : Gl X x) (h : ∃ t, X.mg x = some (.int n t)) (hd : (x == ("__debug__" : Str)) = false := by decide) : PE X (.Name x pos) (tC (.int n)) := by
  obtain ⟨t, h⟩ := h
  exact pe_glob hg h ⟨_, rfl⟩ hd
theorem pe_own {k : Nat} {x : Str} {ps : List Str} {sp : Sp} {e : Expr} {es : List Expr} {t : TA} {p pos : Pos} (C : Cl X.prog X.w X.K X.mg X.base k x ps sp) (hr : Room k X.A) (hg : Gl X x) (ha : PA X (e :: es) t)
    (hdb : (x == ("__debug__" : Str)) = false := by decide) (he : starEach (e :: es) X.env = (false, eval e X.env) :: starEach es X.env := by rfl) (hpl : (backTo pos (starEach es X.env)).any (·.1) = false := by rfl) :
    PE X (.Call (.Name x p) (e :: es) [] pos) (tCall sp [] E0 t) := by
  obtain ⟨f, fd, F, hk, hb, hm⟩ := C.ex
  exact pe_call F hr hg hm hk hb .nil pass0 ha hdb he hpl
def tPartN (t : TE) : TO := fun σ H Q => t σ H fun x H1 => ∃ o : Option Int, x = bkV o ∧ Q o H1
theorem po_opt {e : Expr} {te : TE} (h : PE X e te) : PO X (some e) (tPartN te) := by
  refine ⟨fun pins s σ H Q I hw => ?_⟩
  rw [evalPart_some]
  refine thn (h.run pins s σ H _ I hw) fun u s1 ⟨x, H1, I1, r1, q1⟩ => ?_
  obtain ⟨o, rfl, q⟩ := q1
  cases o with
  | none =>
    cases r1
    exact ⟨none, H1, I1, .none, q⟩
  | some i =>
    obtain ⟨t, rfl⟩ := r1
    exact ⟨some i, H1, I1, .int i t, q⟩
end
/-! ### heaps -/
theorem same_upd {H : Hp} {p : Addr} {o : HO} (h : H p = none) : Same H (upd H p o) := fun b x e => by
  rw [upd_ne (ne_of_none e h)]
  exact e
theorem new_at {H : Hp} {p : Addr} (o : HO) (h : H p = none) : Same H (upd H p o) ∧ (upd H p o) p = some o := ⟨same_upd h, upd_same⟩
theorem Same.sqT {K : PySem.W.Frag} {H H' : Hp} {a : Addr} {xs : List V} (e : Same H H') (h : SqT K H a xs) : SqT K H' a xs := by
  rcases h with (h | ⟨o, h⟩) | h
  · exact .inl (.inl (e _ _ h))
  · exact .inl (.inr ⟨o, e _ _ h⟩)
  · exact .inr h
def IsSt (H : Hp) (st : Addr) : Prop := ∃ a b : Int, H st = some (.lst [.int a, .int b]) ∧ 0 ≤ a ∧ 0 ≤ b ∧ b < 2147483647
/-- all but the state at st stands, and st holds a state as before -/
def Gr (st : Addr) (H H' : Hp) : Prop := (∀ b o, b ≠ st → H b = some o → H' b = some o) ∧ (IsSt H st → IsSt H' st)
theorem Gr.refl {st : Addr} {H : Hp} : Gr st H H := ⟨fun _ _ _ h => h, id⟩
theorem Gr.trans {st : Addr} {H H1 H2 : Hp} (a : Gr st H H1) (b : Gr st H1 H2) : Gr st H H2 := ⟨fun c o n h => b.1 c o n (a.1 c o n h), fun h => b.2 (a.2 h)⟩
theorem gr_same {st : Addr} {H H' : Hp} (s : Same H H') : Gr st H H' := ⟨fun b o _ h => s b o h, fun ⟨a, b, h, r⟩ => ⟨a, b, s _ _ h, r⟩⟩
theorem gr_set {st : Addr} {H : Hp} {a b : Int} (h0 : 0 ≤ a) (h1 : 0 ≤ b) (h2 : b < 2147483647) : Gr st H (upd H st (.lst [.int a, .int b])) :=
  ⟨fun c o n h => by rw [upd_ne n]; exact h, fun _ => ⟨a, b, upd_same, h0, h1, h2⟩⟩
theorem Gr.sqT {st : Addr} {K : PySem.W.Frag} {H H' : Hp} {a : Addr} {xs : List V} (g : Gr st H H') (s : IsSt H st) (h : SqT K H a xs) : SqT K H' a xs := by
  obtain ⟨u, v, hs, _⟩ := s
  rcases h with (h | ⟨o, h⟩) | h
  · exact .inl (.inl (g.1 _ _ (ne_of h hs (by intro z; cases z)) h))
  · exact .inl (.inr ⟨o, g.1 _ _ (ne_of h hs (by intro z; cases z)) h⟩)
  · exact .inr h
/-- behind a state that was not there before -/
theorem Gr.same {st : Addr} {H H1 H2 : Hp} (g : Gr st H1 H2) (s : Same H H1) (n : H st = none) : Same H H2 := fun b o h => g.1 b o (ne_of_none h n) (s b o h)
theorem tyT {K : PySem.W.Frag} {H : Hp} {a : Addr} {xs : List V} (h : SqT K H a xs) : TyX K H (.ref a) (.type "tuple") := by
  rcases h with (h | ⟨o, h⟩) | ⟨o, its, n, h, c, _⟩
  · exact .base (.tup h)
  · exact .fTuple h
  · exact .kTuple h c
theorem yes_ok {σ : L2.St} {H : Hp} {te : TE} {R : VK} {Z : Hp → Prop} (h : te σ H R) : tYes σ H (fun b H3 => if b = true then te σ H3 R else Z H3) := by
  show if true = true then te σ H R else Z H
  rw [if_pos rfl]
  exact h
/-! ### comprehensions that make one value an item and leave the heap -/
theorem lcmap_tup {K : PySem.W.Frag} {a : Addr} {xs : List V} {g : TG} {tt : TT} {te : TE} {vs : List Nat} {σ : L2.St} {H1 : Hp} {D : Addr} {Qd : Hp → Prop} (ys : List V) (hl : ys.length = xs.length) (hz : xs.length ≤ 1000) (hS : SqT K H1 a xs) (hD : H1 D = none)
    (hs : ∀ (i : Nat) (x y : V) (H : Hp) (R : V → Hp → Prop) (Z : Hp → Prop), xs[i]? = some x → ys[i]? = some y → Same H1 H → (∀ H4, Same H H4 → R y H4) → g x (wipe σ vs) H fun σ2 H2 => wipe σ2 vs = wipe σ vs ∧ tt σ2 H2 fun b H3 => if b = true then te σ2 H3 R else Z H3)
    (hd : ∀ H, Same H1 H → H D = some (.lst ys) → Qd H) :
    ∃ W : Nat → Nat → Hp → Prop, (∃ m, W 0 m (upd H1 D (.lst []))) ∧ ∀ i m H, W i m H →
      ((Itt K a).stop i H ∧ Qd H) ∨ ((Itt K a).go i H ∧ ∃ Nx : Hp → Prop, (∀ H', Nx H' → ∃ m', m' < m ∧ W (i + 1) m' H') ∧ ∀ x H', (Itt K a).yld i H x H' → g x (wipe σ vs) H' fun σ2 H2 => wipe σ2 vs = wipe σ vs ∧ tt σ2 H2 fun b H3 =>
        if b = true then te σ2 H3 fun y H4 => ∃ acc, H4 D = some (.lst acc) ∧ acc.length < sizeLine ∧ Nx (upd H4 D (.lst (acc ++ [y]))) else Nx H3) := by
  refine lc_tup (K := K) (a := a) (xs := xs) (fun i H => Same H1 H ∧ H D = some (.lst (ys.take i))) ⟨same_upd hD, upd_same⟩ (fun i H _ p => Same.sqT p.1 hS) (fun i x H hx p => ?_) (fun H p => ?_)
  · have hi : i < xs.length := (List.getElem?_eq_some_iff.mp hx).1
    obtain ⟨y, hy⟩ : ∃ y, ys[i]? = some y := ⟨_, List.getElem?_eq_getElem (by omega)⟩
    refine hs i x y H _ _ hx hy p.1 (fun H4 s4 => ⟨ys.take i, s4 _ _ p.2, ?_, ?_, ?_⟩)
    · rw [List.length_take]
      exact Nat.lt_of_le_of_lt (Nat.min_le_left _ _) (small1000 (by omega))
    · intro b o e
      rw [upd_ne (ne_of_none e hD)]
      exact s4 _ _ (p.1 _ _ e)
    · rw [upd_same, List.take_add_one, hy]
      rfl
  · refine hd H p.1 ?_
    rw [p.2, List.take_of_length_le (by omega)]
/-! ### paired lists -/
theorem Paired.mono {α β : Type} {F G : α → β → Prop} {l₁ : List α} {l₂ : List β} (p : Paired F l₁ l₂) (f : ∀ a b, F a b → G a b) : Paired G l₁ l₂ := Paired.mapP p f
theorem Paired.takeP {α β : Type} {F : α → β → Prop} : ∀ {l₁ : List α} {l₂ : List β} (n : Nat), Paired F l₁ l₂ → Paired F (l₁.take n) (l₂.take n)
  | _, _, 0, _ => .nil
  | _, _, _ + 1, .nil => .nil
  | _, _, n + 1, .cons r t => .cons r (Paired.takeP n t)
theorem Paired.dropP {α β : Type} {F : α → β → Prop} : ∀ {l₁ : List α} {l₂ : List β} (n : Nat), Paired F l₁ l₂ → Paired F (l₁.drop n) (l₂.drop n)
  | _, _, 0, p => p
  | _, _, _ + 1, .nil => .nil
  | _, _, n + 1, .cons _ t => Paired.dropP n t
theorem Paired.at {α β : Type} {F : α → β → Prop} : ∀ {l₁ : List α} {l₂ : List β} {i : Nat} {x : α}, Paired F l₁ l₂ → l₁[i]? = some x → ∃ y, l₂[i]? = some y ∧ F x y
  | _, _, i, x, .nil, h => by simp at h
  | _, _, 0, x, .cons (a := a) r t, h => by
    have e : _ = x := Option.some.inj h
    subst e
    exact ⟨_, rfl, r⟩
  | _, _, i + 1, x, .cons r t, h => Paired.at (i := i) t h
theorem Paired.at2 {α β : Type} {F : α → β → Prop} : ∀ {l₁ : List α} {l₂ : List β} {i : Nat} {y : β}, Paired F l₁ l₂ → l₂[i]? = some y → ∃ x, l₁[i]? = some x ∧ F x y
  | _, _, i, y, .nil, h => by simp at h
  | _, _, 0, y, .cons r t, h => by
    have e : _ = y := Option.some.inj h
    subst e
    exact ⟨_, rfl, r⟩
  | _, _, i + 1, y, .cons r t, h => Paired.at2 (i := i) t h
theorem Paired.snocP {α β : Type} {F : α → β → Prop} : ∀ {l₁ : List α} {l₂ : List β} {x : α} {y : β}, Paired F l₁ l₂ → F x y → Paired F (l₁ ++ [x]) (l₂ ++ [y])
  | _, _, _, _, .nil, h => .cons h .nil
  | _, _, _, _, .cons r t, h => .cons r (Paired.snocP t h)
/-! ### rows, layers as they lie in the heap -/
abbrev RW := Int × Int
def RowAt (K : PySem.W.Frag) (H : Hp) (v : V) (r : RW) : Prop := ∃ p, v = .ref p ∧ SqT K H p [.int r.1, .int r.2]
def RowsAt (K : PySem.W.Frag) (H : Hp) (v : V) (rs : List RW) : Prop := ∃ p vs, v = .ref p ∧ SqT K H p vs ∧ Paired (RowAt K H) vs rs
def LayAt (K : PySem.W.Frag) (H : Hp) (v : V) (rs : List RW) (bk : Option Int) : Prop := ∃ p rv, v = .ref p ∧ SqT K H p [rv, bkV bk] ∧ RowsAt K H rv rs
def VRow (r : RW) : Prop := 0 ≤ r.1 ∧ r.1 ≤ 9 ∧ 1 ≤ r.2 ∧ r.2 ≤ 24
def VRows (rs : List RW) : Prop := rs.length ≤ 8 ∧ ∀ r ∈ rs, VRow r
def VBack (rs : List RW) (bk : Option Int) : Prop := ∀ i, bk = some i → 0 ≤ i ∧ i < rs.length
abbrev TKeep (K : PySem.W.Frag) (H H' : Hp) : Prop := ∀ a xs, SqT K H a xs → SqT K H' a xs
theorem Same.tk {K : PySem.W.Frag} {H H' : Hp} (s : Same H H') : TKeep K H H' := fun _ _ h => Same.sqT s h
theorem Gr.tk {st : Addr} {K : PySem.W.Frag} {H H' : Hp} (g : Gr st H H') (s : IsSt H st) : TKeep K H H' := fun _ _ h => g.sqT s h
theorem RowAt.keep {K : PySem.W.Frag} {H H' : Hp} {v : V} {r : RW} (k : TKeep K H H') : RowAt K H v r → RowAt K H' v r := fun ⟨p, e, h⟩ => ⟨p, e, k _ _ h⟩
theorem RowsAt.keep {K : PySem.W.Frag} {H H' : Hp} {v : V} {rs : List RW} (k : TKeep K H H') : RowsAt K H v rs → RowsAt K H' v rs := fun ⟨p, vs, e, h, q⟩ => ⟨p, vs, e, k _ _ h, Paired.mono q fun _ _ => RowAt.keep k⟩
theorem LayAt.keep {K : PySem.W.Frag} {H H' : Hp} {v : V} {rs : List RW} {bk : Option Int} (k : TKeep K H H') : LayAt K H v rs bk → LayAt K H' v rs bk := fun ⟨p, rv, e, h, q⟩ => ⟨p, rv, e, k _ _ h, q.keep k⟩
/-! ### what a layer shows -/
def tot (rs : List RW) : Int := (rs.map (·.2)).sum
theorem tot_nil : tot [] = 0 := rfl
theorem tot_cons (r : RW) (rs : List RW) : tot (r :: rs) = r.2 + tot rs := by
  unfold tot
  rw [List.map_cons, List.sum_cons]
theorem tot_append (rs qs : List RW) : tot (rs ++ qs) = tot rs + tot qs := by
  induction rs with
  | nil => simp [tot_nil]
  | cons r t ih =>
    rw [List.cons_append, tot_cons, tot_cons, ih]
    omega
theorem tot_split (rs : List RW) (k : Nat) : tot rs = tot (rs.take k) + tot (rs.drop k) := by
  rw [← tot_append, List.take_append_drop]
theorem tot_nonneg : ∀ {rs : List RW}, (∀ r ∈ rs, VRow r) → (rs.length : Int) ≤ tot rs ∧ tot rs ≤ 24 * rs.length
  | [], _ => by
    rw [tot_nil]
    exact ⟨Int.le_refl _, Int.le_refl _⟩
  | r :: t, h => by
    have h1 := h r (List.mem_cons_self ..)
    have ih := tot_nonneg (rs := t) fun q hq => h q (List.mem_cons_of_mem _ hq)
    rw [tot_cons, List.length_cons]
    obtain ⟨_, _, h3, h4⟩ := h1
    obtain ⟨i1, i2⟩ := ih
    constructor <;> omega
def walk : List RW → Int → Int
  | [], _ => 0
  | r :: t, m => if m < r.2 then r.1 else walk t (m - r.2)
def near (rs : List RW) (bk : Option Int) (m : Int) : Int := match bk with
  | none => m
  | some b => if m < tot (rs.take b.toNat) then m else tot (rs.take b.toNat) + (m - tot (rs.take b.toNat)) % tot (rs.drop b.toNat)
def shown (rs : List RW) (bk : Option Int) (m : Int) : Int := walk rs (near rs bk m)
theorem walk_out : ∀ (rs : List RW) (m : Int), tot rs ≤ m → (∀ r ∈ rs, VRow r) → walk rs m = 0
  | [], _, _, _ => rfl
  | r :: t, m, h, v => by
    have v1 := v r (List.mem_cons_self ..)
    have vt : ∀ q ∈ t, VRow q := fun q hq => v q (List.mem_cons_of_mem _ hq)
    have t0 := (tot_nonneg vt).1
    rw [tot_cons] at h
    unfold walk
    rw [if_neg (by omega)]
    exact walk_out t _ (by omega) vt
theorem walk_at : ∀ (rs : List RW) (p : Nat) (r : RW) (j : Int), rs[p]? = some r → (∀ r ∈ rs, VRow r) → 0 ≤ j → j < r.2 → walk rs (tot (rs.take p) + j) = r.1
  | [], p, r, j, h, _, _, _ => by simp at h
  | q :: t, 0, r, j, h, _, h0, h1 => by
    have e : q = r := Option.some.inj h
    subst e
    rw [List.take_zero, tot_nil]
    unfold walk
    rw [if_pos (by omega)]
  | q :: t, p + 1, r, j, h, v, h0, h1 => by
    have vq := v q (List.mem_cons_self ..)
    have vt : ∀ q ∈ t, VRow q := fun q hq => v q (List.mem_cons_of_mem _ hq)
    have tp : 0 ≤ tot (t.take p) := by
      have := (tot_nonneg (rs := t.take p) fun q hq => vt q (List.mem_of_mem_take hq)).1
      omega
    rw [List.take_succ_cons, tot_cons]
    unfold walk
    rw [if_neg (by omega), show q.2 + tot (t.take p) + j - q.2 = tot (t.take p) + j by omega]
    exact walk_at t p r j h vt h0 h1
theorem tot_take_le {rs : List RW} (v : ∀ r ∈ rs, VRow r) {p : Nat} {r : RW} (h : rs[p]? = some r) : tot (rs.take p) + r.2 ≤ tot rs := by
  have hp : p < rs.length := (List.getElem?_eq_some_iff.mp h).1
  have e : rs.take (p + 1) = rs.take p ++ [r] := by
    rw [List.take_add_one, h]
    rfl
  have s := tot_split rs (p + 1)
  rw [e, tot_append] at s
  have e1 : tot [r] = r.2 := by
    rw [tot_cons, tot_nil]
    omega
  have := (tot_nonneg (rs := rs.drop (p + 1)) fun q hq => v q (List.mem_of_mem_drop hq)).1
  omega
/-- the j-th picture of the row p, behind k more rounds -/
theorem shown_at {rs : List RW} {bk : Option Int} (v : ∀ r ∈ rs, VRow r) (vb : VBack rs bk) {p k : Nat} {r : RW} {j c : Int} (h : rs[p]? = some r) (h0 : 0 ≤ j) (h1 : j < r.2)
    (hc : ∀ b, bk = some b → c = tot (rs.drop b.toNat)) (hk : 0 < k → ∃ b, bk = some b ∧ b ≤ p) : shown rs bk (tot (rs.take p) + k * c + j) = r.1 := by
  have w := walk_at rs p r j h v h0 h1
  have tp : 0 ≤ tot (rs.take p) := by
    have := (tot_nonneg (rs := rs.take p) fun q hq => v q (List.mem_of_mem_take hq)).1
    omega
  unfold shown near
  cases bk with
  | none =>
    have k0 : k = 0 := by
      rcases Nat.eq_zero_or_pos k with z | z
      · exact z
      · obtain ⟨b, e, _⟩ := hk z
        cases e
    subst k0
    dsimp only
    rw [show tot (rs.take p) + ((0 : Nat) : Int) * c + j = tot (rs.take p) + j by simp]
    exact w
  | some b =>
    have hb := vb b rfl
    have ec := hc b rfl
    have s := tot_split rs b.toNat
    have le := tot_take_le v h
    rw [← ec] at s
    dsimp only
    rw [← ec]
    have cpos : 0 < c := by
      have := (tot_nonneg (rs := rs.drop b.toNat) fun q hq => v q (List.mem_of_mem_drop hq)).1
      rw [← ec, List.length_drop] at this
      omega
    rcases Nat.eq_zero_or_pos k with z | z
    · subst z
      rw [show tot (rs.take p) + ((0 : Nat) : Int) * c + j = tot (rs.take p) + j by simp]
      by_cases hm : tot (rs.take p) + j < tot (rs.take b.toNat)
      · rw [if_pos hm]
        exact w
      · rw [if_neg hm, Int.emod_eq_of_lt (by omega) (by omega)]
        rw [show tot (rs.take b.toNat) + (tot (rs.take p) + j - tot (rs.take b.toNat)) = tot (rs.take p) + j by omega]
        exact w
    · obtain ⟨b', e, hbp⟩ := hk z
      have e' : b = b' := Option.some.inj e
      subst e'
      have bp : b.toNat ≤ p := by omega
      have tb : tot (rs.take b.toNat) ≤ tot (rs.take p) := by
        have e1 : rs.take b.toNat = (rs.take p).take b.toNat := by
          rw [List.take_take, Nat.min_eq_left bp]
        have s1 := tot_split (rs.take p) b.toNat
        rw [← e1] at s1
        have := (tot_nonneg (rs := (rs.take p).drop b.toNat) fun q hq => v q (List.mem_of_mem_take (List.mem_of_mem_drop hq))).1
        omega
      have kc : 0 ≤ (k : Int) * c := Int.mul_nonneg (by omega) (by omega)
      rw [if_neg (by omega)]
      rw [show tot (rs.take p) + (k : Int) * c + j - tot (rs.take b.toNat) = (tot (rs.take p) + j - tot (rs.take b.toNat)) + c * k by rw [Int.mul_comm c]; omega, Int.add_mul_emod_self_left, Int.emod_eq_of_lt (by omega) (by omega)]
      rw [show tot (rs.take b.toNat) + (tot (rs.take p) + j - tot (rs.take b.toNat)) = tot (rs.take p) + j by omega]
      exact w
theorem shown_end {rs : List RW} (v : ∀ r ∈ rs, VRow r) {m : Int} (h : tot rs ≤ m) : shown rs none m = 0 := walk_out rs m h v
/-- a great moment is as the one so many whole rounds ahead -/
theorem shown_far {rs : List RW} {bk : Option Int} (v : ∀ r ∈ rs, VRow r) (vb : VBack rs bk) {m s : Int} (hs : s = match bk with | none => 1 | some b => tot (rs.drop b.toNat)) (h : tot rs ≤ m) :
    shown rs bk (tot rs + (m - tot rs) % s) = shown rs bk m := by
  cases bk with
  | none =>
    dsimp only at hs
    subst hs
    rw [shown_end v h, shown_end v (by omega)]
  | some b =>
    dsimp only at hs
    have hb := vb b rfl
    have e := tot_split rs b.toNat
    have spos : 0 < s := by
      have := (tot_nonneg (rs := rs.drop b.toNat) fun q hq => v q (List.mem_of_mem_drop hq)).1
      rw [← hs, List.length_drop] at this
      omega
    have hm := Int.emod_nonneg (m - tot rs) (show s ≠ 0 by omega)
    unfold shown near
    dsimp only
    rw [← hs] at e ⊢
    rw [if_neg (by omega), if_neg (by omega)]
    congr 2
    rw [show tot rs + (m - tot rs) % s - tot (rs.take b.toNat) = (m - tot rs) % s + s * 1 by omega, Int.add_mul_emod_self_left, Int.emod_emod,
      show m - tot (rs.take b.toNat) = (m - tot rs) + s * 1 by omega, Int.add_mul_emod_self_left]
theorem shown_walk_none (rs : List RW) (m : Int) : shown rs none m = walk rs m := rfl
/-! ### slices -/
theorem cut_to (xs : List V) (k : Nat) : cutV xs none (some (k : Int)) = xs.take k := by
  unfold cutV
  rw [HT.sIx_none, HT.sIx_nat, List.drop_zero, Nat.sub_zero]
  rcases Nat.le_total k xs.length with h | h
  · rw [Nat.min_eq_left h]
  · rw [Nat.min_eq_right h, List.take_length, List.take_of_length_le h]
theorem cut_from (xs : List V) (k : Nat) : cutV xs (some (k : Int)) none = xs.drop k := by
  unfold cutV
  rw [HT.sIx_none, HT.sIx_nat]
  rcases Nat.le_total k xs.length with h | h
  · rw [Nat.min_eq_left h, List.take_of_length_le (by rw [List.length_drop]; omega)]
  · rw [Nat.min_eq_right h, Nat.sub_self, List.take_zero, List.drop_of_length_le h]
theorem cut_all (xs : List V) : cutV xs none none = xs := by
  unfold cutV
  rw [HT.sIx_none, HT.sIx_none, List.drop_zero, Nat.sub_zero, List.take_length]
theorem cut_whole {xs : List V} {lo hi : Option Int} (h : HT.sIx xs.length 0 lo = 0 ∧ HT.sIx xs.length xs.length hi = xs.length) : cutV xs lo hi = xs := by
  unfold cutV
  rw [h.1, h.2, List.drop_zero, Nat.sub_zero, List.take_length]
theorem sl_rows {K : PySem.W.Frag} {H : Hp} {a : Addr} {xs : List V} {lo hi : Option Int} (rs : List RW) {R : VK} (hS : SqT K H a xs) (hp : Paired (RowAt K H) (cutV xs lo hi) rs) (h : ∀ H' v, Same H H' → RowsAt K H' v rs → R v H') :
    rSlA K (.ref a) lo hi H R := by
  refine ⟨a, xs, rfl, hS, fun w => h H _ (Same.refl _) ⟨a, xs, rfl, hS, ?_⟩, fun _ p np => ?_⟩
  · rw [cut_whole w] at hp
    exact hp
  · have s := same_upd (o := .tup (cutV xs lo hi)) np
    exact h _ _ s ⟨p, _, rfl, .inl (.inl upd_same), Paired.mono hp fun _ _ => RowAt.keep (Same.tk s)⟩
/-! ### windows -/
abbrev MV := Int × Int × Int
def MoveAt (K : PySem.W.Frag) (H : Hp) (v : V) (m : MV) : Prop := ∃ p, v = .ref p ∧ SqT K H p [.int m.1, .int m.2.1, .int m.2.2]
def MovesAt (K : PySem.W.Frag) (H : Hp) (v : V) (ms : List MV) : Prop := ∃ p vs, v = .ref p ∧ SqT K H p vs ∧ Paired (MoveAt K H) vs ms
def WinAt (K : PySem.W.Frag) (H : Hp) (v : V) (x y : Int) (ms : List MV) : Prop := ∃ p mv, v = .ref p ∧ SqT K H p [.int x, .int y, mv] ∧ MovesAt K H mv ms
def VMove (m : MV) : Prop := (-20 ≤ m.1 ∧ m.1 ≤ 20) ∧ (-20 ≤ m.2.1 ∧ m.2.1 ≤ 20) ∧ 0 ≤ m.2.2 ∧ m.2.2 ≤ 24
def VWin (x y : Int) (ms : List MV) : Prop := (-20 ≤ x ∧ x ≤ 20) ∧ (-20 ≤ y ∧ y ≤ 20) ∧ ms.length ≤ 8 ∧ ∀ m ∈ ms, VMove m
theorem MoveAt.keep {K : PySem.W.Frag} {H H' : Hp} {v : V} {m : MV} (k : TKeep K H H') : MoveAt K H v m → MoveAt K H' v m := fun ⟨p, e, h⟩ => ⟨p, e, k _ _ h⟩
theorem MovesAt.keep {K : PySem.W.Frag} {H H' : Hp} {v : V} {ms : List MV} (k : TKeep K H H') : MovesAt K H v ms → MovesAt K H' v ms := fun ⟨p, vs, e, h, q⟩ => ⟨p, vs, e, k _ _ h, Paired.mono q fun _ _ => MoveAt.keep k⟩
theorem WinAt.keep {K : PySem.W.Frag} {H H' : Hp} {v : V} {x y : Int} {ms : List MV} (k : TKeep K H H') : WinAt K H v x y ms → WinAt K H' v x y ms := fun ⟨p, mv, e, h, q⟩ => ⟨p, mv, e, k _ _ h, q.keep k⟩
def mtot (ms : List MV) : Int := (ms.map (·.2.2)).sum
/-! ### sheets -/
abbrev LY := List RW × Option Int
def LyAt (K : PySem.W.Frag) (H : Hp) (v : V) (l : LY) : Prop := LayAt K H v l.1 l.2
def LaysAt (K : PySem.W.Frag) (H : Hp) (v : V) (ls : List LY) : Prop := ∃ p vs, v = .ref p ∧ SqT K H p vs ∧ Paired (LyAt K H) vs ls
def VLy (l : LY) : Prop := VRows l.1 ∧ VBack l.1 l.2
def VLays (ls : List LY) : Prop := 1 ≤ ls.length ∧ ls.length ≤ 4 ∧ ∀ l ∈ ls, VLy l
def ShAt (K : PySem.W.Frag) (H : Hp) (v : V) (ls : List LY) (x y : Int) (ms : List MV) : Prop := ∃ p lv wv, v = .ref p ∧ SqT K H p [lv, wv] ∧ LaysAt K H lv ls ∧ WinAt K H wv x y ms
theorem LyAt.keep {K : PySem.W.Frag} {H H' : Hp} {v : V} {l : LY} (k : TKeep K H H') : LyAt K H v l → LyAt K H' v l := LayAt.keep k
theorem LaysAt.keep {K : PySem.W.Frag} {H H' : Hp} {v : V} {ls : List LY} (k : TKeep K H H') : LaysAt K H v ls → LaysAt K H' v ls := fun ⟨p, vs, e, h, q⟩ => ⟨p, vs, e, k _ _ h, Paired.mono q fun _ _ => LyAt.keep k⟩
theorem ShAt.keep {K : PySem.W.Frag} {H H' : Hp} {v : V} {ls : List LY} {x y : Int} {ms : List MV} (k : TKeep K H H') : ShAt K H v ls x y ms → ShAt K H' v ls x y ms := fun ⟨p, lv, wv, e, h, q, r⟩ => ⟨p, lv, wv, e, k _ _ h, q.keep k, r.keep k⟩
/-! ### places -/
def PlAt (K : PySem.W.Frag) (H : Hp) (v : V) (p : RW × RW) : Prop := ∃ a v1 v2, v = .ref a ∧ SqT K H a [v1, v2] ∧ RowAt K H v1 p.1 ∧ RowAt K H v2 p.2
theorem PlAt.keep {K : PySem.W.Frag} {H H' : Hp} {v : V} {p : RW × RW} (k : TKeep K H H') : PlAt K H v p → PlAt K H' v p := fun ⟨a, v1, v2, e, h, r1, r2⟩ => ⟨a, v1, v2, e, k _ _ h, r1.keep k, r2.keep k⟩
/-! ### pictures -/
abbrev PIC := List Int × (RW × RW)
def PicAt (K : PySem.W.Frag) (H : Hp) (v : V) (c : PIC) : Prop := ∃ a b v2, v = .ref a ∧ SqT K H a [.ref b, v2] ∧ SqT K H b (c.1.map V.int) ∧ PlAt K H v2 c.2
theorem PicAt.keep {K : PySem.W.Frag} {H H' : Hp} {v : V} {c : PIC} (k : TKeep K H H') : PicAt K H v c → PicAt K H' v c := fun ⟨a, b, v2, e, h, h1, h2⟩ => ⟨a, b, v2, e, k _ _ h, k _ _ h1, h2.keep k⟩
/-! ### fractions in lowest terms -/
def lo (t b : Int) : RW := (t / ((Nat.gcd t.natAbs b.natAbs : Nat) : Int), b / ((Nat.gcd t.natAbs b.natAbs : Nat) : Int))
theorem gcd_facts {t b : Int} (hb : 0 < b) : ∃ g t' b' : Int, ((Nat.gcd t.natAbs b.natAbs : Nat) : Int) = g ∧ 0 < g ∧ t = g * t' ∧ b = g * b' ∧ 0 < b' ∧ (lo t b) = (t', b') ∧ g ≤ b ∧ Nat.Coprime b'.natAbs t'.natAbs := by
  have g0 : 0 < Nat.gcd t.natAbs b.natAbs := Nat.gcd_pos_of_pos_right _ (by omega)
  obtain ⟨t', ht⟩ : ((Nat.gcd t.natAbs b.natAbs : Nat) : Int) ∣ t := Int.natAbs_dvd_natAbs.mp (by rw [Int.natAbs_natCast]; exact Nat.gcd_dvd_left _ _)
  obtain ⟨b', hb'⟩ : ((Nat.gcd t.natAbs b.natAbs : Nat) : Int) ∣ b := Int.natAbs_dvd_natAbs.mp (by rw [Int.natAbs_natCast]; exact Nat.gcd_dvd_right _ _)
  have gp : (0 : Int) < ((Nat.gcd t.natAbs b.natAbs : Nat) : Int) := by omega
  have bp : 0 < b' := Int.pos_of_mul_pos_left (a := b') (b := ((Nat.gcd t.natAbs b.natAbs : Nat) : Int)) (by rw [Int.mul_comm, ← hb']; exact hb) gp
  have gle : ((Nat.gcd t.natAbs b.natAbs : Nat) : Int) ≤ b := by
    have := Nat.gcd_le_right t.natAbs (show 0 < b.natAbs by omega)
    omega
  have cop : Nat.gcd b'.natAbs t'.natAbs = 1 := by
    have e1 : t.natAbs = Nat.gcd t.natAbs b.natAbs * t'.natAbs := by
      have := congrArg Int.natAbs ht
      rw [Int.natAbs_mul, Int.natAbs_natCast] at this
      exact this
    have e2 : b.natAbs = Nat.gcd t.natAbs b.natAbs * b'.natAbs := by
      have := congrArg Int.natAbs hb'
      rw [Int.natAbs_mul, Int.natAbs_natCast] at this
      exact this
    have e3 : Nat.gcd (Nat.gcd t.natAbs b.natAbs * t'.natAbs) (Nat.gcd t.natAbs b.natAbs * b'.natAbs) = Nat.gcd t.natAbs b.natAbs * Nat.gcd t'.natAbs b'.natAbs := Nat.gcd_mul_left _ _ _
    rw [← e1, ← e2] at e3
    rw [Nat.gcd_comm]
    exact Nat.eq_of_mul_eq_mul_left g0 (by rw [← e3, Nat.mul_one])
  refine ⟨_, t', b', rfl, gp, ht, hb', bp, ?_, gle, cop⟩
  unfold lo
  congr 1
  · conv => lhs; arg 1; rw [ht]
    exact Int.mul_ediv_cancel_left _ (by omega)
  · conv => lhs; arg 1; rw [hb']
    exact Int.mul_ediv_cancel_left _ (by omega)
theorem lo_mem {t b k : Int} (hb : 0 < b) : t * k % b = 0 ↔ (lo t b).2 ∣ k := by
  obtain ⟨g, t', b', _, gp, et, eb, bp, el, _, cop⟩ := gcd_facts (t := t) hb
  rw [el]
  show _ ↔ b' ∣ k
  constructor
  · intro h
    have h1 := Int.dvd_of_emod_eq_zero h
    rw [et, eb, Int.mul_assoc] at h1
    obtain ⟨c, hc⟩ := h1
    rw [Int.mul_assoc] at hc
    have h2 : b' ∣ t' * k := ⟨c, Int.eq_of_mul_eq_mul_left (by omega) hc⟩
    have h3 := Int.natAbs_dvd_natAbs.mpr h2
    rw [Int.natAbs_mul] at h3
    exact Int.natAbs_dvd_natAbs.mp (Nat.Coprime.dvd_of_dvd_mul_left cop h3)
  · rintro ⟨c, hc⟩
    apply Int.emod_eq_zero_of_dvd
    refine ⟨t' * c, ?_⟩
    rw [et, eb, hc]
    rw [Int.mul_assoc, Int.mul_assoc, Int.mul_left_comm t' b' c]
/-- the numbers from 1 to n that the law looks through -/
def ks (t b : Int) (n : Nat) : List Int := ((List.range n).map fun j => 1 + ((j : Nat) : Int)).filter fun k => decide (t * k % b = 0)
theorem ks_head {t b : Int} (hb : 0 < b) : (ks t b b.toNat)[0]? = some (lo t b).2 := by
  obtain ⟨g, t', b', _, gp, et, eb, bp, el, _, cop⟩ := gcd_facts (t := t) hb
  have hm : ∀ k, t * k % b = 0 ↔ b' ∣ k := fun k => by
    have := lo_mem (t := t) (k := k) hb
    rw [el] at this
    exact this
  rw [el]
  show (ks t b b.toNat)[0]? = some b'
  have ble : b' ≤ b := by
    rw [eb]
    have : 1 * b' ≤ g * b' := Int.mul_le_mul_of_nonneg_right (by omega) (by omega)
    omega
  unfold ks
  rw [List.filter_map, List.getElem?_map, ← List.head?_eq_getElem?, List.head?_filter]
  have e : (List.range b.toNat).find? ((fun k : Int => decide (t * k % b = 0)) ∘ fun j : Nat => 1 + (j : Int)) = some (b'.toNat - 1) := by
    rw [List.find?_range_eq_some]
    refine ⟨?_, List.mem_range.mpr (by omega), fun j hj => ?_⟩
    · show decide (t * (1 + ((b'.toNat - 1 : Nat) : Int)) % b = 0) = true
      rw [decide_eq_true_eq, hm, show 1 + ((b'.toNat - 1 : Nat) : Int) = b' by omega]
      exact Int.dvd_refl _
    · show (!decide (t * (1 + (j : Int)) % b = 0)) = true
      rw [Bool.not_eq_true', decide_eq_false_iff_not, hm]
      intro hd
      have := Int.le_of_dvd (by omega) hd
      omega
  rw [e]
  show some (1 + ((b'.toNat - 1 : Nat) : Int)) = some b'
  congr 1
  omega
theorem lo_top {t b : Int} (hb : 0 < b) : t * (lo t b).2 / b = (lo t b).1 := by
  obtain ⟨g, t', b', _, gp, et, eb, bp, el, _, cop⟩ := gcd_facts (t := t) hb
  rw [el]
  show t * b' / b = t'
  rw [et, show g * t' * b' = b * t' by rw [eb, Int.mul_assoc, Int.mul_assoc, Int.mul_comm t' b']]
  exact Int.mul_ediv_cancel_left _ (by omega)
/-! ### where a window stands -/
def plc (x y : Int) : List MV → Int → RW × RW
  | [], _ => ((x, 1), (y, 1))
  | m :: r, t => if t < m.2.2 then (lo (x * m.2.2 + (m.1 - x) * (t + 1)) m.2.2, lo (y * m.2.2 + (m.2.1 - y) * (t + 1)) m.2.2) else plc m.1 m.2.1 r (t - m.2.2)
theorem way_eq (x g n k : Int) : x * (n - k) + g * k = x * n + (g - x) * k := by
  rw [Int.mul_sub, Int.sub_mul]
  omega
theorem plc_nil (x y t : Int) : plc x y [] t = ((x, 1), (y, 1)) := rfl
theorem plc_cons (x y : Int) (m : MV) (r : List MV) (t : Int) : plc x y (m :: r) t = if t < m.2.2 then (lo (x * m.2.2 + (m.1 - x) * (t + 1)) m.2.2, lo (y * m.2.2 + (m.2.1 - y) * (t + 1)) m.2.2) else plc m.1 m.2.1 r (t - m.2.2) := rfl
theorem mtot_cons (m : MV) (r : List MV) : mtot (m :: r) = m.2.2 + mtot r := by
  unfold mtot
  rw [List.map_cons, List.sum_cons]
theorem mtot_nonneg : ∀ {ms : List MV}, (∀ m ∈ ms, VMove m) → 0 ≤ mtot ms ∧ mtot ms ≤ 24 * ms.length
  | [], _ => ⟨Int.le_refl _, Int.le_refl _⟩
  | m :: r, h => by
    have ih := mtot_nonneg (ms := r) fun q hq => h q (List.mem_cons_of_mem _ hq)
    obtain ⟨_, _, h3, h4⟩ := h m (List.mem_cons_self ..)
    rw [mtot_cons, List.length_cons]
    obtain ⟨i1, i2⟩ := ih
    constructor <;> omega
theorem plc_far : ∀ (ms : List MV) (x y a b : Int), (∀ m ∈ ms, VMove m) → mtot ms ≤ a → mtot ms ≤ b → plc x y ms a = plc x y ms b
  | [], _, _, _, _, _, _, _ => rfl
  | m :: r, x, y, a, b, h, ha, hb => by
    have hr : ∀ q ∈ r, VMove q := fun q hq => h q (List.mem_cons_of_mem _ hq)
    have := (mtot_nonneg hr).1
    rw [mtot_cons] at ha hb
    rw [plc_cons, plc_cons, if_neg (by omega), if_neg (by omega)]
    exact plc_far r _ _ _ _ hr (by omega) (by omega)
def pic (ls : List LY) (x y : Int) (ms : List MV) (m : Int) : PIC := (ls.map (fun l => shown l.1 l.2 m), plc x y ms m)
/-! ### the law's own helpers -/
theorem fm {x m : Int} (h : 0 < m) : 0 ≤ x.fmod m ∧ x.fmod m < m := by
  rw [Int.fmod_eq_emod_of_nonneg x (by omega)]
  exact ⟨Int.emod_nonneg _ (by omega), Int.emod_lt_of_pos _ h⟩
theorem tk_updL {K : PySem.W.Frag} {H : Hp} {D : Addr} {xs ys : List V} (h : H D = some (.lst xs)) : TKeep K H (upd H D (.lst ys)) := by
  intro a zs q
  rcases q with (q | ⟨o, q⟩) | q
  · refine .inl (.inl ?_)
    rw [upd_ne (ne_of q h (by intro z; cases z))]
    exact q
  · refine .inl (.inr ⟨o, ?_⟩)
    rw [upd_ne (ne_of q h (by intro z; cases z))]
    exact q
  · exact .inr q
inductive Fl : V → String → Bool → Prop
  | non : Fl .non "NoneType" false
  | bl (b : Bool) : Fl (.bl b) "bool" true
  | int (i : Int) : Fl (.int i) "int" false
theorem Fl.ty {K : PySem.W.Frag} {H : Hp} {x : V} {t : String} {b : Bool} (f : Fl x t b) : TyX K H x (.type t) := by
  cases f with
  | non => exact .base .non
  | bl b => exact .base (.bl b)
  | int i => exact .base (.int i)
theorem Fl.kit {x : V} {t : String} {b : Bool} (f : Fl x t b) : kitB t "bool" = some b := by
  cases f <;> decide +kernel
theorem Fl.kit2 {K : PySem.W.Frag} {x : V} {t : String} {b : Bool} (f : Fl x t b) : PySem.W.kitAny K (.type t) [.type "tuple", .type "list"] = some false := by
  cases f <;> exact kitAny_cons (kit_ty (r := false) (by decide +kernel)) (fun _ => kitAny_cons (kit_ty (r := false) (by decide +kernel)) (fun _ => kitAny_nil) (fun z => nomatch z)) (fun z => nomatch z)
theorem Fl.scal {x y : V} {t u : String} {b : Bool} (f : Fl x t b) (g : Fl y u b) : L2.scal x y = true := by
  cases f <;> cases g <;> rfl
theorem Fl.ne {x y : V} {t u : String} {b c : Bool} (f : Fl x t b) (g : Fl y u c) (h : b ≠ c) : x ≠ y := by
  cases f <;> cases g <;> first | exact absurd rfl h | (intro z; cases z)
theorem st_ne {H : Hp} {st p : Addr} (s : IsSt H st) (h : H p = none) : p ≠ st := by
  obtain ⟨x, y, hx, _⟩ := s
  exact fun z => by rw [z, hx] at h; cases h
theorem st_neT {H : Hp} {st p : Addr} {xs : List V} (s : IsSt H st) (h : H p = some (.tup xs)) : p ≠ st := by
  obtain ⟨x, y, hx, _⟩ := s
  exact ne_of h hx (by intro z; cases z)
/-! ### the law's own comparison, of equal data -/
theorem tyL {K : PySem.W.Frag} {H : Hp} {a : Addr} {xs : List V} (h : SqL K H a xs) : TyX K H (.ref a) (.type "list") := by
  rcases h with (h | ⟨o, h⟩) | ⟨o, its, n, h, c, _⟩
  · exact .base (.lst h)
  · exact .base (.frz h)
  · exact .kList h c
mutual
theorem Dp.sm {K : PySem.W.Frag} {H H' : Hp} (s : Same H H') : ∀ {v : V} {d : PyData}, Dp K H v d → Dp K H' v d
  | _, _, .non => .non
  | _, _, .bl b => .bl b
  | _, _, .int i => .int i
  | _, _, .str x => .str x
  | _, _, .lst h q => .lst (s.seq h) (DpAll.sm s q)
  | _, _, .tup h q => .tup (Same.sqT s h) (DpAll.sm s q)
theorem DpAll.sm {K : PySem.W.Frag} {H H' : Hp} (s : Same H H') : ∀ {v : List V} {d : List PyData}, DpAll K H v d → DpAll K H' v d
  | _, _, .nil => .nil
  | _, _, .cons h q => .cons (Dp.sm s h) (DpAll.sm s q)
end
theorem DpAll.at {K : PySem.W.Frag} {H : Hp} : ∀ {vs : List V} {ds : List PyData} {i : Nat} {v : V}, DpAll K H vs ds → vs[i]? = some v → ∃ d, ds[i]? = some d ∧ Dp K H v d
  | _, _, i, v, .nil, h => by simp at h
  | _, _, 0, v, .cons a t, h => by
    have e : _ = v := Option.some.inj h
    subst e
    exact ⟨_, rfl, a⟩
  | _, _, i + 1, v, .cons a t, h => DpAll.at (i := i) t h
theorem DpAll.len {K : PySem.W.Frag} {H : Hp} : ∀ {vs : List V} {ds : List PyData}, DpAll K H vs ds → vs.length = ds.length
  | _, _, .nil => rfl
  | _, _, .cons _ t => by rw [List.length_cons, List.length_cons, DpAll.len t]
def flD (d : PyData) : Prop := d = .none ∨ (∃ b, d = .bool b) ∨ ∃ i, d = .int i
def dOk : Nat → PyData → Prop
  | 0, d => flD d
  | n + 1, d => flD d ∨ ∃ ds, (d = .list ds ∨ d = .tuple ds) ∧ ds.length ≤ 1000 ∧ ∀ e ∈ ds, dOk n e
theorem flD.fl {K : PySem.W.Frag} {H : Hp} {x y : V} {d : PyData} (f : flD d) (hx : Dp K H x d) (hy : Dp K H y d) : x = y ∧ ∃ t b, Fl x t b := by
  rcases f with rfl | ⟨b, rfl⟩ | ⟨i, rfl⟩
  · cases hx
    cases hy
    exact ⟨rfl, _, _, .non⟩
  · cases hx
    cases hy
    exact ⟨rfl, _, _, .bl b⟩
  · cases hx
    cases hy
    exact ⟨rfl, _, _, .int i⟩
/-- a comprehension over a zip of two that stand still, each item True -/
theorem lc_zip {J : It} {xs ys : List V} {g : TG} {tt : TT} {te : TE} {vs : List Nat} {σ : L2.St} {H1 : Hp} {D : Addr} {Qd : Hp → Prop} (hl : ys.length = xs.length) (hz : xs.length ≤ 1000) (hD : H1 D = none)
    (st : ∀ H, Same H1 H → J.stop xs.length H) (go : ∀ (i : Nat) (H : Hp), Same H1 H → i < xs.length → J.go i H)
    (yl : ∀ (i : Nat) (H : Hp) (v : V) (H' : Hp), Same H1 H → J.yld i H v H' → ∃ T x y, v = .ref T ∧ H T = none ∧ H' = upd H T (.tup [x, y]) ∧ xs[i]? = some x ∧ ys[i]? = some y)
    (hs : ∀ (i : Nat) (x y : V) (T : Addr) (H : Hp) (R : V → Hp → Prop) (Z : Hp → Prop), xs[i]? = some x → ys[i]? = some y → Same H1 H → H T = some (.tup [x, y]) → (∀ H4, Same H H4 → R (.bl true) H4) →
      g (.ref T) (wipe σ vs) H fun σ2 H2 => wipe σ2 vs = wipe σ vs ∧ tt σ2 H2 fun b H3 => if b = true then te σ2 H3 R else Z H3)
    (hd : ∀ H, Same H1 H → H D = some (.lst ((List.replicate xs.length true).map V.bl)) → Qd H) :
    ∃ W : Nat → Nat → Hp → Prop, (∃ m, W 0 m (upd H1 D (.lst []))) ∧ ∀ i m H, W i m H →
      (J.stop i H ∧ Qd H) ∨ (J.go i H ∧ ∃ Nx : Hp → Prop, (∀ H', Nx H' → ∃ m', m' < m ∧ W (i + 1) m' H') ∧ ∀ x H', J.yld i H x H' → g x (wipe σ vs) H' fun σ2 H2 => wipe σ2 vs = wipe σ vs ∧ tt σ2 H2 fun b H3 =>
        if b = true then te σ2 H3 fun y H4 => ∃ acc, H4 D = some (.lst acc) ∧ acc.length < sizeLine ∧ Nx (upd H4 D (.lst (acc ++ [y]))) else Nx H3) := by
  refine ⟨fun i m H => m = xs.length - i ∧ i ≤ xs.length ∧ Same H1 H ∧ H D = some (.lst ((List.replicate i true).map V.bl)), ⟨xs.length, by simp, Nat.zero_le _, same_upd hD, upd_same⟩, ?_⟩
  rintro i m H ⟨rfl, hi, s1, eD⟩
  by_cases hlt : i < xs.length
  · refine .inr ⟨go i H s1 hlt, fun H' => Same H1 H' ∧ H' D = some (.lst ((List.replicate (i + 1) true).map V.bl)), fun H' p => ⟨xs.length - (i + 1), by omega, rfl, hlt, p⟩, fun v H' hy => ?_⟩
    obtain ⟨T, x, y, rfl, nT, rfl, hx, hy⟩ := yl i H v H' s1 hy
    have sT : Same H (upd H T (.tup [x, y])) := same_upd nT
    refine hs i x y T _ _ _ hx hy (s1.trans sT) upd_same (fun H4 s4 => ⟨_, s4 _ _ (sT _ _ eD), ?_, ?_, ?_⟩)
    · rw [List.length_map, List.length_replicate]
      exact small1000 (by omega)
    · intro b o e
      rw [upd_ne (ne_of_none e hD)]
      exact s4 _ _ (sT _ _ (s1 _ _ e))
    · rw [upd_same, List.replicate_succ', List.map_append]
      rfl
  · have e : i = xs.length := by omega
    subst e
    exact .inl ⟨st H s1, hd H s1 eD⟩
/-! ### a def that is entered where nothing is being shown: repr is known there -/
structure FnG (P : Program) (w : World) (K : PySem.W.Frag) (mg : Str → Option Value) (base : Heap) (k : Nat) (f : Addr) (fd : FuncData) (ps : List Str) (sp : Sp) : Prop where
  len : ∀ vs H Q E, sp vs H Q E → vs.length = ps.length
  run : ∀ (A : Around) (outer : List Env) (s : Shared) (H : Hp) (args : Args) (us : List Value) (vs : List V) (Q : VK) (E : XK), A.guards = some [] → Room k A → Env0 P w K mg base A outer s H → BindsTo s fd args (ps.zip us) →
    Vals vs us → sp vs H Q E → codeAny (model P w) A (.call (.ref f) args) (CR CX0 outer P w H s Q E) s
/-! ### a call goes by the def's body, in whatever context the body is read -/
/-- the def st stands at f, its code object is cdv -/
structure DefAt (K : PySem.W.Frag) (x qual : Str) (st : Stmt) (f : Addr) (fd : FuncData) (cdv : Value) : Prop where
  isFn : ∃ (kV doc pm : Value) (an : Option Addr) (ct : Value), fd = PySem.W.fnOf x qual (defArgs st) (defBody st) (defScope st) .none kV doc pm an cdv ct
  there : ∃ (oc : Value) (od : Option Addr) (osl : Array (Option Value)), K.lookup f = some ⟨oc, od, .func fd, osl⟩
  coded : PySem.W.codeIn K cdv qual = true
/-- what a call's value is, told by how the body ends -/
def given : Flow → Value
  | .ret u => u
  | _ => .none
/-- the state in which a body begins whose parameters ps hold us -/
abbrev Begun (qual : Str) (st : Stmt) (f : Addr) (cdv : Value) (ps : List Str) (us : List Value) (s s1 : Shared) : Prop :=
  InCallC s s.heap.objs.size (bindL (envOfC qual (defScope st) s.heap.objs.size f cdv).kindOf (ps.zip us) fun _ => none) (cellsFrom (s.heap.objs.size + 1) (defScope st).names [])
    (bindC (envOfC qual (defScope st) s.heap.objs.size f cdv).kindOf (ps.zip us) fun _ => none) s1
theorem given_by {X : Cx} {Q : VK} {fl : Flow} {s' : Shared} (none : X.ex = []) (h : SP X [] { nx := fun _ H' => Q .non H', rt := Q } fl s') : CE X.outer X.prog X.w X.H_0 X.s_0 Q (given fl) s' := by
  have told : ∀ {σ : L2.St} {H' : Hp} {v : V}, Inv X [] σ H' s' → RelV v (given fl) → Q v H' → CE X.outer X.prog X.w X.H_0 X.s_0 Q (given fl) s' := fun J rv q => ⟨_, _, J.os, J.bare, none ▸ J.base, J.hok, rv, q⟩
  match fl, h with
  | .ret _, ⟨_, _, _, J, rv, q⟩ => exact told J rv q
  | .next, ⟨_, _, J, q⟩ => exact told (v := .non) J rfl q
  | .brk, ⟨_, _, _, q⟩ | .cont, ⟨_, _, _, q⟩ => exact q.elim
section
variable {P : Program} {w : World} {K : PySem.W.Frag} {mg : Str → Option Value} {base : Heap}
theorem defAt_of {x qual : Str} {st : Stmt} {f : Addr} {fd : FuncData} (F : Fun K x qual st f fd) : ∃ cdv, DefAt K x qual st f fd cdv :=
  let ⟨oc, od, kV, doc, pm, an, cdv, ct, osl, e, l, c⟩ := F.ex
  ⟨cdv, ⟨kV, doc, pm, an, ct, e⟩, ⟨oc, od, osl, l⟩, c⟩
theorem DefAt.call {x qual : Str} {st : Stmt} {f : Addr} {fd : FuncData} {cdv : Value} {N ps : List Str} {A : Around} {outer : List Env} {s : Shared} {H : Hp} {args : Args} {us : List Value} {R : Result → Shared → Prop} (D : DefAt K x qual st f fd cdv) (S : FnScope N ps (defScope st))
    (room : A.depth < recursionLimit) (e0 : Env0 P w K mg base A outer s H) (hb : BindsTo s fd args (ps.zip us))
    (body : ∀ s1, Begun qual st f cdv ps us s s1 → wpAny (model P w) (A.deeper (envOfC qual (defScope st) s.heap.objs.size f cdv)) (execs (defBody st) (envOfC qual (defScope st) s.heap.objs.size f cdv)) (fun fl s' => R (.ok (.ret (given fl))) s')
      (fun e s' => wpAny (model P w) (A.deeper (envOfC qual (defScope st) s.heap.objs.size f cdv)) (leaving (envOfC qual (defScope st) s.heap.objs.size f cdv) e) (fun _ z => R (.error e) z) (fun e' z => R (.error e') z) s') s1) :
    codeAny (model P w) A (.call (.ref f) args) R s := by
  obtain ⟨⟨kV, doc, pm, an, ct, rfl⟩, ⟨oc, od, osl, there⟩, coded⟩ := D
  have stands : ∀ b o, base.get? b = some o → s.heap.get? b = some o := fun b o z => (e0.bs b o z).1
  have kin := e0.mod.kin.keeps stands
  apply codeAny_call_function room (kin f _ there) rfl S.co S.gen rfl (PySem.W.codeRec_of kin coded)
  apply hb
  apply wpAny_newFunctionEnv_cells S.kind
  · exact fun y hy => (S.par y.1 (List.of_mem_zip hy).1).imp id fun c => ⟨c, PySem.W.cellsFrom_some _ _ _ (.inl c)⟩
  · rintro _ rfl s1 begun
    exact ⟨(e0.mod.nolimit.keeps stands).keeps begun.toInCall.keep, codeAny_func (wpAny_mono (body s1 begun) (fun fl _ h => by cases fl <;> exact h) fun _ _ h => h)⟩
theorem fun_okG {x qual : Str} {st : Stmt} {f : Addr} {fd : FuncData} {N ps : List Str} {k : Nat} {sp : Sp} (F : Fun K x qual st f fd) (S : FnScope N ps (defScope st)) (ln : ∀ vs H Q E, sp vs H Q E → vs.length = ps.length)
    (hbody : ∀ (cdv : Value) (A : Around) (outer : List Env) (s : Shared) (H : Hp) (vs : List V) (Q : VK) (E : XK), A.guards = some [] → Room k (A.deeper (envOfC qual (defScope st) s.heap.objs.size f cdv)) → sp vs H Q E →
      ∃ t, PSs (cxOf CX0 P w K mg base N qual (defScope st) f cdv A outer s H E).nox (defBody st) t ∧ t { nx := fun _ H' => Q .non H', rt := Q } (L2.start N vs) H) : FnG P w K mg base (k + 1) f fd ps sp := by
  obtain ⟨cdv, D⟩ := defAt_of F
  refine ⟨ln, fun A outer s H args us vs Q E hgu hr e0 hb r hsp => D.call S hr.depth e0 hb fun s1 begun => ?_⟩
  obtain ⟨t, ht, hq⟩ := hbody cdv A outer s H vs Q E hgu (hr.deeper _) hsp
  exact thn (ht.nox.run [] s1 _ H _ (inv_start S hr.hd e0 (ln _ _ _ _ hsp) r begun) hq) fun _ _ h => given_by rfl h
/-- the law's call from such a promise -/
theorem law_callG {mb : Str → Option Value} {k : Nat} {fa a : Addr} {fd : FuncData} {x : Str} {sp : Sp} {s₁ : Shared} {vs : List Value} {ns : List Int}
    (KX : K.In s₁.heap) (hns : s₁.heap.Ns mainGlobals mg) (hb : s₁.heap.Ns builtinsNs mb) (hbb : ∀ x : Str, x ≠ "__name__" → mb x = bootBuiltins x) (hlim : s₁.heap.NoLimit)
    (hge : s₁.gens = #[]) (ha : s₁.heap.get? a = some { cls := .type "list", data := .seq vs.toArray }) (hi : IntsAre vs ns) (hl : ns.length ≤ sizeLine) (hr : Room k callerA)
    (F : ∀ base : Heap, K.In base → base.Ns mainGlobals mg → FnG P w K mg base k fa fd [x] sp)
    (hbind : ∀ (s : Shared) (u : Value), BindsTo s fd ⟨[u], []⟩ [(x, u)])
    (hsp : ∀ H : Hp, SqL K H a (ns.map V.int) → sp [.ref a] H (fun v _ => v = .bl true) fun _ _ _ => False) :
    codeAny (model P w) callerA (.call (.ref fa) ⟨[.ref a], []⟩)
      (fun r s' => r = .ok (.ret (.bool true)) ∧ OldK s₁.heap s'.heap ∧ s'.os = s₁.os ∧ AllBare s'.gens) s₁ := by
  have rv := vals_ints hi
  have lv := hi.length
  obtain ⟨H, hH⟩ : ∃ H : Hp, ∀ b, H b = if b = a ∧ K.lookup a = none then some (.frz { cls := .type "list", data := .seq vs.toArray } (.lst (ns.map V.int))) else none := ⟨fun b => _, fun _ => rfl⟩
  have some_of : ∀ {b u}, H b = some u → b = a ∧ K.lookup a = none ∧ u = .frz { cls := .type "list", data := .seq vs.toArray } (.lst (ns.map V.int)) := by
    intro b u e
    rw [hH b] at e
    by_cases c : b = a ∧ K.lookup a = none
    · rw [if_pos c] at e
      exact ⟨c.1, c.2, (Option.some.inj e).symm⟩
    · rw [if_neg c] at e
      cases e
  have none_of : ∀ {b o} {es : Array DictEntry} {ep : Nat}, s₁.heap.get? b = some o → o.data = .dict es ep → H b = none := by
    intro b o es ep e d
    cases c : H b with
    | none => rfl
    | some u =>
      obtain ⟨rfl, _, _⟩ := some_of c
      rw [ha] at e
      cases e
      cases d
  have hS : SqL K H a (ns.map V.int) := by
    cases hk : K.lookup a with
    | none => exact .inl (.inr ⟨_, by rw [hH a, if_pos ⟨rfl, hk⟩]⟩)
    | some o =>
      have e := KX a o hk
      rw [ha] at e
      cases e
      refine .inr ⟨_, vs.toArray, _, hk, rfl, rfl, rfl, ?_, by simpa using rv⟩
      rw [List.size_toArray, lv]
      exact hl
  have hok : HOk P w H s₁.heap := by
    intro b u e
    obtain ⟨rfl, _, rfl⟩ := some_of e
    refine ⟨ha, ?_, vs, _, rv, ha⟩
    rw [List.length_map]
    exact hl
  have nsB : ∀ {b : Addr} {m : Str → Option Value}, s₁.heap.Ns b m → (hidT s₁.heap H).Ns b m := by
    rintro b m ⟨o, es, ep, e, d, r⟩
    exact ⟨o, es, ep, hidT_get e (none_of e d), d, r⟩
  have kB : K.In (hidT s₁.heap H) := by
    intro b o e
    refine hidT_get (KX b o e) ?_
    cases c : H b with
    | none => rfl
    | some u =>
      obtain ⟨rfl, k0, _⟩ := some_of c
      rw [k0] at e
      cases e
  have md : Mod K mg (hidT s₁.heap H) := by
    obtain ⟨mc, h1, h2⟩ := hlim
    exact ⟨kB, nsB hns, ⟨mb, nsB hb, hbb⟩, ⟨mc, nsB h1, h2⟩⟩
  have e0 : Env0 P w K mg (hidT s₁.heap H) callerA [] s₁ H := by
    refine ⟨rfl, md, fun b o e => of_hidT e, Nat.le_of_eq (hidT_size _ _), trivial, ?_, hok, .of_eq hge⟩
    intro b hb
    exact absurd (show b ∈ ([] : List Addr) from hb) (by simp)
  have go := (F _ kB (nsB hns)).run callerA [] s₁ H ⟨[.ref a], []⟩ [.ref a] [.ref a] _ _ rfl hr e0
    (hbind s₁ (.ref a)) (.cons rfl .nil) (hsp H hS)
  refine codeAny_mono go fun r s' h => ?_
  cases r with
  | error e => exact h.elim
  | ok fl =>
    cases fl with
    | ret u =>
      obtain ⟨v, H', os, bare, un, hok', r', qv⟩ := h
      have qv' : v = .bl true := qv
      subst qv'
      obtain rfl : u = Value.bool true := r'
      refine ⟨rfl, OldK.of_keep fun b o e => ?_, os, bare⟩
      cases c : H b with
      | none =>
        refine un.keep b o e c ?_ (by simp)
        intro z
        exact absurd (show b ∈ ([] : List Addr) from z) (by simp)
      | some u =>
        obtain ⟨_, _, rfl⟩ := some_of c
        have c2 := un.frzs b _ _ c
        obtain ⟨e1, _⟩ := hok b _ c
        obtain ⟨e2, _⟩ := hok' b _ c2
        rw [e] at e1
        cases e1
        exact e2
    | next => exact False.elim h
    | brk => exact False.elim h
    | cont => exact False.elim h
end
theorem walk_ofG {l : PySem.W.OpenLaw} {n k : Nat} {q : Program} {loose : List Str} {XP : (Str → Option Value) → Heap → Prop} {YP : World → Heap → Prop} {d : DefRec} {K : Params → PySem.W.Frag} {sp : World → Sp} {x : Str}
    (hn : l.most = some n) (hn2 : n ≤ sizeLine) (hdf : d.params.defaults = []) (hr : Room k callerA) (hY : ∀ (w : World) (h : Heap), YP w h → (K w.params).In h)
    (F : ∀ (w : World) (mg : Str → Option Value) (fa : Addr) (h : Heap), (K w.params).In h → h.Ns mainGlobals mg → mg d.name = some (.ref fa) →
      ∃ fd : FuncData, (∀ (s : Shared) (u : Value), BindsTo s fd ⟨[u], []⟩ [(x, u)]) ∧
        ∀ base : Heap, (K w.params).In base → base.Ns mainGlobals mg → FnG l.prog w (K w.params) mg base k fa fd [x] (sp w))
    (hsp : ∀ (w : World) (H : Hp) (a : Addr) (ns : List Int), ns.length ≤ n → SqL (K w.params) H a (ns.map V.int) → sp w [.ref a] H (fun v _ => v = .bl true) fun _ _ _ => False) :
    PySem.W.WalkO q loose XP YP l.row.toRowW d [] (fun f vs => PySem.call f vs) := by
  refine Att.attach_call hn hdf fun w s₀ s₁ mg mb fa o pm cd doc a vs ns G Y _ _ _ hmg hobj hints hlen hge => ?_
  have KX := hY w _ Y
  obtain ⟨fd, hb, hF⟩ := F w mg fa _ KX G.T.g hmg
  exact law_callG KX G.T.g G.T.b G.T.builtins G.T.nolimit hge hobj hints (Nat.le_trans hlen hn2) hr hF hb
    (fun H hS => hsp w H a ns hlen hS)
/-! ### repr of data -/
def rRepr (K : PySem.W.Frag) : List V → Hp → VK → Prop := fun xs H Q => ∃ (a : Addr) (d : PyData) (S : Str), xs = [.ref a] ∧ Dp K H (.ref a) d ∧ d.showable = true ∧ d.hasDict = false ∧ d.depth ≤ 30 ∧ d.shown.length ≤ sizeLine ∧ d.shown = S ∧ Q (.str S) H
theorem call_repr {X : Cx} (hg : X.A.guards = some []) (hu : X.A.units + 64 < cLine) : CallR X (.builtin "repr") (rRepr X.K) := by
  intro pins s σ H xs us Q I r h
  obtain ⟨a, d, S, rfl, hd, hs, hnd, hdep, hsz, hS, q⟩ := h
  subst hS
  obtain ⟨u, rfl, rx⟩ := vals1 r
  cases (show u = Value.ref a from rx)
  obtain ⟨as, rd⟩ := Dp.reads I d _ _ hd rfl
  refine repr_of_reads' rd hs (fun z => by rw [hnd] at z; cases z) hg (by omega) (fun _ _ e => e) (fun h' u tk hk => ?_) hsz
  exact ⟨.str d.shown, H, I.kept hk, ⟨_, rfl⟩, q⟩
/-! ### data that can be shown -/
structure RO (k w : Nat) (d : PyData) : Prop where
  sh : d.showable = true
  nd : d.hasDict = false
  dp : d.depth ≤ k
  lv : d.leavesShort 13 = true
  wt : d.weight ≤ w
theorem RO.none {w : Nat} : RO 0 w .none := ⟨rfl, rfl, Nat.le_refl _, rfl, Nat.zero_le _⟩
theorem RO.bool {w : Nat} (b : Bool) : RO 0 w (.bool b) := ⟨rfl, rfl, Nat.le_refl _, rfl, Nat.zero_le _⟩
theorem RO.int {i : Int} (h1 : -999999999999 ≤ i) (h2 : i ≤ 999999999999) : RO 0 41 (.int i) := by
  have hl : i.natAbs.log2 < 41 := by
    rcases Nat.eq_zero_or_pos i.natAbs with e | e
    · rw [e]
      decide
    · exact (Nat.log2_lt (by omega)).mpr (Nat.lt_of_le_of_lt (show i.natAbs ≤ 999999999999 by omega) (by decide))
  refine ⟨decide_eq_true (by omega), rfl, Nat.le_refl _, decide_eq_true (PyData.shown_int_le2 h1 h2), ?_⟩
  show (if i == 0 then 0 else i.natAbs.log2 + 1) ≤ 41
  split <;> omega
theorem RO.more {k w k' w' : Nat} {d : PyData} (h : RO k w d) (h1 : k ≤ k') (h2 : w ≤ w') : RO k' w' d := ⟨h.sh, h.nd, Nat.le_trans h.dp h1, h.lv, Nat.le_trans h.wt h2⟩
theorem ro_all {k w : Nat} : ∀ {ds : List PyData}, (∀ e ∈ ds, RO k w e) → PyData.showableAll ds = true ∧ PyData.hasDictAll ds = false ∧ PyData.depthAll ds ≤ k ∧ PyData.leavesShortAll 13 ds = true ∧ PyData.weightAll ds ≤ ds.length * (w + 1)
  | [], _ => ⟨rfl, rfl, Nat.zero_le _, rfl, Nat.zero_le _⟩
  | d :: t, h => by
    obtain ⟨a, b, c, e, f⟩ := ro_all (ds := t) fun x hx => h x (List.mem_cons_of_mem _ hx)
    have h1 := h d (List.mem_cons_self ..)
    refine ⟨?_, ?_, ?_, ?_, ?_⟩
    · show (d.showable && PyData.showableAll t) = true
      rw [h1.sh, a]
      rfl
    · show (d.hasDict || PyData.hasDictAll t) = false
      rw [h1.nd, b]
      rfl
    · show max d.depth (PyData.depthAll t) ≤ k
      exact Nat.max_le.mpr ⟨h1.dp, c⟩
    · show (d.leavesShort 13 && PyData.leavesShortAll 13 t) = true
      rw [h1.lv, e]
      rfl
    · show d.weight + 1 + PyData.weightAll t ≤ (t.length + 1) * (w + 1)
      have := h1.wt
      rw [Nat.add_mul, Nat.one_mul]
      omega
theorem RO.tup {k w n : Nat} {ds : List PyData} (h : ∀ e ∈ ds, RO k w e) (hn : ds.length * (w + 1) ≤ n) : RO (k + 1) n (.tuple ds) := by
  obtain ⟨a, b, c, e, f⟩ := ro_all h
  exact ⟨a, b, Nat.succ_le_succ c, e, Nat.le_trans f hn⟩
theorem RO.lst {k w n : Nat} {ds : List PyData} (h : ∀ e ∈ ds, RO k w e) (hn : ds.length * (w + 1) ≤ n) : RO (k + 1) n (.list ds) := by
  obtain ⟨a, b, c, e, f⟩ := ro_all h
  exact ⟨a, b, Nat.succ_le_succ c, e, Nat.le_trans f hn⟩
theorem RO.fits {k w : Nat} {d : PyData} (h : RO k w d) (hw : w ≤ 1000000) : d.shown.length ≤ sizeLine := by
  have := PyData.shown_le 13 (by decide) d h.lv
  have := h.wt
  have e : sizeLine = 16777216 := by decide
  omega
/-! ### windows and places as data -/
theorem dpAll_of {K : PySem.W.Frag} {H : Hp} {β : Type} {R : V → β → Prop} {f : β → PyData} (h : ∀ v m, R v m → Dp K H v (f m)) : ∀ {vs : List V} {ms : List β}, Paired R vs ms → DpAll K H vs (ms.map f)
  | _, _, .nil => .nil
  | _, _, .cons r t => .cons (h _ _ r) (dpAll_of h t)
def rwD (r : RW) : PyData := .tuple [.int r.1, .int r.2]
def plD (p : RW × RW) : PyData := .tuple [rwD p.1, rwD p.2]
def mvD (m : MV) : PyData := .tuple [.int m.1, .int m.2.1, .int m.2.2]
def winD (x y : Int) (ms : List MV) : PyData := .tuple [.int x, .int y, .tuple (ms.map mvD)]
theorem RowAt.dp {K : PySem.W.Frag} {H : Hp} {v : V} {r : RW} : RowAt K H v r → Dp K H v (rwD r) := by
  rintro ⟨p, rfl, h⟩
  exact .tup h (.cons (.int _) (.cons (.int _) .nil))
theorem PlAt.dp {K : PySem.W.Frag} {H : Hp} {v : V} {p : RW × RW} : PlAt K H v p → Dp K H v (plD p) := by
  rintro ⟨a, v1, v2, rfl, h, r1, r2⟩
  exact .tup h (.cons r1.dp (.cons r2.dp .nil))
theorem MoveAt.dp {K : PySem.W.Frag} {H : Hp} {v : V} {m : MV} : MoveAt K H v m → Dp K H v (mvD m) := by
  rintro ⟨p, rfl, h⟩
  exact .tup h (.cons (.int _) (.cons (.int _) (.cons (.int _) .nil)))
theorem WinAt.dp {K : PySem.W.Frag} {H : Hp} {v : V} {x y : Int} {ms : List MV} : WinAt K H v x y ms → Dp K H v (winD x y ms) := by
  rintro ⟨p, mv, rfl, h, pm, vs, rfl, hq, pd⟩
  exact .tup h (.cons (.int _) (.cons (.int _) (.cons (.tup hq (dpAll_of (f := mvD) (fun _ _ h => MoveAt.dp h) pd)) .nil)))
theorem mem3 {α : Type} {a b c e : α} (h : e ∈ [a, b, c]) : e = a ∨ e = b ∨ e = c := by
  simpa using h
theorem mvD_ro {m : MV} (h : VMove m) : RO 1 126 (mvD m) := by
  obtain ⟨h1, h2, h3, h4⟩ := h
  refine RO.tup (k := 0) (w := 41) (fun e he => ?_) (by show 3 * 42 ≤ 126; decide)
  rcases mem3 he with rfl | rfl | rfl <;> exact RO.int (by omega) (by omega)
theorem winD_ro {x y : Int} {ms : List MV} (h : VWin x y ms) : RO 3 3051 (winD x y ms) := by
  obtain ⟨h1, h2, h3, h4⟩ := h
  refine RO.tup (k := 2) (w := 1016) (fun e he => ?_) (by show 3 * 1017 ≤ 3051; decide)
  rcases mem3 he with rfl | rfl | rfl
  · exact (RO.int (by omega) (by omega)).more (by omega) (by omega)
  · exact (RO.int (by omega) (by omega)).more (by omega) (by omega)
  · refine RO.tup (k := 1) (w := 126) (fun e he => ?_) ?_
    · obtain ⟨m, hm, rfl⟩ := List.mem_map.mp he
      exact mvD_ro (h4 m hm)
    · rw [List.length_map]
      omega
theorem ro_args {k w : Nat} {d : PyData} (h : RO k w d) (hk : k ≤ 30) (hw : w ≤ 1000000) : d.showable = true ∧ d.hasDict = false ∧ d.depth ≤ 30 ∧ d.shown.length ≤ sizeLine := ⟨h.sh, h.nd, Nat.le_trans h.dp hk, h.fits hw⟩
theorem fl_int (i : Int) : flD (.int i) := .inr (.inr ⟨i, rfl⟩)
theorem dOk_rw (r : RW) : dOk 1 (rwD r) := by
  refine .inr ⟨_, .inr rfl, (by show 2 ≤ 1000; decide), fun e he => ?_⟩
  rcases List.mem_cons.mp he with rfl | he
  · exact fl_int _
  · rw [List.mem_singleton.mp he]
    exact fl_int _
theorem dOk_pl (p : RW × RW) : dOk 2 (plD p) := by
  refine .inr ⟨_, .inr rfl, (by show 2 ≤ 1000; decide), fun e he => ?_⟩
  rcases List.mem_cons.mp he with rfl | he
  · exact dOk_rw _
  · rw [List.mem_singleton.mp he]
    exact dOk_rw _
/-! ### layers, sheets, pictures as data -/
def bkD : Option Int → PyData
  | none => .none
  | some i => .int i
def lyD (l : LY) : PyData := .tuple [.tuple (l.1.map rwD), bkD l.2]
def shD (ls : List LY) (x y : Int) (ms : List MV) : PyData := .tuple [.tuple (ls.map lyD), winD x y ms]
def picD (c : PIC) : PyData := .tuple [.tuple (c.1.map .int), plD c.2]
theorem bkD_dp {K : PySem.W.Frag} {H : Hp} (o : Option Int) : Dp K H (bkV o) (bkD o) := by
  cases o with
  | none => exact .non
  | some i => exact .int i
theorem LyAt.dp {K : PySem.W.Frag} {H : Hp} {v : V} {l : LY} : LyAt K H v l → Dp K H v (lyD l) := by
  rintro ⟨p, rv, rfl, h, pr, vs, rfl, hq, pd⟩
  exact .tup h (.cons (.tup hq (dpAll_of (f := rwD) (fun _ _ h => RowAt.dp h) pd)) (.cons (bkD_dp _) .nil))
theorem ShAt.dp {K : PySem.W.Frag} {H : Hp} {v : V} {ls : List LY} {x y : Int} {ms : List MV} : ShAt K H v ls x y ms → Dp K H v (shD ls x y ms) := by
  rintro ⟨p, lv, wv, rfl, h, ⟨pl, vs, rfl, hq, pd⟩, hw⟩
  exact .tup h (.cons (.tup hq (dpAll_of (f := lyD) (fun _ _ h => LyAt.dp h) pd)) (.cons hw.dp .nil))
theorem ints_dp {K : PySem.W.Frag} {H : Hp} : ∀ ns : List Int, DpAll K H (ns.map V.int) (ns.map .int)
  | [] => .nil
  | n :: r => .cons (.int n) (ints_dp r)
theorem PicAt.dp {K : PySem.W.Frag} {H : Hp} {v : V} {c : PIC} : PicAt K H v c → Dp K H v (picD c) := by
  rintro ⟨a, b, v2, rfl, h, h1, h2⟩
  exact .tup h (.cons (.tup h1 (ints_dp _)) (.cons h2.dp .nil))
theorem mem2 {α : Type} {a b e : α} (h : e ∈ [a, b]) : e = a ∨ e = b := by
  simpa using h
theorem rwD_ro {r : RW} (h : VRow r) : RO 1 84 (rwD r) := by
  obtain ⟨h1, h2, h3, h4⟩ := h
  refine RO.tup (k := 0) (w := 41) (fun e he => ?_) (by show 2 * 42 ≤ 84; decide)
  rcases mem2 he with rfl | rfl <;> exact RO.int (by omega) (by omega)
theorem lyD_ro {l : LY} (h : VLy l) : RO 3 1362 (lyD l) := by
  obtain ⟨⟨h8, hr⟩, hb⟩ := h
  refine RO.tup (k := 2) (w := 680) (fun e he => ?_) (by show 2 * 681 ≤ 1362; decide)
  rcases mem2 he with rfl | rfl
  · refine RO.tup (k := 1) (w := 84) (fun e he => ?_) ?_
    · obtain ⟨r, hm, rfl⟩ := List.mem_map.mp he
      exact rwD_ro (hr r hm)
    · rw [List.length_map]
      omega
  · cases e : l.2 with
    | none => exact RO.none.more (by omega) (Nat.le_refl _)
    | some i =>
      have := hb i e
      exact (RO.int (by omega) (by omega)).more (by omega) (by omega)
theorem shD_ro {ls : List LY} {x y : Int} {ms : List MV} (h : VLays ls) (hw : VWin x y ms) : RO 5 10906 (shD ls x y ms) := by
  obtain ⟨h1, h4, hl⟩ := h
  refine RO.tup (k := 4) (w := 5452) (fun e he => ?_) (by show 2 * 5453 ≤ 10906; decide)
  rcases mem2 he with rfl | rfl
  · refine RO.tup (k := 3) (w := 1362) (fun e he => ?_) ?_
    · obtain ⟨l, hm, rfl⟩ := List.mem_map.mp he
      exact lyD_ro (hl l hm)
    · rw [List.length_map]
      omega
  · exact (winD_ro hw).more (by omega) (by omega)
theorem dOk_up : ∀ {n : Nat} {d : PyData}, dOk n d → dOk (n + 1) d
  | 0, _, h => .inl h
  | n + 1, _, .inl h => .inl h
  | n + 1, _, .inr ⟨ds, h1, h2, h3⟩ => .inr ⟨ds, h1, h2, fun e he => dOk_up (h3 e he)⟩
theorem dOk_pic {c : PIC} (h : c.1.length ≤ 1000) : dOk 3 (picD c) := by
  refine .inr ⟨_, .inr rfl, (by show 2 ≤ 1000; decide), fun e he => ?_⟩
  rcases mem2 he with rfl | rfl
  · refine dOk_up (n := 1) (.inr ⟨_, .inr rfl, by rw [List.length_map]; exact h, fun e he => ?_⟩)
    obtain ⟨i, _, rfl⟩ := List.mem_map.mp he
    exact fl_int i
  · exact dOk_pl _
theorem dOk_pics {cs : List PIC} (h : cs.length ≤ 1000) (hc : ∀ c ∈ cs, c.1.length ≤ 1000) : dOk 4 (.list (cs.map picD)) := by
  refine .inr ⟨_, .inl rfl, by rw [List.length_map]; exact h, fun e he => ?_⟩
  obtain ⟨c, hm, rfl⟩ := List.mem_map.mp he
  exact dOk_pic (hc c hm)
theorem lcmap_list {K : PySem.W.Frag} {a : Addr} {xs : List V} {g : TG} {tt : TT} {te : TE} {vs : List Nat} {σ : L2.St} {H1 : Hp} {D : Addr} {Qd : Hp → Prop} (ys : List V) (hl : ys.length = xs.length) (hz : xs.length ≤ 1000) (hS : SqL K H1 a xs) (hD : H1 D = none)
    (hs : ∀ (i : Nat) (x y : V) (H : Hp) (R : V → Hp → Prop) (Z : Hp → Prop), xs[i]? = some x → ys[i]? = some y → Same H1 H → (∀ H4, Same H H4 → R y H4) → g x (wipe σ vs) H fun σ2 H2 => wipe σ2 vs = wipe σ vs ∧ tt σ2 H2 fun b H3 => if b = true then te σ2 H3 R else Z H3)
    (hd : ∀ H, Same H1 H → H D = some (.lst ys) → Qd H) :
    ∃ W : Nat → Nat → Hp → Prop, (∃ m, W 0 m (upd H1 D (.lst []))) ∧ ∀ i m H, W i m H →
      ((Itl K a).stop i H ∧ Qd H) ∨ ((Itl K a).go i H ∧ ∃ Nx : Hp → Prop, (∀ H', Nx H' → ∃ m', m' < m ∧ W (i + 1) m' H') ∧ ∀ x H', (Itl K a).yld i H x H' → g x (wipe σ vs) H' fun σ2 H2 => wipe σ2 vs = wipe σ vs ∧ tt σ2 H2 fun b H3 =>
        if b = true then te σ2 H3 fun y H4 => ∃ acc, H4 D = some (.lst acc) ∧ acc.length < sizeLine ∧ Nx (upd H4 D (.lst (acc ++ [y]))) else Nx H3) := by
  refine lc_list (K := K) (a := a) (xs := xs) (fun i H => Same H1 H ∧ H D = some (.lst (ys.take i))) ⟨same_upd hD, upd_same⟩ (fun i H _ p => p.1.seq hS) (fun i x H hx p => ?_) (fun H p => ?_)
  · have hi : i < xs.length := (List.getElem?_eq_some_iff.mp hx).1
    obtain ⟨y, hy⟩ : ∃ y, ys[i]? = some y := ⟨_, List.getElem?_eq_getElem (by omega)⟩
    refine hs i x y H _ _ hx hy p.1 (fun H4 s4 => ⟨ys.take i, s4 _ _ p.2, ?_, ?_, ?_⟩)
    · rw [List.length_take]
      exact Nat.lt_of_le_of_lt (Nat.min_le_left _ _) (small1000 (by omega))
    · intro b o e
      rw [upd_ne (ne_of_none e hD)]
      exact s4 _ _ (p.1 _ _ e)
    · rw [upd_same, List.take_add_one, hy]
      rfl
  · refine hd H p.1 ?_
    rw [p.2, List.take_of_length_le (by omega)]
/-! ### laying -/
def rnd (rs : List RW) : Option Int → Int
  | none => 0
  | some b => tot (rs.drop b.toNat)
def lays (rs : List RW) (bk : Option Int) (n : Nat) : List V := (List.range n).map fun i => V.int (shown rs bk (i : Nat))
theorem lays_at {rs : List RW} {bk : Option Int} {n i : Nat} (h : i < n) : (lays rs bk n)[i]? = some (.int (shown rs bk (i : Nat))) := by
  unfold lays
  rw [List.getElem?_map, List.getElem?_range h]
  rfl
theorem lays_len (rs : List RW) (bk : Option Int) (n : Nat) : (lays rs bk n).length = n := by
  unfold lays
  rw [List.length_map, List.length_range]
theorem lays_of {rs : List RW} {bk : Option Int} {n : Nat} {fs : List Int} (hl : n ≤ fs.length) (h : ∀ i, i < fs.length → fs[i]? = some (shown rs bk (i : Nat))) : (fs.map V.int).take n = lays rs bk n := by
  apply List.ext_getElem?
  intro i
  by_cases hi : i < n
  · rw [lays_at hi, List.getElem?_take_of_lt hi, List.getElem?_map, h i (by omega)]
    rfl
  · rw [List.getElem?_eq_none (by rw [List.length_take]; omega), List.getElem?_eq_none (by rw [lays_len]; omega)]
/-! ### laid out, row by row -/
/-- a walk over J: Body tells what is asked of a turn, Qd what is asked at the end -/
abbrev Goes (J : It) (Body : V → Hp → (Hp → Prop) → Prop) (Hs : Hp) (Qd : Hp → Prop) : Prop :=
  ∃ W : Nat → Nat → Hp → Prop, (∃ m, W 0 m Hs) ∧ ∀ i m H, W i m H →
    (J.stop i H ∧ Qd H) ∨ (J.go i H ∧ ∃ Nx : Hp → Prop, (∀ H', Nx H' → ∃ m', m' < m ∧ W (i + 1) m' H') ∧ ∀ x H', J.yld i H x H' → Body x H' Nx)
/-- n turns: Pv i stands when i of them are done -/
theorem goes_by {J : It} {n : Nat} {Body : V → Hp → (Hp → Prop) → Prop} {Hs : Hp} {Qd : Hp → Prop} (Pv : Nat → Hp → Prop) (h0 : Pv 0 Hs) (last : ∀ H, Pv n H → J.stop n H ∧ Qd H)
    (turn : ∀ i H, i < n → Pv i H → J.go i H ∧ ∀ x H', J.yld i H x H' → Body x H' (Pv (i + 1))) : Goes J Body Hs Qd := by
  refine ⟨fun done left H => done + left = n ∧ Pv done H, ⟨n, Nat.zero_add n, h0⟩, fun i left H here => ?_⟩
  cases left with
  | zero =>
    obtain ⟨rfl, p⟩ := here
    exact .inl (last H p)
  | succ less =>
    have now := turn i H (by have := here.1; omega) here.2
    exact .inr ⟨now.1, Pv (i + 1), fun H' p => ⟨less, Nat.lt_succ_self less, by have := here.1; omega, p⟩, now.2⟩
theorem wk_tup {K : PySem.W.Frag} {a : Addr} {xs : List V} {Body : V → Hp → (Hp → Prop) → Prop} {Hs : Hp} {Qd : Hp → Prop} (Pv : Nat → Hp → Prop) (h0 : Pv 0 Hs) (hl : ∀ i H, i ≤ xs.length → Pv i H → SqT K H a xs)
    (hs : ∀ i x H, xs[i]? = some x → Pv i H → Body x H (Pv (i + 1))) (hd : ∀ H, Pv xs.length H → Qd H) : Goes (Itt K a) Body Hs Qd :=
  goes_by (n := xs.length) Pv h0 (fun H p => ⟨⟨xs, hl _ H (Nat.le_refl _) p, Nat.le_refl _⟩, hd H p⟩) fun i H lt p =>
    have stays := hl i H (Nat.le_of_lt lt) p
    ⟨⟨xs, _, stays, List.getElem?_eq_getElem lt⟩, fun x _ y => y.1 ▸ hs i x H (y.2 xs stays) p⟩
theorem wk_list {K : PySem.W.Frag} {a : Addr} {xs : List V} {Body : V → Hp → (Hp → Prop) → Prop} {Hs : Hp} {Qd : Hp → Prop} (Pv : Nat → Hp → Prop) (h0 : Pv 0 Hs) (hl : ∀ i H, i ≤ xs.length → Pv i H → SqL K H a xs)
    (hs : ∀ i x H, xs[i]? = some x → Pv i H → Body x H (Pv (i + 1))) (hd : ∀ H, Pv xs.length H → Qd H) : Goes (Itl K a) Body Hs Qd :=
  goes_by (n := xs.length) Pv h0 (fun H p => ⟨⟨xs, hl _ H (Nat.le_refl _) p, Nat.le_refl _⟩, hd H p⟩) fun i H lt p =>
    have stays := hl i H (Nat.le_of_lt lt) p
    ⟨⟨xs, _, stays, List.getElem?_eq_getElem lt⟩, fun x _ y => y.1 ▸ hs i x H (y.2 xs stays) p⟩
theorem wk_range {lo : Int} {n : Nat} {Body : V → Hp → (Hp → Prop) → Prop} {Hs : Hp} {Qd : Hp → Prop} (Pv : Nat → Hp → Prop) (h0 : Pv 0 Hs)
    (hs : ∀ i H, i < n → Pv i H → Body (.int (lo + i)) H (Pv (i + 1))) (hd : ∀ H, Pv n H → Qd H) : Goes (Itr lo n) Body Hs Qd :=
  goes_by Pv h0 (fun H p => ⟨Nat.le_refl n, hd H p⟩) fun i H lt p => ⟨lt, fun _ _ y => y.1 ▸ y.2 ▸ hs i H lt p⟩
theorem yes_ok2 {σ : L2.St} {H : Hp} {X Z : Hp → Prop} (h : X H) : tYes σ H (fun b H3 => if b = true then X H3 else Z H3) := by
  show if true = true then X H else Z H
  rw [if_pos rfl]
  exact h
def dwg : List RW → List Int
  | [] => []
  | r :: t => List.replicate r.2.toNat r.1 ++ dwg t
theorem dwg_append (a b : List RW) : dwg (a ++ b) = dwg a ++ dwg b := by
  induction a with
  | nil => rfl
  | cons r t ih => rw [List.cons_append, dwg, dwg, ih, List.append_assoc]
theorem dwg_len : ∀ {rs : List RW}, (∀ r ∈ rs, VRow r) → ((dwg rs).length : Int) = tot rs
  | [], _ => rfl
  | r :: t, v => by
    have v1 := v r (List.mem_cons_self ..)
    have ih := dwg_len (rs := t) fun q hq => v q (List.mem_cons_of_mem _ hq)
    rw [dwg, List.length_append, List.length_replicate, tot_cons]
    obtain ⟨_, _, h3, _⟩ := v1
    omega
theorem dwg_at : ∀ {rs : List RW} {i : Nat}, (∀ r ∈ rs, VRow r) → (i : Int) < tot rs → (dwg rs)[i]? = some (walk rs i)
  | [], i, _, h => by
    rw [tot_nil] at h
    omega
  | r :: t, i, v, h => by
    have v1 := v r (List.mem_cons_self ..)
    have vt : ∀ q ∈ t, VRow q := fun q hq => v q (List.mem_cons_of_mem _ hq)
    obtain ⟨_, _, h3, _⟩ := v1
    rw [tot_cons] at h
    rw [dwg]
    unfold walk
    by_cases c : (i : Int) < r.2
    · rw [if_pos c, List.getElem?_append_left (by rw [List.length_replicate]; omega), List.getElem?_replicate, if_pos (by omega)]
    · rw [if_neg c, List.getElem?_append_right (by rw [List.length_replicate]; omega), List.length_replicate]
      have := dwg_at (rs := t) (i := i - r.2.toNat) vt (by omega)
      rw [this]
      congr 2
      omega
theorem walk_cons (r : RW) (t : List RW) (m : Int) : walk (r :: t) m = if m < r.2 then r.1 else walk t (m - r.2) := rfl
theorem walk_append : ∀ {a b : List RW} {m : Int}, (∀ r ∈ a, VRow r) → 0 ≤ m → walk (a ++ b) m = if m < tot a then walk a m else walk b (m - tot a)
  | [], b, m, _, h => by
    rw [tot_nil, if_neg (by omega), List.nil_append, show m - 0 = m by omega]
  | r :: t, b, m, v, h => by
    have v1 := v r (List.mem_cons_self ..)
    have vt : ∀ q ∈ t, VRow q := fun q hq => v q (List.mem_cons_of_mem _ hq)
    have t0 := (tot_nonneg vt).1
    obtain ⟨_, _, h3, _⟩ := v1
    rw [List.cons_append, tot_cons, walk_cons, walk_cons]
    by_cases c : m < r.2
    · rw [if_pos c, if_pos (by omega), if_pos c]
    · rw [if_neg c, walk_append vt (by omega), if_neg c]
      by_cases d : m < r.2 + tot t
      · rw [if_pos d, if_pos (by omega)]
      · rw [if_neg d, if_neg (by omega), show m - r.2 - tot t = m - (r.2 + tot t) by omega]
theorem rep_at {α : Type} {B : List α} (hB : 0 < B.length) : ∀ (t j : Nat), j < t * B.length → (List.replicate t B).flatten[j]? = B[j % B.length]?
  | 0, j, h => by omega
  | t + 1, j, h => by
    rw [List.replicate_succ, List.flatten_cons]
    by_cases c : j < B.length
    · rw [List.getElem?_append_left c, Nat.mod_eq_of_lt c]
    · rw [List.getElem?_append_right (by omega), rep_at hB t (j - B.length) (by rw [Nat.add_mul, Nat.one_mul] at h; omega), ← Nat.mod_eq_sub_mod (by omega)]
/-- what a layer shows: ahead once, around again and again -/
def ahL (rs : List RW) : Option Int → List Int
  | none => dwg rs
  | some b => dwg (rs.take b.toNat)
def arL (rs : List RW) : Option Int → List Int
  | none => [0]
  | some b => dwg (rs.drop b.toNat)
theorem VRows.takeV {rs : List RW} (v : VRows rs) (k : Nat) : VRows (rs.take k) := ⟨by rw [List.length_take]; have := v.1; omega, fun r hr => v.2 r (List.mem_of_mem_take hr)⟩
theorem VRows.dropV {rs : List RW} (v : VRows rs) (k : Nat) : VRows (rs.drop k) := ⟨by rw [List.length_drop]; have := v.1; omega, fun r hr => v.2 r (List.mem_of_mem_drop hr)⟩
theorem ahL_len {rs : List RW} {bk : Option Int} (v : VRows rs) : (ahL rs bk).length ≤ 192 := by
  cases bk with
  | none =>
    have h := dwg_len v.2
    have t := (tot_nonneg v.2).2
    have := v.1
    show (dwg rs).length ≤ 192
    omega
  | some b =>
    have h := dwg_len (v.takeV b.toNat).2
    have t := (tot_nonneg (v.takeV b.toNat).2).2
    have := (v.takeV b.toNat).1
    show (dwg (rs.take b.toNat)).length ≤ 192
    omega
theorem arL_len {rs : List RW} {bk : Option Int} (v : VRows rs) (vb : VBack rs bk) : 1 ≤ (arL rs bk).length ∧ (arL rs bk).length ≤ 192 := by
  cases bk with
  | none => exact ⟨Nat.le_refl _, by show 1 ≤ 192; omega⟩
  | some b =>
    have hb := vb b rfl
    have h := dwg_len (v.dropV b.toNat).2
    have t := tot_nonneg (v.dropV b.toNat).2
    have := v.1
    rw [List.length_drop] at t
    show 1 ≤ (dwg (rs.drop b.toNat)).length ∧ (dwg (rs.drop b.toNat)).length ≤ 192
    omega
theorem shown_lay {rs : List RW} {bk : Option Int} (v : VRows rs) (vb : VBack rs bk) (i : Nat) :
    some (shown rs bk i) = if i < (ahL rs bk).length then (ahL rs bk)[i]? else (arL rs bk)[(i - (ahL rs bk).length) % (arL rs bk).length]? := by
  cases bk with
  | none =>
    have h := dwg_len v.2
    show some (walk rs i) = if i < (dwg rs).length then (dwg rs)[i]? else ([0] : List Int)[(i - (dwg rs).length) % 1]?
    by_cases c : i < (dwg rs).length
    · rw [if_pos c, dwg_at v.2 (by omega)]
    · rw [if_neg c, walk_out rs i (by omega) v.2, Nat.mod_one]
      rfl
  | some b =>
    have hb := vb b rfl
    have h := dwg_len (v.takeV b.toNat).2
    have h2 := dwg_len (v.dropV b.toNat).2
    have t2 := (tot_nonneg (v.dropV b.toNat).2).1
    rw [List.length_drop] at t2
    have cpos : 0 < tot (rs.drop b.toNat) := by omega
    show some (walk rs (if (i : Int) < tot (rs.take b.toNat) then (i : Int) else tot (rs.take b.toNat) + ((i : Int) - tot (rs.take b.toNat)) % tot (rs.drop b.toNat))) = if i < (dwg (rs.take b.toNat)).length then (dwg (rs.take b.toNat))[i]? else (dwg (rs.drop b.toNat))[(i - (dwg (rs.take b.toNat)).length) % (dwg (rs.drop b.toNat)).length]?
    have wa := fun m h0 => walk_append (a := rs.take b.toNat) (b := rs.drop b.toNat) (m := m) (v.takeV b.toNat).2 h0
    rw [List.take_append_drop] at wa
    by_cases c : i < (dwg (rs.take b.toNat)).length
    · rw [if_pos c, if_pos (by omega), wa _ (by omega), if_pos (by omega), dwg_at (v.takeV b.toNat).2 (by omega)]
    · have m0 := Int.emod_nonneg ((i : Int) - tot (rs.take b.toNat)) (show tot (rs.drop b.toNat) ≠ 0 by omega)
      have m1 := Int.emod_lt_of_pos ((i : Int) - tot (rs.take b.toNat)) cpos
      have t1 := (tot_nonneg (v.takeV b.toNat).2).1
      have em : (((i - (dwg (rs.take b.toNat)).length) % (dwg (rs.drop b.toNat)).length : Nat) : Int) = ((i : Int) - tot (rs.take b.toNat)) % tot (rs.drop b.toNat) := by
        rw [Int.natCast_emod, h2, Int.natCast_sub (by omega), h]
      rw [if_neg c, if_neg (by omega), wa _ (by omega), if_neg (by omega), dwg_at (v.dropV b.toNat).2 (by omega), em]
      congr 2
      omega
def laysI (rs : List RW) (bk : Option Int) (n : Nat) : List Int := (List.range n).map fun i => shown rs bk (i : Nat)
theorem laysI_map (rs : List RW) (bk : Option Int) (n : Nat) : lays rs bk n = (laysI rs bk n).map V.int := by
  unfold lays laysI
  rw [List.map_map]
  rfl
theorem first_lay {rs : List RW} {bk : Option Int} (v : VRows rs) (vb : VBack rs bk) {n t : Nat} (ht : n ≤ (ahL rs bk).length + t * (arL rs bk).length) :
    ((ahL rs bk) ++ (List.replicate t (arL rs bk)).flatten).take n = laysI rs bk n := by
  have hp := (arL_len v vb).1
  apply List.ext_getElem?
  intro i
  unfold laysI
  by_cases hi : i < n
  · rw [List.getElem?_take_of_lt hi, List.getElem?_map, List.getElem?_range hi]
    show _ = some (shown rs bk (i : Nat))
    rw [shown_lay v vb]
    by_cases c : i < (ahL rs bk).length
    · rw [if_pos c, List.getElem?_append_left c]
    · rw [if_neg c, List.getElem?_append_right (by omega), rep_at (by omega) t _ (by omega)]
  · rw [List.getElem?_eq_none (by rw [List.length_take]; omega), List.getElem?_eq_none (by rw [List.length_map, List.length_range]; omega)]
/-! ### data that is compared -/
mutual
def nb : PyData → Bool
  | .none => true
  | .int _ => true
  | .str x => PyData.strOk x
  | .bool _ => false
  | .list xs => nbs xs
  | .tuple xs => nbs xs
  | .dict _ => false
def nbs : List PyData → Bool
  | [] => true
  | x :: xs => nb x && nbs xs
end
theorem nbs_all : ∀ {xs : List PyData}, (∀ x ∈ xs, nb x = true) → nbs xs = true
  | [], _ => rfl
  | x :: xs, h => by
    show (nb x && nbs xs) = true
    rw [h x (List.mem_cons_self ..), nbs_all fun y hy => h y (List.mem_cons_of_mem _ hy)]
    rfl
mutual
theorem nb_can : ∀ d : PyData, nb d = true → d.canLay0 = true
  | .none, _ => rfl
  | .int _, _ => rfl
  | .str x, h => h
  | .bool _, h => nomatch h
  | .list xs, h => nbs_can xs h
  | .tuple xs, h => nbs_can xs h
  | .dict _, h => nomatch h
theorem nbs_can : ∀ xs : List PyData, nbs xs = true → PyData.canLayAll0 xs = true
  | [], _ => rfl
  | x :: xs, h => by
    have h' : (nb x && nbs xs) = true := h
    rw [Bool.and_eq_true] at h'
    show (x.canLay0 && PyData.canLayAll0 xs) = true
    rw [nb_can x h'.1, nbs_can xs h'.2]
    rfl
end
mutual
theorem nb_eq : ∀ d e : PyData, nb d = true → nb e = true → (PyData.eqv d e = true → d = e)
  | .none, e, _, h => by cases e <;> first | (intro _; rfl) | (intro z; cases z) | (cases h)
  | .int i, e, _, h => by
    cases e <;> first | (intro z; cases z) | (cases h) | skip
    intro z
    rw [PyData.eqv] at z
    rw [eq_of_beq z]
  | .str x, e, _, h => by
    cases e <;> first | (intro z; cases z) | (cases h) | skip
    intro z
    rw [PyData.eqv] at z
    rw [eq_of_beq z]
  | .bool _, _, h, _ => nomatch h
  | .list xs, e, h0, h => by
    cases e <;> first | (intro z; cases z) | (cases h) | skip
    intro z
    rw [PyData.eqv] at z
    rw [nbs_eq xs _ h0 h z]
  | .tuple xs, e, h0, h => by
    cases e <;> first | (intro z; cases z) | (cases h) | skip
    intro z
    rw [PyData.eqv] at z
    rw [nbs_eq xs _ h0 h z]
  | .dict _, _, h, _ => nomatch h
theorem nbs_eq : ∀ xs ys : List PyData, nbs xs = true → nbs ys = true → (PyData.eqvAll xs ys = true → xs = ys)
  | [], [], _, _ => fun _ => rfl
  | [], _ :: _, _, _ => fun z => nomatch z
  | _ :: _, [], _, _ => fun z => nomatch z
  | x :: xs, y :: ys, h0, h => by
    intro z
    have h0' : (nb x && nbs xs) = true := h0
    have h' : (nb y && nbs ys) = true := h
    rw [Bool.and_eq_true] at h0' h'
    rw [PyData.eqvAll, Bool.and_eq_true] at z
    rw [nb_eq x y h0'.1 h'.1 z.1, nbs_eq xs ys h0'.2 h'.2 z.2]
end
theorem nb_eqv {d e : PyData} (h0 : nb d = true) (h : nb e = true) : PyData.eqv d e = true ↔ d = e :=
  ⟨nb_eq d e h0 h, fun z => by rw [z]; exact SeqAt.eqv_refl e (nb_can e h)⟩
/-- may be compared: depth at most k -/
structure Sd (k : Nat) (d : PyData) : Prop where
  nb : nb d = true
  dp : d.depth ≤ k
theorem Sd.int {k : Nat} (i : Int) : Sd k (.int i) := ⟨rfl, Nat.zero_le _⟩
theorem Sd.none {k : Nat} : Sd k .none := ⟨rfl, Nat.zero_le _⟩
theorem Sd.more {k k' : Nat} {d : PyData} (h : Sd k d) (h1 : k ≤ k') : Sd k' d := ⟨h.nb, Nat.le_trans h.dp h1⟩
theorem sd_all {k : Nat} : ∀ {ds : List PyData}, (∀ e ∈ ds, Sd k e) → PyData.depthAll ds ≤ k
  | [], _ => Nat.zero_le _
  | d :: t, h => Nat.max_le.mpr ⟨(h d (List.mem_cons_self ..)).dp, sd_all fun x hx => h x (List.mem_cons_of_mem _ hx)⟩
theorem Sd.tup {k : Nat} {ds : List PyData} (h : ∀ e ∈ ds, Sd k e) : Sd (k + 1) (.tuple ds) := ⟨nbs_all fun x hx => (h x hx).nb, Nat.succ_le_succ (sd_all h)⟩
theorem Sd.lst {k : Nat} {ds : List PyData} (h : ∀ e ∈ ds, Sd k e) : Sd (k + 1) (.list ds) := ⟨nbs_all fun x hx => (h x hx).nb, Nat.succ_le_succ (sd_all h)⟩
theorem Sd.sh {k : Nat} {d : PyData} (h : Sd k d) (hk : k ≤ 64) : SeqAt.shaped d = true := by
  show (d.canLay0 && decide (d.depth ≤ 64)) = true
  rw [nb_can d h.nb, decide_eq_true (Nat.le_trans h.dp hk)]
  rfl
theorem Sd.ints {ns : List Int} : Sd 1 (.list (ns.map .int)) := Sd.lst fun e he => by
  obtain ⟨i, _, rfl⟩ := List.mem_map.mp he
  exact Sd.int i
theorem Sd.intsT {ns : List Int} : Sd 1 (.tuple (ns.map .int)) := Sd.tup fun e he => by
  obtain ⟨i, _, rfl⟩ := List.mem_map.mp he
  exact Sd.int i
theorem ints_inj {ns ms : List Int} : ns.map PyData.int = ms.map PyData.int ↔ ns = ms :=
  ⟨fun h => List.map_inj_right (fun _ _ e => PyData.int.inj e) |>.mp h, fun h => by rw [h]⟩
theorem eqv_ints (ns ms : List Int) : PyData.eqv (.list (ns.map .int)) (.list (ms.map .int)) = decide (ns = ms) := by
  have h := nb_eqv (Sd.ints (ns := ns)).nb (Sd.ints (ns := ms)).nb
  by_cases e : ns = ms
  · rw [decide_eq_true e]
    exact h.mpr (by rw [e])
  · rw [decide_eq_false e]
    exact Bool.eq_false_iff.mpr fun z => e (ints_inj.mp (PyData.list.inj (h.mp z)))
/-- x != y of data: the readings -/
theorem ne_data {K : PySem.W.Frag} {H : Hp} {x y : V} {d e : PyData} {k : Nat} {Q : VK} (hx : Dp K H x d) (hy : Dp K H y e) (sd : Sd k d) (se : Sd k e) (hk : k ≤ 64) (q : ∀ b : Bool, (b = true ↔ d = e) → Q (.bl (!b)) H) : rNeD K x y H Q :=
  ⟨d, e, hx, hy, sd.sh hk, se.sh hk, q _ (nb_eqv sd.nb se.nb)⟩
theorem ne_same {K : PySem.W.Frag} {H : Hp} {x y : V} {d : PyData} {k : Nat} {Q : VK} (hx : Dp K H x d) (hy : Dp K H y d) (sd : Sd k d) (hk : k ≤ 64) (q : Q (.bl false) H) : rNeD K x y H Q :=
  ⟨d, d, hx, hy, sd.sh hk, sd.sh hk, by rw [(nb_eqv sd.nb sd.nb).mpr rfl]; exact q⟩
theorem eq_data {K : PySem.W.Frag} {H : Hp} {x y : V} {d e : PyData} {k : Nat} {Q : VK} (hx : Dp K H x d) (hy : Dp K H y e) (sd : Sd k d) (se : Sd k e) (hk : k ≤ 64) (q : ∀ b : Bool, (b = true ↔ d = e) → Q (.bl b) H) : rEqD K x y H Q :=
  ⟨d, e, hx, hy, sd.sh hk, se.sh hk, q _ (nb_eqv sd.nb se.nb)⟩
theorem ne_ints {K : PySem.W.Frag} {H : Hp} {x y : Addr} {ns ms : List Int} {Q : VK} (hx : SqL K H x (ns.map V.int)) (hy : SqL K H y (ms.map V.int)) (q : Q (.bl (!decide (ns = ms))) H) : rNeD K (.ref x) (.ref y) H Q :=
  ⟨_, _, .lst hx (ints_dp _), .lst hy (ints_dp _), Sd.ints.sh (by decide), Sd.ints.sh (by decide), by rw [eqv_ints]; exact q⟩
theorem ints_dpl {K : PySem.W.Frag} {H : Hp} {p : Addr} {ns : List Int} (h : SqL K H p (ns.map V.int)) : Dp K H (.ref p) (.list (ns.map .int)) := .lst h (ints_dp _)
theorem while_R {c : TT} {tb : TS} {D : Ends} {σ : L2.St} {H : Hp} (Pv : L2.St → Hp → Prop) (μ : L2.St → Hp → Nat) (h0 : Pv σ H)
    (hs : ∀ σ H, Pv σ H → ∀ R : Bool → Hp → Prop, (∀ H1, tb { D with nx := fun σ' H' => Pv σ' H' ∧ μ σ' H' < μ σ H, ct := fun σ' H' => Pv σ' H' ∧ μ σ' H' < μ σ H, bk := D.nx } σ H1 → R true H1) → (∀ H1, D.nx σ H1 → R false H1) → c σ H R) : tWhile c tb D σ H := by
  refine ⟨fun m σ H => m = μ σ H ∧ Pv σ H, ⟨_, rfl, h0⟩, ?_⟩
  rintro m σ H ⟨rfl, p⟩
  refine hs σ H p _ (fun H1 h => ?_) (fun H1 h => ?_)
  · show if true = true then _ else _
    rw [if_pos rfl]
    exact ⟨_, fun σ' H' ⟨p', l⟩ => ⟨_, l, rfl, p'⟩, h⟩
  · show if false = true then _ else _
    rw [if_neg (by decide)]
    exact h
/-! ### what comes again and again -/
section
variable {f : Nat → Int}
theorem per_mul {A m : Nat} (h : ∀ t, A ≤ t → f (t + m) = f t) : ∀ (k t : Nat), A ≤ t → f (t + m * k) = f t
  | 0, t, _ => by rw [Nat.mul_zero, Nat.add_zero]
  | k + 1, t, ht => by rw [Nat.mul_succ, ← Nat.add_assoc, h _ (by omega), per_mul h k t ht]
theorem per_mod {A m n : Nat} (h : ∀ t, A ≤ t → f (t + m) = f t) (h' : ∀ t, A ≤ t → f (t + n) = f t) : ∀ t, A ≤ t → f (t + n % m) = f t := fun t ht => by
  rw [← per_mul h (n / m) _ (show A ≤ t + n % m by omega), Nat.add_assoc, Nat.mod_add_div, h' t ht]
theorem per_ev {A c m B : Nat} (hc : 1 ≤ c) (hp : ∀ t, A ≤ t → f (t + c) = f t) (h : ∀ t, B ≤ t → f (t + m) = f t) : ∀ t, A ≤ t → f (t + m) = f t := fun t ht => by
  have hb : B ≤ c * B := Nat.le_mul_of_pos_left B hc
  rw [← per_mul hp B t ht, ← h (t + c * B) (by omega), ← per_mul hp B (t + m) (by omega)]
  congr 1
  omega
/-- the least round -/
structure Lst (f : Nat → Int) (a m : Nat) : Prop where
  m1 : 1 ≤ m
  per : ∀ t, a ≤ t → f (t + m) = f t
  dvd : ∀ n B, (∀ t, B ≤ t → f (t + n) = f t) → m ∣ n
  fst : ∀ b, b + 1 = a → f (b + m) ≠ f b
theorem ex_least {A c : Nat} (hc : 1 ≤ c) (hp : ∀ t, A ≤ t → f (t + c) = f t) : ∃ m, 1 ≤ m ∧ m ≤ c ∧ (∀ t, A ≤ t → f (t + m) = f t) ∧ ∀ k, 1 ≤ k → (∀ t, A ≤ t → f (t + k) = f t) → m ≤ k := by
  induction c using Nat.strongRecOn with
  | ind c ih =>
    by_cases h : ∃ k, 1 ≤ k ∧ k < c ∧ ∀ t, A ≤ t → f (t + k) = f t
    · obtain ⟨k, k1, kc, kp⟩ := h
      obtain ⟨m, m1, mk, r⟩ := ih k kc k1 kp
      exact ⟨m, m1, by omega, r⟩
    · refine ⟨c, hc, Nat.le_refl _, hp, fun k k1 kp => ?_⟩
      exact Nat.le_of_not_lt fun z => h ⟨k, k1, z, kp⟩
/-- the least many, then the least ahead -/
theorem lst_of {A c m a : Nat} (hc : 1 ≤ c) (hp : ∀ t, A ≤ t → f (t + c) = f t) (m1 : 1 ≤ m) (hm : ∀ t, A ≤ t → f (t + m) = f t) (least : ∀ k, 1 ≤ k → k < m → c % k = 0 → ¬ ∀ t, A ≤ t → f (t + k) = f t)
    (ha : a ≤ A) (hb : ∀ t, a ≤ t → t < A → f (t + m) = f t) (hf : ∀ b, b + 1 = a → f (b + m) ≠ f b) : Lst f a m := by
  obtain ⟨n, n1, nc, np, nl⟩ := ex_least hc hp
  have div : ∀ k, (∀ t, A ≤ t → f (t + k) = f t) → n ∣ k := fun k kp => by
    apply Nat.dvd_of_mod_eq_zero
    rcases Nat.eq_zero_or_pos (k % n) with z | z
    · exact z
    · have := nl (k % n) z (per_mod np kp)
      have := Nat.mod_lt k (show 0 < n by omega)
      omega
  have e : m = n := by
    have h1 := Nat.le_of_dvd (by omega) (div m hm)
    rcases Nat.lt_or_ge n m with z | z
    · exact absurd np (least n n1 z (Nat.mod_eq_zero_of_dvd (div c hp)))
    · omega
  subst e
  refine ⟨m1, fun t ht => ?_, fun k B h => div k (per_ev hc hp h), hf⟩
  rcases Nat.lt_or_ge t A with z | z
  · exact hb t ht z
  · exact hm t z
theorem Lst.uniq {a m a' m' : Nat} (h : Lst f a m) (h' : Lst f a' m') : a = a' ∧ m = m' := by
  have e : m = m' := Nat.dvd_antisymm (h.dvd m' a' h'.per) (h'.dvd m a h.per)
  subst e
  refine ⟨?_, rfl⟩
  rcases Nat.lt_trichotomy a a' with z | z | z
  · exact absurd (h.per (a' - 1) (by omega)) (h'.fst (a' - 1) (by omega))
  · exact z
  · exact absurd (h'.per (a - 1) (by omega)) (h.fst (a - 1) (by omega))
/-- rounds by the least one -/
theorem Lst.iff {a m : Nat} (h : Lst f a m) (b n : Nat) (n1 : 1 ≤ n) : (∀ t, b ≤ t → f (t + n) = f t) ↔ a ≤ b ∧ m ∣ n := by
  constructor
  · intro hp
    have d := h.dvd n b hp
    refine ⟨?_, d⟩
    rcases Nat.lt_or_ge b a with z | z
    · obtain ⟨k, rfl⟩ := d
      have k1 : 1 ≤ k := by
        rcases Nat.eq_zero_or_pos k with z | z
        · rw [z] at n1
          omega
        · exact z
      exfalso
      refine h.fst (a - 1) (by omega) ?_
      have e := hp (a - 1) (by omega)
      have e2 := per_mul h.per (k - 1) (a - 1 + m) (by have := h.m1; omega)
      rw [show a - 1 + m + m * (k - 1) = a - 1 + m * k by
        obtain ⟨j, rfl⟩ : ∃ j, k = j + 1 := ⟨k - 1, by omega⟩
        rw [Nat.add_sub_cancel, Nat.mul_succ]
        omega, e] at e2
      exact e2.symm
    · exact z
  · rintro ⟨z, k, rfl⟩ t ht
    exact per_mul h.per k t (by omega)
def seg (f : Nat → Int) (A c : Nat) : List Int := (List.range c).map fun j => f (A + j)
theorem seg_len (A c : Nat) : (seg f A c).length = c := by
  unfold seg
  rw [List.length_map, List.length_range]
theorem seg_at {A c i : Nat} (h : i < c) : (seg f A c)[i]? = some (f (A + i)) := by
  unfold seg
  rw [List.getElem?_map, List.getElem?_range h]
  rfl
theorem rot_at {A c m j : Nat} (hp : ∀ t, A ≤ t → f (t + c) = f t) (hm : m ≤ c) (hj : j < c) : ((seg f A c).drop m ++ (seg f A c).take m)[j]? = some (f (A + j + m)) := by
  by_cases h : j < c - m
  · rw [List.getElem?_append_left (by rw [List.length_drop, seg_len]; exact h), List.getElem?_drop, seg_at (by omega)]
    congr 2
    omega
  · rw [List.getElem?_append_right (by rw [List.length_drop, seg_len]; omega), List.length_drop, seg_len, List.getElem?_take_of_lt (by omega), seg_at (by omega), ← hp _ (by omega)]
    congr 2
    omega
theorem rot_iff {A c m : Nat} (hc : 1 ≤ c) (hp : ∀ t, A ≤ t → f (t + c) = f t) (hm : m ≤ c) : (seg f A c).drop m ++ (seg f A c).take m = seg f A c ↔ ∀ t, A ≤ t → f (t + m) = f t := by
  constructor
  · intro h t ht
    have l := Nat.mod_lt (t - A) (show 0 < c by omega)
    have e := rot_at hp hm l
    rw [h, seg_at l] at e
    have e1 := Option.some.inj e
    have q := Nat.mod_add_div (t - A) c
    have e2 := per_mul hp ((t - A) / c) (A + (t - A) % c) (by omega)
    have e3 := per_mul hp ((t - A) / c) (A + (t - A) % c + m) (by omega)
    rw [show A + (t - A) % c + c * ((t - A) / c) = t by omega] at e2
    rw [show A + (t - A) % c + m + c * ((t - A) / c) = t + m by omega] at e3
    rw [e2, e3]
    exact e1.symm
  · intro h
    apply List.ext_getElem?
    intro i
    by_cases hi : i < c
    · rw [rot_at hp hm hi, seg_at hi, h _ (by omega)]
    · rw [List.getElem?_eq_none (by rw [List.length_append, List.length_drop, List.length_take, seg_len]; omega), List.getElem?_eq_none (by rw [seg_len]; omega)]
end
/-- what a layer shows, by the moment -/
def shN (rs : List RW) (bk : Option Int) (t : Nat) : Int := shown rs bk (t : Nat)
theorem shN_per {rs : List RW} {bk : Option Int} (v : VRows rs) (vb : VBack rs bk) : ∀ t, (ahL rs bk).length ≤ t → shN rs bk (t + (arL rs bk).length) = shN rs bk t := fun t ht => by
  have e1 := shown_lay v vb t
  have e2 := shown_lay v vb (t + (arL rs bk).length)
  rw [if_neg (by omega)] at e1 e2
  rw [show t + (arL rs bk).length - (ahL rs bk).length = t - (ahL rs bk).length + (arL rs bk).length by omega, Nat.add_mod_right] at e2
  exact Option.some.inj (e2.trans e1.symm)
theorem arL_seg {rs : List RW} {bk : Option Int} (v : VRows rs) (vb : VBack rs bk) : arL rs bk = seg (shN rs bk) (ahL rs bk).length (arL rs bk).length := by
  apply List.ext_getElem?
  intro i
  by_cases hi : i < (arL rs bk).length
  · rw [seg_at hi]
    show _ = some (shown rs bk (((ahL rs bk).length + i : Nat) : Int))
    rw [shown_lay v vb, if_neg (by omega), Nat.add_sub_cancel_left, Nat.mod_eq_of_lt hi]
  · rw [List.getElem?_eq_none (by omega), List.getElem?_eq_none (by rw [seg_len]; omega)]
theorem aa_at {rs : List RW} {bk : Option Int} (v : VRows rs) (vb : VBack rs bk) {i : Nat} (h : i < (ahL rs bk).length + (arL rs bk).length) : (ahL rs bk ++ arL rs bk)[i]? = some (shN rs bk i) := by
  show _ = some (shown rs bk (i : Nat))
  rw [shown_lay v vb]
  by_cases c : i < (ahL rs bk).length
  · rw [if_pos c, List.getElem?_append_left c]
  · rw [if_neg c, List.getElem?_append_right (by omega), Nat.mod_eq_of_lt (by omega)]
/-! ### helpers of the laws over rounds -/
theorem Paired.appP {α β : Type} {F : α → β → Prop} : ∀ {l₁ m₁ : List α} {l₂ m₂ : List β}, Paired F l₁ l₂ → Paired F m₁ m₂ → Paired F (l₁ ++ m₁) (l₂ ++ m₂)
  | _, _, _, _, .nil, h => h
  | _, _, _, _, .cons r t, h => .cons r (Paired.appP t h)
theorem Paired.repP {α β : Type} {F : α → β → Prop} {l₁ : List α} {l₂ : List β} (h : Paired F l₁ l₂) : ∀ n, Paired F (List.replicate n l₁).flatten (List.replicate n l₂).flatten
  | 0 => .nil
  | n + 1 => by
    rw [List.replicate_succ, List.replicate_succ, List.flatten_cons, List.flatten_cons]
    exact Paired.appP h (Paired.repP h n)
theorem mem_rep {α : Type} {l : List α} {x : α} {n : Nat} (h : x ∈ (List.replicate n l).flatten) : x ∈ l := by
  obtain ⟨m, hm, hx⟩ := List.mem_flatten.mp h
  rw [(List.mem_replicate.mp hm).2] at hx
  exact hx
theorem len_rep {α : Type} {l : List α} {n : Nat} : (List.replicate n l).flatten.length = n * l.length := by
  rw [List.length_flatten, List.map_replicate, List.sum_replicate_nat]
theorem cut_mid {xs : List V} {a b : Nat} (h : a ≤ b) (h2 : b ≤ xs.length) : cutV xs (some (a : Int)) (some (b : Int)) = (xs.drop a).take (b - a) := by
  unfold cutV
  rw [HT.sIx_nat, HT.sIx_nat, Nat.min_eq_left h2, Nat.min_eq_left (show a ≤ xs.length by omega)]
theorem lays_cut {rs : List RW} {bk : Option Int} {n a b : Nat} (h : a ≤ b) (h2 : b ≤ n) : cutV (lays rs bk n) (some (a : Int)) (some (b : Int)) = (seg (shN rs bk) a (b - a)).map V.int := by
  rw [cut_mid h (by rw [lays_len]; exact h2)]
  apply List.ext_getElem?
  intro i
  by_cases hi : i < b - a
  · rw [List.getElem?_take_of_lt hi, List.getElem?_drop, lays_at (by omega), List.getElem?_map, seg_at hi]
    rfl
  · rw [List.getElem?_eq_none (by rw [List.length_take]; omega), List.getElem?_eq_none (by rw [List.length_map, seg_len]; omega)]
theorem cut_opt {rs : List RW} {bk : Option Int} (vb : VBack rs bk) (xs : List V) : cutV xs none bk = match bk with | none => xs | some b => xs.take b.toNat := by
  cases bk with
  | none => exact cut_all xs
  | some b =>
    have hb := vb b rfl
    obtain ⟨k, rfl⟩ : ∃ k : Nat, b = (k : Int) := ⟨b.toNat, by omega⟩
    exact cut_to xs k
def ahd (rs : List RW) : Option Int → List RW
  | none => rs
  | some b => rs.take b.toNat
def siz (rs : List RW) : Option Int → Int
  | none => 1
  | some b => tot (rs.drop b.toNat)
theorem siz_pos {rs : List RW} {bk : Option Int} (v : VRows rs) (vb : VBack rs bk) : 1 ≤ siz rs bk ∧ siz rs bk ≤ 192 := by
  obtain ⟨v8, vr⟩ := v
  cases bk with
  | none => exact ⟨by show (1 : Int) ≤ 1; omega, by show (1 : Int) ≤ 192; omega⟩
  | some b =>
    have hb := vb b rfl
    have := tot_nonneg (rs := rs.drop b.toNat) fun q hq => vr q (List.mem_of_mem_drop hq)
    rw [List.length_drop] at this
    obtain ⟨t1, t2⟩ := this
    constructor
    · show 1 ≤ tot (rs.drop b.toNat)
      omega
    · show tot (rs.drop b.toNat) ≤ 192
      omega
theorem siz_len {rs : List RW} {bk : Option Int} (v : VRows rs) : siz rs bk = ((arL rs bk).length : Int) := by
  cases bk with
  | none => rfl
  | some b => exact (dwg_len (v.dropV b.toNat).2).symm
theorem ahL_tot {rs : List RW} {bk : Option Int} (v : VRows rs) : ((ahL rs bk).length : Int) ≤ tot rs := by
  cases bk with
  | none => exact Int.le_of_eq (dwg_len v.2)
  | some b =>
    show ((dwg (rs.take b.toNat)).length : Int) ≤ tot rs
    have h := dwg_len (v.takeV b.toNat).2
    have s := tot_split rs b.toNat
    have t := (tot_nonneg (v.dropV b.toNat).2).1
    omega
/-- by the whole length and the round's size -/
theorem per_whole {rs : List RW} {bk : Option Int} (v : VRows rs) (vb : VBack rs bk) {W c : Nat} (hW : (W : Int) = tot rs) (hc : (c : Int) = siz rs bk) : ∀ t, W ≤ t → shN rs bk (t + c) = shN rs bk t := fun t ht => by
  have e := siz_len (bk := bk) v
  have a := ahL_tot (bk := bk) v
  rw [show c = (arL rs bk).length by omega]
  exact shN_per v vb t (by omega)
theorem Gr.keepRow {st : Addr} {K : PySem.W.Frag} {H H' : Hp} (g : Gr st H H') (s : IsSt H st) {vs : List V} {rs : List RW} (p : Paired (RowAt K H) vs rs) : Paired (RowAt K H') vs rs := Paired.mono p fun _ _ => RowAt.keep (g.tk s)
theorem gr_upd {st D : Addr} {H0 H : Hp} {o : HO} (g : Gr st H0 H) (n0 : H0 D = none) (nD : D ≠ st) : Gr st H0 (upd H D o) :=
  ⟨fun b x nb e => by rw [upd_ne (ne_of_none e n0)]; exact g.1 b x nb e, fun hz => by
    obtain ⟨x, y, hx, hxy⟩ := g.2 hz
    exact ⟨x, y, by rw [upd_ne (Ne.symm nD)]; exact hx, hxy⟩⟩
/-! ### rounds of sheets -/
def plN (x y : Int) (ms : List MV) (t : Nat) : RW × RW := plc x y ms (t : Int)
theorem rwD_inj {r s : RW} (h : rwD r = rwD s) : r = s := by
  have e := PyData.tuple.inj h
  injection e with e1 e2
  injection e2 with e2 _
  exact Prod.ext (PyData.int.inj e1) (PyData.int.inj e2)
theorem plD_inj {p q : RW × RW} (h : plD p = plD q) : p = q := by
  have e := PyData.tuple.inj h
  injection e with e1 e2
  injection e2 with e2 _
  exact Prod.ext (rwD_inj e1) (rwD_inj e2)
theorem picD_inj {c d : PIC} (h : picD c = picD d) : c = d := by
  have e := PyData.tuple.inj h
  injection e with e1 e2
  injection e2 with e2 _
  exact Prod.ext (ints_inj.mp (PyData.tuple.inj e1)) (plD_inj e2)
theorem sd_rw (r : RW) : Sd 1 (rwD r) := Sd.tup fun e he => by
  rcases mem2 he with rfl | rfl <;> exact Sd.int _
theorem sd_pl (p : RW × RW) : Sd 2 (plD p) := Sd.tup fun e he => by
  rcases mem2 he with rfl | rfl <;> exact sd_rw _
theorem sd_pic (c : PIC) : Sd 3 (picD c) := Sd.tup fun e he => by
  rcases mem2 he with rfl | rfl
  · exact Sd.intsT.more (by decide)
  · exact sd_pl _
structure WinR (x y : Int) (ms : List MV) (b : Nat) : Prop where
  per : ∀ t, b ≤ t → plN x y ms (t + 1) = plN x y ms t
  fst : ∀ c, c + 1 = b → plN x y ms (c + 1) ≠ plN x y ms c
structure ShR (ls : List LY) (x y : Int) (ms : List MV) (a m : Nat) : Prop where
  m1 : 1 ≤ m
  perL : ∀ l ∈ ls, ∀ t, a ≤ t → shN l.1 l.2 (t + m) = shN l.1 l.2 t
  perW : ∀ t, a ≤ t → plN x y ms (t + 1) = plN x y ms t
  dvd : ∀ n, (∀ l ∈ ls, ∀ a' m', Lst (shN l.1 l.2) a' m' → m' ∣ n) → m ∣ n
  fst : ∀ b, b + 1 = a → (∃ l ∈ ls, shN l.1 l.2 (b + m) ≠ shN l.1 l.2 b) ∨ plN x y ms (b + 1) ≠ plN x y ms b
theorem ShR.uniq {ls : List LY} {x y : Int} {ms : List MV} {a m a' m' : Nat} (h : ShR ls x y ms a m) (h' : ShR ls x y ms a' m') : a = a' ∧ m = m' := by
  have e : m = m' := Nat.dvd_antisymm (h.dvd m' fun l hl b n hb => hb.dvd m' a' (h'.perL l hl)) (h'.dvd m fun l hl b n hb => hb.dvd m a (h.perL l hl))
  subst e
  refine ⟨?_, rfl⟩
  rcases Nat.lt_trichotomy a a' with z | z | z
  · rcases h'.fst (a' - 1) (by omega) with ⟨l, hl, hn⟩ | hn
    · exact absurd (h.perL l hl (a' - 1) (by omega)) hn
    · exact absurd (h.perW (a' - 1) (by omega)) hn
  · exact z
  · rcases h.fst (a - 1) (by omega) with ⟨l, hl, hn⟩ | hn
    · exact absurd (h'.perL l hl (a - 1) (by omega)) hn
    · exact absurd (h'.perW (a - 1) (by omega)) hn
theorem Paired.mem2 {α β : Type} {F : α → β → Prop} {l₁ : List α} {l₂ : List β} (p : Paired F l₁ l₂) {y : β} (h : y ∈ l₂) : ∃ x ∈ l₁, F x y := by
  obtain ⟨i, hi⟩ := List.mem_iff_getElem?.mp h
  obtain ⟨x, hx, f⟩ := Paired.at2 p hi
  exact ⟨x, List.mem_of_getElem? hx, f⟩
theorem Paired.mem1 {α β : Type} {F : α → β → Prop} {l₁ : List α} {l₂ : List β} (p : Paired F l₁ l₂) {x : α} (h : x ∈ l₁) : ∃ y ∈ l₂, F x y := by
  obtain ⟨i, hi⟩ := List.mem_iff_getElem?.mp h
  obtain ⟨y, hy, f⟩ := Paired.at p hi
  exact ⟨y, List.mem_of_getElem? hy, f⟩
abbrev RdOf (r : Nat × Nat) (l : LY) : Prop := Lst (shN l.1 l.2) r.1 r.2 ∧ r.1 ≤ 192 ∧ r.2 ≤ 192
theorem shR_mk {ls : List LY} {rd : List (Nat × Nat)} {x y : Int} {ms : List MV} {a b m : Nat} (hp : Paired RdOf rd ls) (hw : WinR x y ms b) (ha : ∀ r ∈ rd, r.1 ≤ a) (hb : b ≤ a) (hm : a = b ∨ ∃ r ∈ rd, r.1 = a) (m1 : 1 ≤ m)
    (hd : ∀ r ∈ rd, r.2 ∣ m) (hl : ∀ n, (∀ r ∈ rd, r.2 ∣ n) → m ∣ n) : ShR ls x y ms a m := by
  refine ⟨m1, fun l hl t ht => ?_, fun t ht => hw.per t (by omega), fun n hn => hl n fun r hr => ?_, fun c hc => ?_⟩
  · obtain ⟨r, hr, f, _⟩ := Paired.mem2 hp hl
    obtain ⟨k, rfl⟩ := hd r hr
    exact per_mul f.per k t (by have := ha r hr; omega)
  · obtain ⟨l, hl', f, _⟩ := Paired.mem1 hp hr
    exact hn l hl' r.1 r.2 f
  · rcases hm with e | ⟨r, hr, e⟩
    · exact .inr (hw.fst c (by omega))
    · obtain ⟨l, hl', f, _⟩ := Paired.mem1 hp hr
      refine .inl ⟨l, hl', fun z => f.fst c (by omega) ?_⟩
      obtain ⟨k, hk⟩ := hd r hr
      obtain ⟨j, rfl⟩ : ∃ j, k = j + 1 := ⟨k - 1, by
        rcases Nat.eq_zero_or_pos k with z | z
        · rw [z] at hk
          omega
        · omega⟩
      have e2 := per_mul f.per j (c + r.2) (by have := f.m1; omega)
      rw [show c + r.2 + r.2 * j = c + m by rw [hk, Nat.mul_succ]; omega, z] at e2
      exact e2.symm
theorem ShR.pic_eq {ls : List LY} {x y : Int} {ms : List MV} {a m : Nat} (h : ShR ls x y ms a m) {t : Nat} (ht : a ≤ t) (k : Nat) : pic ls x y ms ((t + m * k : Nat) : Int) = pic ls x y ms (t : Int) := by
  refine Prod.ext ?_ ?_
  · exact List.map_congr_left fun l hl => per_mul (h.perL l hl) k t ht
  · have := per_mul (f := fun t => (0 : Int)) (A := 0) (m := 1) (fun _ _ => rfl)
    have e : ∀ n, plN x y ms (t + n) = plN x y ms t := fun n => by
      induction n with
      | zero => rfl
      | succ n ih => rw [← Nat.add_assoc, h.perW _ (by omega), ih]
    exact e (m * k)
theorem ShR.pic_ne {ls : List LY} {x y : Int} {ms : List MV} {a m : Nat} (h : ShR ls x y ms a m) {b : Nat} (hb : b + 1 = a) : pic ls x y ms (b : Int) ≠ pic ls x y ms ((b + m : Nat) : Int) := fun e => by
  rcases h.fst b hb with ⟨l, hl, hn⟩ | hn
  · exact hn (List.map_inj_left.mp (congrArg Prod.fst e) l hl).symm
  · refine hn ?_
    have e1 : plN x y ms b = plN x y ms (b + m) := congrArg Prod.snd e
    have e2 : ∀ n, plN x y ms (b + 1 + n) = plN x y ms (b + 1) := fun n => by
      induction n with
      | zero => rfl
      | succ n ih => rw [← Nat.add_assoc, h.perW _ (by omega), ih]
    have m1 := h.m1
    have e3 := e2 (m - 1)
    rw [show b + 1 + (m - 1) = b + m by omega] at e3
    rw [e1, e3]
theorem winR_of {x y : Int} {ms : List MV} {L b : Nat} (vm : ∀ m ∈ ms, VMove m) (hL : (L : Int) = mtot ms) (hb : b ≤ L) (hp : ∀ t, b ≤ t → t < L → plN x y ms (t + 1) = plN x y ms t) (hf : ∀ c, c + 1 = b → plN x y ms (c + 1) ≠ plN x y ms c) : WinR x y ms b := by
  refine ⟨fun t ht => ?_, hf⟩
  rcases Nat.lt_or_ge t L with z | z
  · exact hp t ht z
  · exact plc_far ms x y _ _ vm (by omega) (by omega)
/-- the step of the law's own reckoning of a common multiple -/
theorem lcm_step {s z k : Nat} (s1 : 1 ≤ s) (z1 : 1 ≤ z) (k1 : 1 ≤ k) (hd : z ∣ s * k) (hmin : ∀ j, 1 ≤ j → j < k → ¬ z ∣ s * j) : s * k = Nat.lcm s z := by
  obtain ⟨j, hj⟩ := Nat.dvd_lcm_left s z
  have lp : 0 < Nat.lcm s z := Nat.lcm_pos (by omega) (by omega)
  have j1 : 1 ≤ j := by
    rcases Nat.eq_zero_or_pos j with e | e
    · rw [e] at hj
      omega
    · exact e
  have h1 : Nat.lcm s z ∣ s * k := Nat.lcm_dvd (Nat.dvd_mul_right s k) hd
  have h2 : k ≤ j := Nat.le_of_not_lt fun lt => hmin j j1 lt (by rw [← hj]; exact Nat.dvd_lcm_right s z)
  have h3 := Nat.le_of_dvd (Nat.mul_pos (by omega) (by omega)) h1
  have h4 : s * k ≤ s * j := Nat.mul_le_mul_left s h2
  omega
theorem lcm_le {s z : Nat} (h : 0 < Nat.gcd s z) : Nat.lcm s z ≤ s * z := by
  unfold Nat.lcm
  exact Nat.div_le_self _ _

/-! ### defs called where an error is handled -/
/-- f, called while the error at a (class cls, dict d) is handled, keeps sp -/
structure FnE (P : Program) (w : World) (K : PySem.W.Frag) (mg : Str → Option Value) (base : Heap) (k : Nat) (f : Addr) (fd : FuncData) (ps : List Str) (sp : Addr → Value → Option Addr → Sp) : Prop where
  len : ∀ a cls d vs H Q E, sp a cls d vs H Q E → vs.length = ps.length
  run : ∀ (A : Around) (outer : List Env) (s : Shared) (H : Hp) (args : Args) (us : List Value) (vs : List V) (Q : VK) (E : XK) (a : Addr) (oe : Obj) (cls : Value) (d : Option Addr), L2H.RoomH k A → Zc cls d oe → (∃ z, oe.data = .fields z) → L2H.PinOk outer H s (a, oe) →
    Env0 P w K mg base A outer s H → BindsTo s fd args (ps.zip us) → Vals vs us → sp a cls d vs H Q E → codeAny (model P w) A (.call (.ref f) args) (CR CX0 outer P w H s Q E) s
section
variable {P : Program} {w : World} {K : PySem.W.Frag} {mg : Str → Option Value} {base : Heap}
theorem fun_okE {x qual : Str} {st : Stmt} {f : Addr} {fd : FuncData} {N ps : List Str} {k : Nat} {sp : Addr → Value → Option Addr → Sp} (F : Fun K x qual st f fd) (S : FnScope N ps (defScope st)) (ln : ∀ a cls d vs H Q E, sp a cls d vs H Q E → vs.length = ps.length)
    (hbody : ∀ (cdv : Value) (A : Around) (outer : List Env) (s : Shared) (H : Hp) (vs : List V) (Q : VK) (E : XK) (a : Addr) (oe : Obj) (cls : Value) (d : Option Addr), Zc cls d oe → (∃ z, oe.data = .fields z) → L2H.RoomH k (A.deeper (envOfC qual (defScope st) s.heap.objs.size f cdv)) → sp a cls d vs H Q E →
      ∃ t, PSs (L2H.cxH CX0 P w K mg base N qual (defScope st) f cdv A outer s H E (a, oe)) (defBody st) t ∧ t { nx := fun _ H' => Q .non H', rt := Q } (L2.start N vs) H) : FnE P w K mg base (k + 1) f fd ps sp := by
  obtain ⟨cdv, D⟩ := defAt_of F
  refine ⟨ln, fun A outer s H args us vs Q E a oe cls d hr hz hfs hpin e0 hb r hsp => D.call S hr.depth e0 hb fun s1 begun => ?_⟩
  obtain ⟨t, ht, hq⟩ := hbody cdv A outer s H vs Q E a oe cls d hz hfs (hr.deeper _) hsp
  exact thn (ht.run [] s1 _ H _ (L2H.inv_startH S hpin e0 (ln _ _ _ _ _ _ _ hsp) r begun) hq) fun _ _ h => given_by rfl h
end
section
variable {X : Cx}
/-- what is pinned in the context may be pinned in a body that it calls -/
theorem pinned {pins : List (Addr × Obj)} {σ : L2.St} {H : Hp} {s : Shared} {p : Addr × Obj} (I : Inv X pins σ H s) (hpn : p ∈ X.pn) : L2H.PinOk X.stack H s p := by
  obtain ⟨get, free, low, far, flat⟩ := I.pin p (List.mem_append_left pins hpn)
  refine ⟨get, free, fun on => ?_, flat⟩
  rcases List.mem_cons.mp (I.stkSub p.1 on) with z | z
  · exact low z
  · exact far z
/-- a call of a global name: T tells what is asked of its arguments -/
theorem pe_named {f : Addr} {x : Str} {q pos : Pos} {e : Expr} {es : List Expr} {t : TA} {T : List V → Hp → VK → Prop} (hg : Gl X x) (hm : X.mg x = some (.ref f)) (hk : PySem.W.keepIn X.K (.ref f) = true) (ha : PA X (e :: es) t)
    (run : ∀ (pins : List (Addr × Obj)) (s : Shared) (σ : L2.St) (H : Hp) (us : List Value) (vs : List V) (Q : VK), Inv X pins σ H s → Vals vs us → T vs H Q → wpAny (model X.prog X.w) X.A (call (.ref f) us) (EP X pins σ Q) X.xe s)
    (plain : (x == ("__debug__" : Str)) = false) (first : starEach (e :: es) X.env = (false, eval e X.env) :: starEach es X.env) (noStar : (backTo pos (starEach es X.env)).any (·.1) = false) :
    PE X (.Call (.Name x q) (e :: es) [] pos) (fun σ H Q => t σ H fun vs H1 => T vs H1 Q) :=
  ⟨fun pins s σ H Q I h => wpAny_Call_Name_kw (ld_glob I hg hm (PySem.W.callWith_K (h₀ := X.base) I.ok.mod.kin hk
    (thn (ha.run pos pins s σ H _ I h) fun us s1 ⟨vs, H1, I1, r, due⟩ => ⟨I1.kIn, run pins s1 σ H1 us vs Q I1 r due⟩) first noStar) plain)⟩
/-- f(e, ..), the error at a being handled -/
theorem pe_callE {k : Nat} {f a : Addr} {oe : Obj} {cls : Value} {d : Option Addr} {fd : FuncData} {ps : List Str} {sp : Addr → Value → Option Addr → Sp} {x : Str} {q pos : Pos} {e : Expr} {es : List Expr} {t : TA} (F : FnE X.prog X.w X.K X.mg X.base k f fd ps sp) (hr : L2H.RoomH k X.A) (hpn : (a, oe) ∈ X.pn)
    (hz : Zc cls d oe) (hfs : ∃ z, oe.data = .fields z) (hg : Gl X x) (hm : X.mg x = some (.ref f)) (hk : PySem.W.keepIn X.K (.ref f) = true) (hb : Binds X.K fd ps []) (ha : PA X (e :: es) t)
    (hdb : (x == ("__debug__" : Str)) = false := by decide) (he : starEach (e :: es) X.env = (false, eval e X.env) :: starEach es X.env := by rfl) (hpl : (backTo pos (starEach es X.env)).any (·.1) = false := by rfl) :
    PE X (.Call (.Name x q) (e :: es) [] pos) (fun σ H Q => t σ H fun vs H1 => sp a cls d vs H1 Q E0) := by
  refine pe_named (T := fun vs H Q => sp a cls d vs H Q E0) hg hm hk ha (fun pins s σ H us vs Q I r due => ?_) hdb he hpl
  have binds : BindsTo s fd ⟨us, []⟩ (ps.zip us) := by
    simpa only [List.append_nil] using hb s us I.kIn (by rw [List.append_nil, ← r.length]; exact F.len _ _ _ _ _ _ _ due)
  refine wpAny_call (codeAny_mono (F.run X.A X.stack s H ⟨us, []⟩ us vs Q E0 a oe cls d hr hz hfs (pinned I hpn) I.env0 binds r due) fun res s' left => ?_)
  match res, left with
  | .ok (.ret _), left => exact I.after left
  | .ok .next, left | .ok .brk, left | .ok .cont, left | .error _, left => exact False.elim left
/-- isinstance(e, c), e a handled error -/
def rIsP (K : PySem.W.Frag) (D a : Addr) (d : Option Addr) : List V → Hp → VK → Prop := fun xs H Q => ∃ (c : V) (cv : Value) (b : Bool), xs = [.ref a, c] ∧ (∀ u, RelV c u → u = cv) ∧ PySem.W.kitOne K (.ref D) cv = some b ∧
  (∀ dd, d = some dd → ∃ fs, H dd = some (.xd fs)) ∧ Q (.bl b) H
theorem call_isP {a D : Addr} {oe : Obj} {d : Option Addr} (hpn : (a, oe) ∈ X.pn) (C : ExcC X.K D) (hz : Zc (.ref D) d oe) (hfs : ∃ z, oe.data = .fields z) : CallR X (.builtin "isinstance") (rIsP X.K D a d) := by
  intro pins s σ H xs us Q I r h
  obtain ⟨c, cv, b, rfl, hcv, e, hd, q⟩ := h
  obtain ⟨u1, u2, rfl, r1, r2⟩ := vals2 r
  have ec := hcv _ r2
  subst ec
  cases (show u1 = Value.ref a from r1)
  obtain ⟨hget, _⟩ := I.pin (a, oe) (List.mem_append_left _ hpn)
  obtain ⟨z, hv⟩ := hfs
  have hno : PySem.W.notCls oe = true := by
    unfold PySem.W.notCls
    rw [hv]
  obtain ⟨od, J⟩ : ∃ od, PySem.W.InstAt s.heap a oe D od := by
    cases d with
    | none => exact ⟨none, hget, hz.1, hno, by rw [hz.2]; trivial⟩
    | some dd =>
      obtain ⟨fs, hfs⟩ := hd dd rfl
      obtain ⟨mA, hns, hr⟩ := (show ObjOk X.prog X.w H s.heap dd (.xd fs) from I.hok dd _ hfs)
      obtain ⟨od, ho, hl⟩ := lookIn_ns hns
      exact ⟨some od, hget, hz.1, hno, by rw [hz.2]; exact ho⟩
  have hcl : (PySem.W.clsIn X.K D).isSome = true := by
    obtain ⟨cd, hc, _⟩ := PySem.W.any_some C.hd
    rw [hc]
    rfl
  exact PySem.W.kia_one (PySem.W.kitx_exc hcl C.hg C.hk C.hs C.ha C.hn C.ht C.hm) I.kIn J e (fun z => nomatch z) fun tk => ⟨.bl b, H, I.tok tk, rfl, q⟩
end

/-! ### what the written part says of the refusals -/
def excCB (K : PySem.W.Frag) (D : Addr) : Bool :=
  decide (PySem.W.findIn K (.ref D) "__getattribute__" = some (some (.builtin "BaseException.__getattribute__"))) && (decide (PySem.W.findIn K (.ref D) "__getattr__" = some none) && (decide (PySem.W.subIn K (.ref D) (.type "BaseException") = some true) &&
    (PySem.W.hasDictIn K D && (decide (PySem.W.findIn K (.ref D) "__class__" = some (some (.builtin "object.__class__"))) && (decide (PySem.W.specialIn K (.builtin "object.__class__") "__get__" = some (some (.builtin "getset_descriptor.__get__"))) &&
      (decide (PySem.W.takesIn K (.builtin "object.__class__") = some true) && decide (PySem.W.mroIn K D (.type "object") = some true)))))))
theorem excC_of {K : PySem.W.Frag} {D : Addr} (h : excCB K D = true) : ExcC K D := by
  unfold excCB at h
  simp only [Bool.and_eq_true, decide_eq_true_eq] at h
  obtain ⟨h1, h2, h3, h4, h5, h6, h7, h8⟩ := h
  exact ⟨h1, h2, h3, h4, h5, h6, h7, h8⟩
def excTB (K : PySem.W.Frag) (c : Nat → Addr) (LE : Addr) : Bool :=
  (List.range 16).all fun i => excCB K (c i) && (decide (PySem.W.kitOne K (.ref (c i)) (.type "ValueError") = some true) && (decide (PySem.W.exmOne K (.ref (c i)) (.ref LE) = some true) &&
    ((decide (14 ≤ i) || PySem.W.excIn K (c i) PySem.HandSPX.veTail "ValueError.__new__") && (PySem.W.keepIn K (.ref (c i)) && (decide (PySem.W.typeIn K (.ref (c i)) = some (.type "type")) &&
      (List.range 16).all fun j => decide (PySem.W.kitOne K (.ref (c i)) (.ref (c j)) = some (decide (i = j))))))))
/-- the sixteen refusals stand at c 0 .. c 15, LanternError at LE -/
structure ExcT (K : PySem.W.Frag) (c : Nat → Addr) (LE : Addr) : Prop where
  e : ∀ i, i < 16 → ExcC K (c i)
  kv : ∀ i, i < 16 → PySem.W.kitOne K (.ref (c i)) (.type "ValueError") = some true
  ex : ∀ i, i < 16 → PySem.W.exmOne K (.ref (c i)) (.ref LE) = some true
  nw : ∀ i, i < 14 → PySem.W.excIn K (c i) PySem.HandSPX.veTail "ValueError.__new__" = true
  kp : ∀ i, i < 16 → PySem.W.keepIn K (.ref (c i)) = true
  ty : ∀ i, i < 16 → PySem.W.typeIn K (.ref (c i)) = some (.type "type")
  ko : ∀ i, i < 16 → ∀ j, j < 16 → PySem.W.kitOne K (.ref (c i)) (.ref (c j)) = some (decide (i = j))
theorem excT_of {K : PySem.W.Frag} {c : Nat → Addr} {LE : Addr} (h : excTB K c LE = true) : ExcT K c LE := by
  have key : ∀ i, i < 16 → excCB K (c i) = true ∧ PySem.W.kitOne K (.ref (c i)) (.type "ValueError") = some true ∧ PySem.W.exmOne K (.ref (c i)) (.ref LE) = some true ∧ (14 ≤ i ∨ PySem.W.excIn K (c i) PySem.HandSPX.veTail "ValueError.__new__" = true) ∧ PySem.W.keepIn K (.ref (c i)) = true ∧
      PySem.W.typeIn K (.ref (c i)) = some (.type "type") ∧ ∀ j, j < 16 → PySem.W.kitOne K (.ref (c i)) (.ref (c j)) = some (decide (i = j)) := fun i hi => by
    have z := List.all_eq_true.mp h i (List.mem_range.mpr hi)
    simp only [Bool.and_eq_true, Bool.or_eq_true, decide_eq_true_eq] at z
    obtain ⟨z1, z2, z3, z4, z5, z6, z7⟩ := z
    exact ⟨z1, z2, z3, z4, z5, z6, fun j hj => of_decide_eq_true (List.all_eq_true.mp z7 j (List.mem_range.mpr hj))⟩
  exact ⟨fun i hi => excC_of (key i hi).1, fun i hi => (key i hi).2.1, fun i hi => (key i hi).2.2.1, fun i hi => (key i (by omega)).2.2.2.1.elim (fun z => absurd z (by omega)) id, fun i hi => (key i hi).2.2.2.2.1, fun i hi => (key i hi).2.2.2.2.2.1, fun i hi => (key i hi).2.2.2.2.2.2⟩
theorem ExcT.rs {X : Cx} {c : Nat → Addr} {LE : Addr} (T : ExcT X.K c LE) {i : Nat} (hi : i < 16) : Raises X (.ref (c i)) := raises_own (T.e i hi).hs (T.ty i hi)
/-! ### xs.count(True) -/
def rCntB (K : PySem.W.Frag) : V → List V → Hp → VK → Prop := fun x xs H Q => ∃ (p : Addr) (bs : List Bool), x = .ref p ∧ xs = [.bl true] ∧ SqL K H p (bs.map V.bl) ∧ Q (.int (bs.count true : Nat)) H
theorem bl_flat : ∀ bs : List Bool, (bs.map V.bl).all flatV = true
  | [] => rfl
  | b :: r => by
    rw [List.map_cons, List.all_cons, bl_flat r]
    rfl
theorem cnt_bl : ∀ {bs : List Bool} {us : List Value}, Vals (bs.map V.bl) us → us.countP (eqU (.bl true)) = bs.count true
  | [], _, .nil => rfl
  | b :: r, _, .cons (b := u) (l₂ := us) ru rt => by
    have e : eqU (.bl true) u = eqV (.bl b) (.bl true) := eqU_of ru rfl
    rw [List.countP_cons, cnt_bl rt, List.count_cons, e]
    cases b <;> rfl
theorem mt_bcount {X : Cx} : MtR X "list.count" (rCntB X.K) := by
  intro pins s σ H x xs v us Q I rx rxs h
  obtain ⟨p, bs, rfl, rfl, hs, q⟩ := h
  cases rx
  obtain ⟨u, rfl, ru⟩ := rxs.one
  obtain ⟨its, rv, ⟨⟨cls, dd, data, sl⟩, n, ho, hc, hdn, hd⟩, hlen⟩ := I.list hs
  simp only at hc hd
  subst hc hd
  refine call_meets PySem.F.slot_list_count ⟨_, ho, rfl⟩ PySem.F.entry_list_count
    (PySem.F.args_list_count_2 _ _) (SeqAt.list_countAt p its.toArray n dd sl u (eqU (.bl true)))
    ⟨ho, fun y hy => mem_eqAt ru rfl rv (bl_flat bs) y (by simpa using hy), ?_⟩
  refine ⟨.int (bs.count true : Nat), H, I.tok _, ⟨s.toks, ?_⟩, q⟩
  show Value.int ((its.toArray.toList.countP (eqU (.bl true)) : Nat) : Int) s.toks = Value.int ((bs.count true : Nat) : Int) s.toks
  rw [List.toList_toArray, cnt_bl rv]
/-! ### what is told of a call -/
def bits (i : Nat) : List Bool := (List.range 16).map fun j => decide (i = j)
def HasXd (d : Option Addr) (H : Hp) : Prop := ∀ dd, d = some dd → ∃ fs, H dd = some (.xd fs)
def spCls (c : Nat → Addr) : Addr → Value → Option Addr → Sp := fun a cls d vs H Q _ => ∃ i, i < 16 ∧ vs = [.ref a] ∧ cls = .ref (c i) ∧ HasXd d H ∧ ∀ H' p, Same H H' → H p = none → H' p = some (.lst ((bits i).map V.bl)) → Q (.ref p) H'
/-- what is wished of a refusal that met catches: told are 'refused' and its number, 'many' and both fields, 'leaned' and the numbers -/
def EMet (c : Nat → Addr) (Q : VK) : XK := fun cls d H => ∃ i, i < 16 ∧ cls = .ref (c i) ∧ HasXd d H ∧
  (i < 14 → ∀ H' p, Same H H' → H p = none → H' p = some (.tup [.str "refused", .int (i : Nat)]) → Q (.ref p) H') ∧
  (i = 14 → ∃ dd fs m n, d = some dd ∧ H dd = some (.xd fs) ∧ fs.lookup ("many" : Str) = some m ∧ fs.lookup ("most" : Str) = some n ∧ ∀ H' p q, Same H H' → H p = none → H' q = some (.tup [m, n]) → H' p = some (.tup [.str "many", .ref q]) → Q (.ref p) H') ∧
  (i = 15 → ∃ dd fs m, d = some dd ∧ H dd = some (.xd fs) ∧ fs.lookup ("numbers" : Str) = some m ∧ ∀ H' p, Same H H' → H p = none → H' p = some (.tup [.str "leaned", m]) → Q (.ref p) H')
/-- what met makes of the lambda's reading -/
def TMet (c : Nat → Addr) : (XK → Hp → VK → Prop) → Hp → VK → Prop := fun tl H Q =>
  tl (EMet c Q) H fun v H1 => 2 ≤ sizeLine ∧ ∀ p, H1 p = none → Q (.ref p) (upd H1 p (.tup [.str "told", v]))

def clsN : List Str := ["NoLayer", "NoWindow", "NoSheet", "NoMoment", "NoRow", "NoNumber", "NoDrawings", "Unlike", "Endless", "Squeezed", "NoPaper", "NoDeed", "NoText", "NoWords", "TooMany", "Leaned"]
structure ExcN (K : PySem.W.Frag) (mg : Str → Option Value) (c : Nat → Addr) (LE : Addr) : Prop extends ExcT K c LE where
  g : ∀ i n, clsN[i]? = some n → mg n = some (.ref (c i))
  gL : mg "LanternError" = some (.ref LE)
  n1 : PySem.W.findIn K (.ref (c 14)) "many" = some none
  n2 : PySem.W.findIn K (.ref (c 14)) "most" = some none
  n3 : PySem.W.findIn K (.ref (c 15)) "numbers" = some none
theorem ExcN.xf {K : PySem.W.Frag} {mg : Str → Option Value} {c : Nat → Addr} {LE : Addr} (T : ExcN K mg c LE) {i : Nat} (hi : i < 16) : XfC K (c i) := ⟨(T.e i hi).hg, (T.e i hi).hk, (T.e i hi).hs, (T.e i hi).hd⟩
structure ClE (P : Program) (w : World) (K : PySem.W.Frag) (mg : Str → Option Value) (base : Heap) (k : Nat) (x : Str) (ps : List Str) (sp : Addr → Value → Option Addr → Sp) : Prop where
  ex : ∃ (f : Addr) (fd : FuncData), FnE P w K mg base k f fd ps sp ∧ PySem.W.keepIn K (.ref f) = true ∧ Binds K fd ps [] ∧ mg x = some (.ref f)
/-- a def that may refuse -/
structure ClX (P : Program) (w : World) (K : PySem.W.Frag) (mg : Str → Option Value) (base : Heap) (k : Nat) (x : Str) (ps : List Str) (sp : Sp) : Prop where
  ex : ∃ (f : Addr) (fd : FuncData), FnOk P w K mg base (L2.CX P w) k f fd ps sp ∧ PySem.W.keepIn K (.ref f) = true ∧ Binds K fd ps [] ∧ mg x = some (.ref f)
section
variable {X : Cx}
theorem pe_gref {x : Str} {pos : Pos} {C : Addr} (hg : Gl X x) (h : X.mg x = some (.ref C)) (hd : (x == ("__debug__" : Str)) = false := by decide) : PE X (.Name x pos) (tC (.ref C)) := pe_glob hg h rfl hd
/-- a built-in's method, the written part told by its letter -/
theorem pe_bmK {K : PySem.W.Frag} {T : String} {name : Str} {id : String} {r : V → List V → Hp → VK → Prop} {o e : Expr} {es : List Expr} {to : TE} {t : TA} {apos cpos : Pos} (pa : PlainAttrs T) (slot : Slot T name id) (hty : typeOf (.builtin id) = pure (.type "method_descriptor")) (hm : MtR X id r) (ho : PE X o to) (ha : PA X (e :: es) t) (hK : X.K = K := by rfl)
    (hbase : attributeBase o name X.env (eval o X.env) = eval o X.env := by rfl)
    (hfew : ((backTo cpos (starEach (e :: es) X.env)).all (fun x => !x.1) && (backToKw cpos (keywordEach [] X.env)).all (fun x => x.1.isSome) && decide ((e :: es).length + ([] : List Keyword).length + (if ([] : List Keyword).isEmpty then 0 else 1) < 30)) = true := by rfl)
    (hline : (apos.endLine == cpos.line) = true := by rfl) (hs : starEach (e :: es) X.env = (false, eval e X.env) :: starEach es X.env := by rfl)
    (hplain : (backTo cpos (starEach es X.env)).any (·.1) = false := by rfl) : PE X (.Call (.Attribute o name apos) (e :: es) [] cpos) (tBM K T r to t) := by
  subst hK
  exact pe_bm pa slot hty hm ho ha hbase hfew hline hs hplain
theorem pe_ownE {k : Nat} {x : Str} {ps : List Str} {sp : Addr → Value → Option Addr → Sp} {a : Addr} {oe : Obj} {cls : Value} {d : Option Addr} {e : Expr} {es : List Expr} {t : TA} {p pos : Pos} (C : ClE X.prog X.w X.K X.mg X.base k x ps sp) (hr : L2H.RoomH k X.A) (hpn : (a, oe) ∈ X.pn) (hz : Zc cls d oe)
    (hfs : ∃ z, oe.data = .fields z) (hg : Gl X x) (ha : PA X (e :: es) t)
    (hdb : (x == ("__debug__" : Str)) = false := by decide) (he : starEach (e :: es) X.env = (false, eval e X.env) :: starEach es X.env := by rfl) (hpl : (backTo pos (starEach es X.env)).any (·.1) = false := by rfl) :
    PE X (.Call (.Name x p) (e :: es) [] pos) (fun σ H Q => t σ H fun vs H1 => sp a cls d vs H1 Q E0) := by
  obtain ⟨f, fd, F, hk, hb, hm⟩ := C.ex
  exact pe_callE F hr hpn hz hfs hg hm hk hb ha hdb he hpl
/-- f(e, ..), f may refuse: E is wished of what it lets out -/
theorem pe_ownX {k : Nat} {x : Str} {ps : List Str} {sp : Sp} {W : WX} {e : Expr} {es : List Expr} {t : TA} {p pos : Pos} (C : ClX X.prog X.w X.K X.mg X.base k x ps sp) (hr : Room k X.A) (tk : Takes X W) (hg : Gl X x) (ha : PA X (e :: es) t)
    (hdb : (x == ("__debug__" : Str)) = false := by decide) (he : starEach (e :: es) X.env = (false, eval e X.env) :: starEach es X.env := by rfl) (hpl : (backTo pos (starEach es X.env)).any (·.1) = false := by rfl) :
    PE X (.Call (.Name x p) (e :: es) [] pos) (tCallS sp (WE W) t) := by
  obtain ⟨f, fd, F, hk, hb, hm⟩ := C.ex
  exact pe_callS F hr hg hm hk hb (fun σ => passAt tk σ) ha hdb he hpl
def rIsQ (K : PySem.W.Frag) (c : Nat → Addr) (a : Addr) (cls : Value) (d : Option Addr) : List V → Hp → VK → Prop := fun xs H Q => ∃ i, i < 16 ∧ cls = .ref (c i) ∧ rIsP K (c i) a d xs H Q
theorem call_isQ {K : PySem.W.Frag} {c : Nat → Addr} {LE a : Addr} {oe : Obj} {cls : Value} {d : Option Addr} (T : ExcT K c LE) (hpn : (a, oe) ∈ X.pn) (hz : Zc cls d oe) (hfs : ∃ z, oe.data = .fields z) (hK : X.K = K := by rfl) : CallR X (.builtin "isinstance") (rIsQ K c a cls d) := by
  subst hK
  intro pins s σ H xs us Q I r h
  obtain ⟨i, hi, rfl, h⟩ := h
  exact call_isP hpn (T.e i hi) hz hfs pins s σ H xs us Q I r h
/-- what a met def must have: its place, its text -/
structure MetF (X : Cx) (x a : Str) (TT : (XK → Hp → VK → Prop) → Hp → VK → Prop) : Prop where
  ex : ∃ (g : Addr) (pg : Arguments) (bg : List Stmt) (sg : Scope) (kV doc pm cdv ct oc : Value) (an od : Option Addr) (osl : Array (Option Value)) (Ng : List Str), X.mg x = some (.ref g) ∧ PySem.W.keepIn X.K (.ref g) = true ∧
    X.K.lookup g = some ⟨oc, od, .func (PySem.W.fnOf x x pg bg sg .none kV doc pm an cdv ct), osl⟩ ∧ PySem.W.codeIn X.K cdv x = true ∧ L2.Binds X.K (PySem.W.fnOf x x pg bg sg .none kV doc pm an cdv ct) [a] [] ∧ FnScope Ng [a] sg ∧ Ng[0]? = some a ∧ Vis sg a ∧
    LamX.GivesTo X Ng x sg g cdv bg a (X.env.qual ++ "<lambda>") TT
/-- x(lambda: body) -/
theorem pe_met {T : List (Addr × Str)} {TT : (XK → Hp → VK → Prop) → Hp → VK → Prop} {x a : Str} {c P : Addr} {k : Nat} {params : Arguments} {body : Expr} {scope : Scope} {t : XK → TE} {p lpos pos : Pos} (M : MetF X x a TT) (hg : Gl X x)
    (TB : LamX.TabB X.base X.mg c P) (hcode : X.env.code = .ref c) (hmT : (P, X.env.qual ++ "<lambda>") ∈ T) (hu : ∀ p ∈ T, p.1 = P → p.2 = X.env.qual ++ "<lambda>") (hr : Room (k + 2) X.A) (L : LamX.LamS X.env.scope scope)
    (hbody : ∀ (A : Around) (outer : List Env) (s : Shared) (H : Hp) (E : XK) (f c' : Addr), Room k (A.deeper (LamX.lamEnv X scope s.heap.objs.size f c')) → PE (LamX.lamCx X A outer s H E scope f c') body (t E))
    (hdef : defaultsOf params X.env = ([], []) := by rfl)
    (hbind : ∀ (q : Str) (cl : List (Str × Addr)) (pm cv ctv : Value), bindArgs (PySem.W.kla_fn "<lambda>" q params body scope cl pm cv ctv) ⟨[], []⟩ = pure [] := by intros; rfl)
    (hdb : (x == ("__debug__" : Str)) = false := by decide) (hd : (a == ("__debug__" : Str)) = false := by decide) (hcd : (a == ("__classdict__" : Str)) = false := by decide) :
    PE X (.Call (.Name x p) [.Lambda params body scope lpos] [] pos) (LamX.tLam T TT t) := by
  obtain ⟨g, pg, bg, sg, kV, doc, pm, cdv, ct, oc, an, od, osl, Ng, hm, hk, lk, hcg, hb, Sg, hNg, hva, hG⟩ := M.ex
  exact LamX.pe_lamcall hg hm hk lk hcg hb Sg hNg hva hG TB hcode hmT hu hr L hdef hbind hbody hdb hd hcd
end
/-! ### the end of a law that makes lambdas -/
def TabsIn (q : Program) (K : PySem.W.Frag) (h : Heap) : Prop := ∀ (x : Str) (c P : Addr), ((recsOf q).find? fun e => e.name == x).isSome = true → PySem.W.tabIn K x = some (c, P) → PySem.W.CodeHd h c P ∧ h.get? P = some { cls := .none, data := .fields #[] }
theorem walk_ofL {l : PySem.W.OpenLaw} {n k : Nat} {q : Program} {loose : List Str} {XP : (Str → Option Value) → Heap → Prop} {YP : World → Heap → Prop} {d : DefRec} {K : Params → PySem.W.Frag} {x : Str}
    (hn : l.most = some n) (hn2 : n ≤ sizeLine) (hdf : d.params.defaults = []) (hr : Room k callerA) (hY : ∀ (w : World) (h : Heap), YP w h → (K w.params).In h)
    (F : ∀ (w : World) (mg : Str → Option Value) (fa : Addr) (h : Heap), (K w.params).In h → h.Ns mainGlobals mg → mg d.name = some (.ref fa) → TabsIn q (K w.params) h → LamX.LawAtS l w (K w.params) CX0 k n x mg fa h) :
    PySem.W.WalkO q loose XP YP l.row.toRowW d [] (fun f vs => PySem.call f vs) := by
  refine Att.attach_callB hn hdf
    fun w s₀ s₁ mg mb fa o pm cd doc a vs ns G Y ho hd hcd hmg hobj hints hlen hbits hg => ?_
  have hK := hY w _ Y
  have tabs : TabsIn q (K w.params) s₁.heap := fun y c P hf ht => by
    obtain ⟨dL, hfd⟩ := Option.isSome_iff_exists.mp hf
    exact PySem.W.tab_of G.T hK hfd ht
  obtain ⟨fd, cs, sp, hT, nT, C, hb, hsp, hF⟩ := F w mg fa _ hK G.T.g hmg tabs
  exact LamX.law_callTs hK G.T.g G.T.b G.T.builtins G.T.nolimit hg hT nT C G.T.bmain hobj hints
    (Nat.le_trans hlen hn2) hr hF hb (fun H hH hS => hsp H a ns hlen hbits hH hS) fun H e s' z => z

def qLam (x : Str) : Str := x ++ ".<locals>." ++ "<lambda>"
/-- as Fun, its code object told -/
structure FunC (K : PySem.W.Frag) (x qual : Str) (st : Stmt) (f : Addr) (fd : FuncData) (cc : Addr) : Prop where
  ex : ∃ (oc : Value) (od : Option Addr) (kV doc pm : Value) (an : Option Addr) (ct : Value) (osl : Array (Option Value)),
    fd = PySem.W.fnOf x qual (defArgs st) (defBody st) (defScope st) .none kV doc pm an (.ref cc) ct ∧ K.lookup f = some ⟨oc, od, .func fd, osl⟩ ∧ PySem.W.codeIn K (.ref cc) qual = true
theorem funC_mk {K : PySem.W.Frag} {x qual : Str} {st : Stmt} {f cc : Addr} {oc : Value} {od an : Option Addr} {osl : Array (Option Value)} {kV doc pm ct : Value} (l : K.lookup f = some ⟨oc, od, .func (PySem.W.fnOf x qual (defArgs st) (defBody st) (defScope st) .none kV doc pm an (.ref cc) ct), osl⟩)
    (c : PySem.W.codeIn K (.ref cc) qual = true) : FunC K x qual st f (PySem.W.fnOf x qual (defArgs st) (defBody st) (defScope st) .none kV doc pm an (.ref cc) ct) cc := ⟨⟨oc, od, kV, doc, pm, an, ct, osl, rfl, l, c⟩⟩
/-- what a maker of lambdas has: its table at PP among the tables TS -/
structure Mkr (base : Heap) (mg : Str → Option Value) (cc PP : Addr) (x : Str) (TS : List (Addr × Str)) : Prop where
  tb : LamX.TabB base mg cc PP
  hm : (PP, qLam x) ∈ TS
  hu : ∀ p ∈ TS, p.1 = PP → p.2 = qLam x
section
variable {P : Program} {w : World} {K : PySem.W.Frag} {mg : Str → Option Value} {base : Heap}
theorem fun_okL {x qual : Str} {st : Stmt} {f cc : Addr} {fd : FuncData} {N ps : List Str} {k : Nat} {sp : Sp} (F : FunC K x qual st f fd cc) (S : FnScope N ps (defScope st)) (ln : ∀ vs H Q E, sp vs H Q E → vs.length = ps.length)
    (hbody : ∀ (A : Around) (outer : List Env) (s : Shared) (H : Hp) (vs : List V) (Q : VK) (E : XK), Room k (A.deeper (envOfC qual (defScope st) s.heap.objs.size f (.ref cc))) → sp vs H Q E →
      ∃ t, PSs (cxOf CX0 P w K mg base N qual (defScope st) f (.ref cc) A outer s H E).nox (defBody st) t ∧ t { nx := fun _ H' => Q .non H', rt := Q } (L2.start N vs) H) : FnOk P w K mg base CX0 (k + 1) f fd ps sp := by
  obtain ⟨oc, od, kV, doc, pm, an, ct, osl, rfl, lk, hcd⟩ := F.ex
  refine fn_of lk hcd S ln fun A outer s H vs Q E hr hsp => ?_
  obtain ⟨t, ht, hq⟩ := hbody A outer s H vs Q E hr hsp
  exact ⟨t, ht.nox, hq⟩
end
/-! ### the state of the later laws; what stands but the state and the tables -/
def IsSx (H : Hp) (st : Addr) : Prop := ∃ (a : Int) (b : Bool), H st = some (.lst [.int a, .bl b]) ∧ 0 ≤ a ∧ (b = false → a < 2147483647)
def Gx (st : Addr) (H H' : Hp) : Prop := (∀ b o, b ≠ st → (∀ ps, o ≠ .tbl ps) → H b = some o → H' b = some o) ∧ (IsSx H st → IsSx H' st) ∧ ∀ T, LamX.Tabs T H → LamX.Tabs T H'
theorem Gx.refl {st : Addr} {H : Hp} : Gx st H H := ⟨fun _ _ _ _ h => h, id, fun _ h => h⟩
theorem Gx.trans {st : Addr} {H H1 H2 : Hp} (a : Gx st H H1) (b : Gx st H1 H2) : Gx st H H2 := ⟨fun c o n z h => b.1 c o n z (a.1 c o n z h), fun h => b.2.1 (a.2.1 h), fun T h => b.2.2 T (a.2.2 T h)⟩
theorem gx_same {st : Addr} {H H' : Hp} (s : Same H H') : Gx st H H' := ⟨fun b o _ _ h => s b o h, fun ⟨a, b, h, r⟩ => ⟨a, b, s _ _ h, r⟩, fun T h => h.ext s⟩
theorem lst_tbl {xs : List V} : ∀ ps, HO.lst xs ≠ .tbl ps := fun ps z => by cases z
theorem tup_tbl {xs : List V} : ∀ ps, HO.tup xs ≠ .tbl ps := fun ps z => by cases z
theorem tabs_lst {T : List (Addr × Str)} {H : Hp} {D : Addr} {xs ys : List V} (e : H D = some (.lst xs)) (h : LamX.Tabs T H) : LamX.Tabs T (upd H D (.lst ys)) := fun p hp => by
  obtain ⟨ps, h1, h2, h3⟩ := h p hp
  refine ⟨ps, ?_, h2, fun pos cv hc => ?_⟩
  · rw [upd_ne (ne_of h1 e (by intro z; cases z))]
    exact h1
  · obtain ⟨c0, e1, e2⟩ := h3 pos cv hc
    refine ⟨c0, e1, ?_⟩
    rw [upd_ne (ne_of e2 e (by intro z; unfold LamX.CodeO at z; cases z))]
    exact e2
theorem gx_ext {st : Addr} {H H' : Hp} (e : LamX.ExtN H H') (t : ∀ T, LamX.Tabs T H → LamX.Tabs T H') : Gx st H H' := ⟨fun b o _ z h => e b o h z, fun ⟨a, b, h, r⟩ => ⟨a, b, e _ _ h lst_tbl, r⟩, t⟩
theorem Gx.sqT {st : Addr} {K : PySem.W.Frag} {H H' : Hp} {a : Addr} {xs : List V} (g : Gx st H H') (s : IsSx H st) (h : SqT K H a xs) : SqT K H' a xs := by
  obtain ⟨u, v, hs, _⟩ := s
  rcases h with (h | ⟨o, h⟩) | h
  · exact .inl (.inl (g.1 _ _ (ne_of h hs (by intro z; cases z)) tup_tbl h))
  · exact .inl (.inr ⟨o, g.1 _ _ (ne_of h hs (by intro z; cases z)) (fun ps z => by cases z) h⟩)
  · exact .inr h
theorem Gx.tk {st : Addr} {K : PySem.W.Frag} {H H' : Hp} (g : Gx st H H') (s : IsSx H st) : TKeep K H H' := fun _ _ h => g.sqT s h
/-- what stood before the law's state was made -/
theorem Gx.sqL {st : Addr} {K : PySem.W.Frag} {H H' : Hp} {a : Addr} {xs : List V} (g : Gx st H H') (n : a ≠ st) (h : SqL K H a xs) : SqL K H' a xs := by
  rcases h with (h | ⟨o, h⟩) | h
  · exact .inl (.inl (g.1 _ _ n lst_tbl h))
  · exact .inl (.inr ⟨o, g.1 _ _ n (fun ps z => by cases z) h⟩)
  · exact .inr h
theorem sx_ne {H : Hp} {st p : Addr} (s : IsSx H st) (h : H p = none) : p ≠ st := by
  obtain ⟨a, b, e, _⟩ := s
  exact fun z => by rw [z, e] at h; cases h
theorem gx_set {st : Addr} {H : Hp} {a : Int} {b : Bool} {xs : List V} (e : H st = some (.lst xs)) (h0 : 0 ≤ a) (h1 : b = false → a < 2147483647) : Gx st H (upd H st (.lst [.int a, .bl b])) :=
  ⟨fun c o n _ h => by rw [upd_ne n]; exact h, fun _ => ⟨a, b, upd_same, h0, h1⟩, fun T h => tabs_lst e h⟩
theorem gx_upd {st D : Addr} {H0 H : Hp} {xs : List V} (g : Gx st H0 H) (n0 : H0 D = none) (nD : D ≠ st) (eD : H D = some (.lst xs)) (ys : List V) : Gx st H0 (upd H D (.lst ys)) :=
  ⟨fun b o n z h => by rw [upd_ne (ne_of_none h n0)]; exact g.1 b o n z h, fun s => by
    obtain ⟨a, b, e, r⟩ := g.2.1 s
    exact ⟨a, b, by rw [upd_ne (Ne.symm nD)]; exact e, r⟩, fun T h => tabs_lst eD (g.2.2 T h)⟩
/-- the same with the law's own tables alone -/
def Gw (TS : List (Addr × Str)) (st : Addr) (H H' : Hp) : Prop := (∀ b o, b ≠ st → (∀ ps, o ≠ .tbl ps) → H b = some o → H' b = some o) ∧ (IsSx H st → IsSx H' st) ∧ (LamX.Tabs TS H → LamX.Tabs TS H')
theorem Gw.refl {TS : List (Addr × Str)} {st : Addr} {H : Hp} : Gw TS st H H := ⟨fun _ _ _ _ h => h, id, id⟩
theorem Gw.trans {TS : List (Addr × Str)} {st : Addr} {H H1 H2 : Hp} (a : Gw TS st H H1) (b : Gw TS st H1 H2) : Gw TS st H H2 := ⟨fun c o n z h => b.1 c o n z (a.1 c o n z h), fun h => b.2.1 (a.2.1 h), fun h => b.2.2 (a.2.2 h)⟩
theorem Gx.l {TS : List (Addr × Str)} {st : Addr} {H H' : Hp} (g : Gx st H H') : Gw TS st H H' := ⟨g.1, g.2.1, g.2.2 TS⟩
theorem gw_same {TS : List (Addr × Str)} {st : Addr} {H H' : Hp} (s : Same H H') : Gw TS st H H' := (gx_same s).l
theorem gw_ext {TS : List (Addr × Str)} {st : Addr} {H H' : Hp} (e : LamX.ExtN H H') (t : LamX.Tabs TS H') : Gw TS st H H' := ⟨fun b o _ z h => e b o h z, fun ⟨a, b, h, r⟩ => ⟨a, b, e _ _ h lst_tbl, r⟩, fun _ => t⟩
theorem Gw.tk {TS : List (Addr × Str)} {st : Addr} {K : PySem.W.Frag} {H H' : Hp} (g : Gw TS st H H') (s : IsSx H st) : TKeep K H H' := fun a xs h => by
  obtain ⟨u, v, hs, _⟩ := s
  rcases h with (h | ⟨o, h⟩) | h
  · exact .inl (.inl (g.1 _ _ (ne_of h hs (by intro z; cases z)) tup_tbl h))
  · exact .inl (.inr ⟨o, g.1 _ _ (ne_of h hs (by intro z; cases z)) (fun ps z => by cases z) h⟩)
  · exact .inr h
theorem ExtN.tk {K : PySem.W.Frag} {H H' : Hp} (e : LamX.ExtN H H') : TKeep K H H' := fun a xs h => by
  rcases h with (h | ⟨o, h⟩) | h
  · exact .inl (.inl (e _ _ h tup_tbl))
  · exact .inl (.inr ⟨o, e _ _ h (fun ps z => by cases z)⟩)
  · exact .inr h
/-- what stands in a law between two of its states -/
structure Go (TS : List (Addr × Str)) (H H' : Hp) : Prop where
  e : LamX.ExtN H H'
  t : LamX.Tabs TS H'
theorem Go.sqL {TS : List (Addr × Str)} {K : PySem.W.Frag} {H H' : Hp} {a : Addr} {xs : List V} (g : Go TS H H') (h : SqL K H a xs) : SqL K H' a xs := by
  rcases h with (h | ⟨o, h⟩) | h
  · exact .inl (.inl (g.e _ _ h lst_tbl))
  · exact .inl (.inr ⟨o, g.e _ _ h (fun ps z => by cases z)⟩)
  · exact .inr h
theorem Gw.go {TS : List (Addr × Str)} {st : Addr} {H0 H H1 H2 : Hp} (g : Gw TS st H1 H2) (o : Go TS H0 H) (s : Same H H1) (n : H st = none) : Go TS H0 H2 :=
  ⟨fun b u h z => g.1 b u (ne_of_none (o.e b u h z) n) z (s _ _ (o.e b u h z)), g.2.2 (o.t.ext s)⟩

/-! ### refusals with fields -/
def clsB (s : Stmt) (i : Nat) : Stmt := match s with
  | .ClassDef _ _ _ b _ _ _ _ _ _ _ => b.getD i (.Pass ⟨0, 0, 0, 0⟩)
  | _ => .Pass ⟨0, 0, 0, 0⟩
/-- the class at C is made by its own __init__, which keeps sp -/
structure IniT (P : Program) (w : World) (K : PySem.W.Frag) (mg : Str → Option Value) (base : Heap) (C : Addr) (n : Nat) (sp : Sp) : Prop where
  ex : ∃ (fI : Addr) (fd : FuncData) (ps : List Str), OexC K C ∧ PySem.W.findIn K (.ref C) "__init__" = some (some (.ref fI)) ∧ PySem.W.typeIn K (.ref fI) = some (.type "function") ∧ FnOk P w K mg base CX0 1 fI fd ps sp ∧ Binds K fd ps []
theorem pmk_init {X : Cx} {C : Addr} {n : Nat} {sp : Sp} {x : Str} {e : Expr} {es : List Expr} {ta : TA} {p pos : Pos} (I : IniT X.prog X.w X.K X.mg X.base C n sp) (hr : Room 2 X.A) (hg : Gl X x) (hm : X.mg x = some (.ref C)) (ha : PA X (e :: es) ta)
    (hdb : (x == ("__debug__" : Str)) = false := by decide) (he : starEach (e :: es) X.env = (false, eval e X.env) :: starEach es X.env := by rfl) (hpl : (backTo pos (starEach es X.env)).any (·.1) = false := by rfl) :
    PMk X (.Call (.Name x p) (e :: es) [] pos) (tMkO C sp [] ta) := by
  obtain ⟨fI, fd, ps, o, i, t, F, b⟩ := I.ex
  exact pmk_oex o i t F hr b .nil pass0 hg hm ha hdb he hpl
/-- a wish may lean on how many slots there are -/
theorem takes_len {X : Cx} {W : WX} (tk : Takes X W) : Takes X (fun cls d σ H => σ.length = X.N.length → W cls d σ H) := fun u s' ⟨a, B, sI, pins, σ, H, cls, d, e, I, nb, up, sky, na, os, ag, hw⟩ =>
  tk u s' ⟨a, B, sI, pins, σ, H, cls, d, e, I, nb, up, sky, na, os, ag, hw I.len⟩
theorem HasXd.sm {d : Option Addr} {H H' : Hp} (h : HasXd d H) (s : Same H H') : HasXd d H' := fun dd e => by
  obtain ⟨fs, hf⟩ := h dd e
  exact ⟨fs, s _ _ hf⟩
theorem bits_count (i : Nat) (h : i < 16) : (bits i).count true = 1 := by
  have : ∀ i, i < 16 → (bits i).count true = 1 := by decide
  exact this i h
theorem bits_at (i j : Nat) (h : j < 16) : ((bits i).map V.bl)[j]? = some (.bl (decide (i = j))) := by
  unfold bits
  rw [List.map_map, List.getElem?_map, List.getElem?_range h]
  rfl
theorem run_ex {X : Cx} {st : List Stmt} {pins : List (Addr × Obj)} {s : Shared} {σ : L2.St} {H : Hp} {D : Ends} (h : ∃ t, PSs X st t ∧ t D σ H) (I : Inv X pins σ H s) :
    wpAny (model X.prog X.w) X.A (execs st X.env) (SP X pins D) X.xe s := by
  obtain ⟨t, h1, h2⟩ := h
  exact h1.run pins s σ H D I h2

theorem sl_any {K : PySem.W.Frag} {H : Hp} {a : Addr} {xs : List V} {lo hi : Option Int} {R : VK} (hS : SqT K H a xs) (h : ∀ H' p, Same H H' → SqT K H' p (cutV xs lo hi) → R (.ref p) H') : rSlA K (.ref a) lo hi H R :=
  ⟨a, xs, rfl, hS, fun w => h H a (Same.refl _) (by rw [cut_whole w]; exact hS), fun _ p np => h _ p (same_upd np) (.inl (.inl upd_same))⟩
theorem cat_any {K : PySem.W.Frag} {H : Hp} {a b : Addr} {xs ys : List V} {R : VK} (ha : SqT K H a xs) (hb : SqT K H b ys) (hz : xs.length + ys.length ≤ 1000) (h : ∀ H' p, Same H H' → SqT K H' p (xs ++ ys) → R (.ref p) H') : rCatA K (.ref a) (.ref b) H R :=
  ⟨a, b, xs, ys, rfl, rfl, ha, hb, Nat.le_of_lt (small1000 hz), fun e => h H b (Same.refl _) (by rw [e]; exact hb), fun _ e => h H a (Same.refl _) (by rw [e, List.append_nil]; exact ha), fun _ _ p np => h _ p (same_upd np) (.inl (.inl upd_same))⟩
theorem Sd.st {k : Nat} {x : Str} (h : PyData.strOk x = true) : Sd k (.str x) := ⟨h, Nat.zero_le _⟩
theorem sd_mv (m : MV) : Sd 1 (mvD m) := Sd.tup fun e he => by
  rcases mem3 he with rfl | rfl | rfl <;> exact Sd.int _
theorem sd_bk (o : Option Int) : Sd 0 (bkD o) := by
  cases o with
  | none => exact Sd.none
  | some i => exact Sd.int i
theorem sd_ly (l : LY) : Sd 3 (lyD l) := Sd.tup fun e he => by
  rcases mem2 he with rfl | rfl
  · exact Sd.tup fun z hz => by
      obtain ⟨r, _, rfl⟩ := List.mem_map.mp hz
      exact sd_rw r
  · exact (sd_bk _).more (by omega)
theorem sd_win (x y : Int) (ms : List MV) : Sd 3 (winD x y ms) := Sd.tup fun e he => by
  rcases mem3 he with rfl | rfl | rfl
  · exact Sd.int _
  · exact Sd.int _
  · exact Sd.tup fun z hz => by
      obtain ⟨m, _, rfl⟩ := List.mem_map.mp hz
      exact sd_mv m
theorem sd_sh (ls : List LY) (x y : Int) (ms : List MV) : Sd 5 (shD ls x y ms) := Sd.tup fun e he => by
  rcases mem2 he with rfl | rfl
  · exact Sd.tup fun z hz => by
      obtain ⟨l, _, rfl⟩ := List.mem_map.mp hz
      exact sd_ly l
  · exact (sd_win x y ms).more (by omega)
/-- what met tells, as data -/
def toldD (d : PyData) : PyData := .tuple [.str "told", d]
def refD (i : Int) : PyData := .tuple [.str "refused", .int i]
def manyD (m n : Int) : PyData := .tuple [.str "many", .tuple [.int m, .int n]]
theorem sd_told {k : Nat} {d : PyData} (h : Sd k d) : Sd (k + 1) (toldD d) := Sd.tup fun e he => by
  rcases mem2 he with rfl | rfl
  · exact Sd.st (by decide +kernel)
  · exact h
theorem sd_ref (i : Int) : Sd 1 (refD i) := Sd.tup fun e he => by
  rcases mem2 he with rfl | rfl
  · exact Sd.st (by decide +kernel)
  · exact Sd.int i
theorem sd_many (m n : Int) : Sd 2 (manyD m n) := Sd.tup fun e he => by
  rcases mem2 he with rfl | rfl
  · exact Sd.st (by decide +kernel)
  · exact Sd.tup fun z hz => by rcases mem2 hz with rfl | rfl <;> exact Sd.int _
theorem told_dp {K : PySem.W.Frag} {H : Hp} {p : Addr} {v : V} {d : PyData} (h : SqT K H p [.str "told", v]) (hv : Dp K H v d) : Dp K H (.ref p) (toldD d) := .tup h (.cons (.str _) (.cons hv .nil))
theorem ref_dp {K : PySem.W.Frag} {H : Hp} {p : Addr} {i : Int} (h : SqT K H p [.str "refused", .int i]) : Dp K H (.ref p) (refD i) := .tup h (.cons (.str _) (.cons (.int i) .nil))
theorem many_dp {K : PySem.W.Frag} {H : Hp} {p q : Addr} {m n : Int} (h : SqT K H p [.str "many", .ref q]) (hq : SqT K H q [.int m, .int n]) : Dp K H (.ref p) (manyD m n) := .tup h (.cons (.str _) (.cons (.tup hq (.cons (.int m) (.cons (.int n) .nil))) .nil))
/-- != of two things of the same data -/
theorem ne_eqd {K : PySem.W.Frag} {H : Hp} {x y : V} {d : PyData} {Q : VK} (hx : Dp K H x d) (hy : Dp K H y d) (sd : ∃ k, Sd k d ∧ k ≤ 64) (q : Q (.bl false) H) : rNeD K x y H Q := by
  obtain ⟨k, s, hk⟩ := sd
  exact ne_same hx hy s hk q
/-- data that stands as long as the tuples do -/
def Dk (K : PySem.W.Frag) (H : Hp) (v : V) (d : PyData) : Prop := ∀ H', TKeep K H H' → Dp K H' v d
theorem Dk.keep {K : PySem.W.Frag} {H H' : Hp} {v : V} {d : PyData} (h : Dk K H v d) (k : TKeep K H H') : Dk K H' v d := fun H2 k2 => h H2 fun a xs z => k2 _ _ (k _ _ z)
theorem Dk.dp {K : PySem.W.Frag} {H : Hp} {v : V} {d : PyData} (h : Dk K H v d) : Dp K H v d := h H fun _ _ z => z
theorem ShAt.dk {K : PySem.W.Frag} {H : Hp} {v : V} {ls : List LY} {x y : Int} {ms : List MV} (h : ShAt K H v ls x y ms) : Dk K H v (shD ls x y ms) := fun H' k => (h.keep k).dp
theorem LyAt.dk {K : PySem.W.Frag} {H : Hp} {v : V} {l : LY} (h : LyAt K H v l) : Dk K H v (lyD l) := fun H' k => (LyAt.keep k h).dp
theorem told_dk {K : PySem.W.Frag} {H : Hp} {p : Addr} {v : V} {d : PyData} (h : SqT K H p [.str "told", v]) (hv : Dk K H v d) : Dk K H (.ref p) (toldD d) := fun H' k => told_dp (k _ _ h) (hv H' k)
theorem ref_dk {K : PySem.W.Frag} {H : Hp} {p : Addr} {i : Int} (h : SqT K H p [.str "refused", .int i]) : Dk K H (.ref p) (refD i) := fun H' k => ref_dp (k _ _ h)
theorem many_dk {K : PySem.W.Frag} {H : Hp} {p q : Addr} {m n : Int} (h : SqT K H p [.str "many", .ref q]) (hq : SqT K H q [.int m, .int n]) : Dk K H (.ref p) (manyD m n) := fun H' k => many_dp (k _ _ h) (k _ _ hq)
theorem pi_listK {X : Cx} {K : PySem.W.Frag} {tg l : Expr} {tl : TE} (hl : PE X l tl) (hK : X.K = K := by rfl) : PI X tg l (iList K tl) := by
  subst hK
  exact pi_list hl
theorem pi_tupK {X : Cx} {K : PySem.W.Frag} {tg l : Expr} {tl : TE} (hl : PE X l tl) (hK : X.K = K := by rfl) : PI X tg l (iTup K tl) := by
  subst hK
  exact pi_tup hl
/-- is not, of two truths -/
theorem op_notB {X : Cx} : OpR X (compareOp .IsNot) (fun x y H Q => ∃ a b, x = .bl a ∧ y = .bl b ∧ Q (.bl (!decide (a = b))) H) := by
  intro pins s σ H x y v u Q I rx ry h
  obtain ⟨a, b, rfl, rfl, q⟩ := h
  cases rx
  cases ry
  show wpAny _ _ ((isSame (Value.bool a) (Value.bool b)) >>= fun z => pure (Value.bool (!z))) _ _ s
  exact wpAny_bind (wpAny_isSame_plain rfl (wpAny_pure (fin_bl I q (by cases a <;> cases b <;> rfl))))

/-! ### a try whose body always refuses, the caught error kept in a name beyond the clause -/
/-- the context with one more thing that stands still -/
abbrev pnd (X : Cx) (p : Addr × Obj) : Cx := { X with pn := p :: X.pn }
theorem pnd_ok {X : Cx} {p : Addr × Obj} (ok : X.Ok) : (pnd X p).Ok := ok.toTry (p :: X.pn) X.xe
theorem inv_pnd {X : Cx} {p : Addr × Obj} {pins : List (Addr × Obj)} {σ : L2.St} {H : Hp} {s : Shared} (I : Inv X (p :: pins) σ H s) : Inv (pnd X p) pins σ H s :=
  ⟨pnd_ok I.ok, I.os, I.bare, I.base, I.loc, I.cell, I.free, I.freeC, fun q hq => I.pin q (by
    rcases List.mem_append.mp hq with h | h
    · rcases List.mem_cons.mp h with e | h
      · exact List.mem_append_right _ (by rw [e]; exact List.mem_cons_self)
      · exact List.mem_append_left _ h
    · exact List.mem_append_right _ (List.mem_cons_of_mem _ h)), I.hok, I.len⟩
theorem inv_unpnd {X : Cx} {p : Addr × Obj} {pins : List (Addr × Obj)} {σ : L2.St} {H : Hp} {s : Shared} (ok : X.Ok) (I : Inv (pnd X p) pins σ H s) : Inv X pins σ H s :=
  ⟨ok, I.os, I.bare, I.base, I.loc, I.cell, I.free, I.freeC, fun q hq => I.pin q (by
    rcases List.mem_append.mp hq with h | h
    · exact List.mem_append_left _ (List.mem_cons_of_mem _ h)
    · exact List.mem_append_right _ h), I.hok, I.len⟩
/-- behind the clause the caught one still stands -/
theorem inv_behind {X : Cx} {a : Addr} {oe : Obj} {pins pn' : List (Addr × Obj)} {σ : L2.St} {H : Hp} {s : Shared} (ok : X.Ok) (I : Inv (X.suite a ((a, oe) :: (X.pn ++ pins))) pn' σ H s) : Inv X ((a, oe) :: pins) σ H s :=
  ⟨ok, I.os, I.bare, I.base, I.loc, I.cell, I.free, I.freeC, fun q hq => I.pin q (List.mem_append_left _ (by
    rcases List.mem_append.mp hq with h | h
    · exact List.mem_cons_of_mem _ (List.mem_append_left _ h)
    · rcases List.mem_cons.mp h with e | h
      · rw [e]
        exact List.mem_cons_self
      · exact List.mem_cons_of_mem _ (List.mem_append_right _ h))), I.hok, I.len⟩
/-- no way goes on but by what is caught -/
def noEnds : Ends := { nx := fun _ _ => False, rt := fun _ _ => False, bk := fun _ _ => False, ct := fun _ _ => False }
/-- what is wished of a refusal: the clause takes it, its suite ends, and the rest is read with it -/
def wKeep (K : PySem.W.Frag) (c : Value) (i : Nat) (ts tr : Addr → Value → Option Addr → TS) (D : Ends) : WX := fun cls d σ H =>
  PySem.W.exmOne K cls c = some true ∧ ∀ a, H a = none → ts a cls d { noEnds with nx := fun σ' H' => tr a cls d D (σ'.set i none) H' } (σ.set i (some (.ref a))) H
section
variable {X : Cx} {x n : Str} {c : Value} {i : Nat} {body suite rest : List Stmt} {b₀ : Stmt} {np pos pos' : Pos} {tb : WX → TS} {ts tr : Addr → Value → Option Addr → TS}
theorem pss_keep (hs : X.stack = X.env :: X.outer) (hf : X.env.frame = some X.env.locals) (hN : X.N.Nodup) (hi : X.N[i]? = some n) (hln : X.env.kindOf n = some .local) (hc : Names X x c)
    (hb : ∀ (W : WX) (pn : List (Addr × Obj)) (xe : Value → Shared → Prop), Takes (X.tr pn xe) W → PSs (X.tr pn xe) body (tb W))
    (hsu : ∀ (a : Addr) (oe : Obj) (cls : Value) (d : Option Addr) (pn : List (Addr × Obj)), Zc cls d oe → (∃ vs, oe.data = .fields vs) → PSs (X.suite a ((a, oe) :: pn)) (b₀ :: suite) (ts a cls d))
    (hre : ∀ (a : Addr) (oe : Obj) (cls : Value) (d : Option Addr), Zc cls d oe → (∃ vs, oe.data = .fields vs) → PSs (pnd X (a, oe)) rest (tr a cls d)) :
    PSs X (.Try body [.ExceptHandler (some (.Name x np)) (some n) (b₀ :: suite) pos'] [] [] pos :: rest) (fun D σ H => tb (wKeep X.K c i ts tr D) noEnds σ H) := by
  refine ⟨fun pins s σ H D I h => wpAny_execs_cons (wpAny_Try_except ?_)⟩
  have ok := I.ok
  have frm : X.A.frames = some (X.env :: X.outer) := ok.frames.trans (congrArg some hs)
  refine wpAny_mono ((hb (wKeep X.K c i ts tr D) (X.pn ++ pins) _ fun u s' xx => ?_).run [] s σ H noEnds (I.toTry _) h) (fun f s1 z => ?_) (fun _ _ z => z)
  · obtain ⟨a, B, sI, _, σ1, H1, cls, d, rfl, J0, nb, up, sky, na, os, ag, take, go⟩ := xx
    have J : Inv X pins σ1 H1 sI := J0.ofTry ok
    rw [show (X.tr (X.pn ++ pins) _).stack = X.env :: X.outer from hs] at sky
    refine Sky.land Zc.steady frm hf sky fun hA flA upA => ?_
    have off : ∀ {hh : Heap}, HandSPX.FlyingZ B (X.env :: X.outer) a (Zc cls d) hh → a ≠ X.env.locals ∧ a ∉ X.fs ∧ ∃ oe, hh.get? a = some oe ∧ Zc cls d oe ∧ ∃ vs, oe.data = .fields vs := fun {hh} fl => by
      obtain ⟨oe, vs, e1, e2, e3⟩ := fl.there
      have nf : a ∉ frs (X.env :: X.outer) := fun m => by
        obtain ⟨_, o2, q1, q2⟩ := fl.2.2.1.mem m
        cases e1.symm.trans q1
        exact q2 _ e3
      refine ⟨fun q => nf (List.mem_filterMap.mpr ⟨X.env, List.mem_cons_self, hf.trans (congrArg some q.symm)⟩), fun m => nf ?_, oe, e1, e2, vs, e3⟩
      obtain ⟨en, m1, m2⟩ := List.mem_filterMap.mp m
      exact List.mem_filterMap.mpr ⟨en, List.mem_cons_of_mem _ m1, m2⟩
    obtain ⟨nL, nF, oA, eA, zA, vA, dA⟩ := off flA
    have JA : Inv X pins σ1 H1 { s' with heap := hA } := J.landed nb flA.1 (up.trans upA) os ag
    have SA := JA.suite eA dA na nL nF
    have tells : PySem.W.Looks (model X.prog X.w) hA (typeOf (.ref a)) cls := fun A Q E s k q => wpAny_typeOf_ref (k _ _ eA) (by rw [zA.1]; exact q)
    refine wpAny_handleBy_cons (codeAny_handlers_test ?_) (fun q => nomatch q)
    have named : ∀ {Q E : Value → Shared → Prop}, Q c { s' with heap := hA } → wpAny (model X.prog X.w) (X.A.mark (some (.ref a))) (eval (.Name x np) X.env) Q E { s' with heap := hA } := fun {Q E} q => by
      obtain ⟨g1, g2, g3⟩ := hc
      rcases g3 with m | ⟨m, b1, b2⟩
      · exact ld_glob (X := X.suite a ((a, oA) :: (X.pn ++ pins))) SA g1 m q g2
      · exact ld_blt (X := X.suite a ((a, oA) :: (X.pn ++ pins))) SA g1 m b1 q b2 g2
    refine named ((PySem.W.exm_one (M := model X.prog X.w) JA.kIn tells take).here ?_)
    refine codeAny_handlers_suite_as (HandSPX.lands_againZ flA fun hB flB upB => ?_)
    obtain ⟨_, _, oB, eB, zB, vB, dB⟩ := off flB
    have SB := (J.landed (s' := { s' with heap := hB }) nb flB.1 ((up.trans upA).trans upB) os ag).suite eB dB na nL nF
    refine store_ok (X := X.suite a ((a, oB) :: (X.pn ++ pins))) (v := .ref a) SB hN hi (.inl hln) rfl (fun sC SC => ?_) (.inr hln)
    refine wpAny_mono ((hsu a oB cls d (X.pn ++ pins) zB ⟨vB, dB⟩).run [] sC _ H1 _ SC (go a na)) (fun f sD z => ?_) (fun _ _ z => False.elim z)
    cases f with
    | next =>
      obtain ⟨σD, HD, ID, q⟩ := z
      refine gone_ok (inv_behind ok ID) hN hi hln fun sE IE => ?_
      refine wpAny_mono ((hre a oB cls d zB ⟨vB, dB⟩).run pins sE _ HD D (inv_pnd IE) q) (fun f sF z => ?_) (fun _ _ z => z)
      cases f with
      | next => exact z.imp fun _ z => z.imp fun _ z => ⟨inv_unpnd ok z.1, z.2⟩
      | brk => exact z.imp fun _ z => z.imp fun _ z => ⟨inv_unpnd ok z.1, z.2⟩
      | cont => exact z.imp fun _ z => z.imp fun _ z => ⟨inv_unpnd ok z.1, z.2⟩
      | ret u => exact z.imp fun _ z => z.imp fun _ z => z.imp fun _ z => ⟨inv_unpnd ok z.1, z.2⟩
    | brk => exact z.elim fun _ z => z.elim fun _ z => z.2.elim
    | cont => exact z.elim fun _ z => z.elim fun _ z => z.2.elim
    | ret u => exact z.elim fun _ z => z.elim fun _ z => z.elim fun _ z => z.2.2.elim
  · cases f with
    | next => exact z.elim fun _ z => z.elim fun _ z => z.2.elim
    | brk => exact z.elim fun _ z => z.elim fun _ z => z.2.elim
    | cont => exact z.elim fun _ z => z.elim fun _ z => z.2.elim
    | ret u => exact z.elim fun _ z => z.elim fun _ z => z.elim fun _ z => z.2.2.elim
end

/-! ### the end of a law that makes lambdas and calls repr -/
section
variable {P : Program} {w : World} {K : PySem.W.Frag} {mg : Str → Option Value}
theorem fun_okLG {base : Heap} {x qual : Str} {st : Stmt} {f cc : Addr} {fd : FuncData} {N ps : List Str} {k : Nat} {sp : Sp} (F : FunC K x qual st f fd cc) (S : FnScope N ps (defScope st)) (ln : ∀ vs H Q E, sp vs H Q E → vs.length = ps.length)
    (hbody : ∀ (A : Around) (outer : List Env) (s : Shared) (H : Hp) (vs : List V) (Q : VK) (E : XK), A.guards = some [] → Room k (A.deeper (envOfC qual (defScope st) s.heap.objs.size f (.ref cc))) → sp vs H Q E →
      ∃ t, PSs (cxOf CX0 P w K mg base N qual (defScope st) f (.ref cc) A outer s H E).nox (defBody st) t ∧ t { nx := fun _ H' => Q .non H', rt := Q } (L2.start N vs) H) : FnG P w K mg base (k + 1) f fd ps sp := by
  obtain ⟨oc, od, kV, doc, pm, an, ct, osl, e, l, c⟩ := F.ex
  have D : DefAt K x qual st f fd (.ref cc) := ⟨⟨kV, doc, pm, an, ct, e⟩, ⟨oc, od, osl, l⟩, c⟩
  refine ⟨ln, fun A outer s H args us vs Q E hgu hr e0 hb r hsp => D.call S hr.depth e0 hb fun s1 begun => ?_⟩
  obtain ⟨t, ht, hq⟩ := hbody A outer s H vs Q E hgu (hr.deeper _) hsp
  exact thn (ht.nox.run [] s1 _ H _ (inv_start S hr.hd e0 (ln _ _ _ _ hsp) r begun) hq) fun _ _ h => given_by rfl h
/-- the law's call from such a promise, the tables of its code objects told -/
theorem law_callGT {mb : Str → Option Value} {k : Nat} {fa a : Addr} {cs : List (Addr × Addr)} {fd : FuncData} {x : Str} {sp : Sp} {s₁ : Shared} {vs : List Value} {ns : List Int}
    (KX : K.In s₁.heap) (hns : s₁.heap.Ns mainGlobals mg) (hb : s₁.heap.Ns builtinsNs mb) (hbb : ∀ x : Str, x ≠ "__name__" → mb x = bootBuiltins x) (hlim : s₁.heap.NoLimit) (hge : s₁.gens = #[])
    (hT : ∀ p ∈ cs, s₁.heap.get? p.2 = some { cls := .none, data := .fields #[] }) (nT : ∀ p ∈ cs, K.lookup p.2 = none) (hC : ∀ p ∈ cs, PySem.W.CodeHd s₁.heap p.1 p.2)
    (hbm : ∃ (bm : Addr) (ob : Obj), mg "__builtins__" = some (.ref bm) ∧ bm ≠ builtinsNs ∧ s₁.heap.get? bm = some ob ∧ ob.cls = .type "module" ∧ ob.dict = some builtinsNs ∧ ob.data = .plain)
    (ha : s₁.heap.get? a = some { cls := .type "list", data := .seq vs.toArray }) (hi : IntsAre vs ns) (hl : ns.length ≤ sizeLine) (hr : Room k callerA)
    (F : ∀ base : Heap, K.In base → base.Ns mainGlobals mg → (∀ p ∈ cs, LamX.TabB base mg p.1 p.2) → FnG P w K mg base k fa fd [x] sp)
    (hbind : ∀ (s : Shared) (u : Value), BindsTo s fd ⟨[u], []⟩ [(x, u)])
    (hsp : ∀ H : Hp, (∀ p ∈ cs, H p.2 = some (.tbl #[])) → SqL K H a (ns.map V.int) → sp [.ref a] H (fun v _ => v = .bl true) fun _ _ _ => False) :
    codeAny (model P w) callerA (.call (.ref fa) ⟨[.ref a], []⟩)
      (fun r s' => r = .ok (.ret (.bool true)) ∧ OldK s₁.heap s'.heap ∧ s'.os = s₁.os ∧ AllBare s'.gens) s₁ := by
  have rv := vals_ints hi
  have lv := hi.length
  have tab : ∀ {b : Addr}, (∃ p ∈ cs, p.2 = b) → s₁.heap.get? b = some { cls := .none, data := .fields #[] } := fun {b} ⟨p, hp, e⟩ => e ▸ hT p hp
  have atab : ¬ ∃ p ∈ cs, p.2 = a := fun z => by
    have e := (tab z).symm.trans ha
    cases e
  have hex : ∃ H : Hp, (∀ b, (∃ p ∈ cs, p.2 = b) → H b = some (.tbl #[])) ∧ (K.lookup a = none → H a = some (.frz { cls := .type "list", data := .seq vs.toArray } (.lst (ns.map V.int)))) ∧
      ∀ b u, H b = some u → ((∃ p ∈ cs, p.2 = b) ∧ u = .tbl #[]) ∨ (b = a ∧ K.lookup a = none ∧ u = .frz { cls := .type "list", data := .seq vs.toArray } (.lst (ns.map V.int))) := by
    refine ⟨fun b => (open Classical in if ∃ p ∈ cs, p.2 = b then some (.tbl #[]) else if b = a ∧ K.lookup a = none then some (.frz { cls := .type "list", data := .seq vs.toArray } (.lst (ns.map V.int))) else none), fun b z => if_pos z, fun z => (if_neg atab).trans (if_pos ⟨rfl, z⟩), fun b u e => ?_⟩
    by_cases c1 : ∃ p ∈ cs, p.2 = b
    · exact .inl ⟨c1, (Option.some.inj ((if_pos c1).symm.trans e)).symm⟩
    · have e := (if_neg c1).symm.trans e
      by_cases c2 : b = a ∧ K.lookup a = none
      · exact .inr ⟨c2.1, c2.2, (Option.some.inj ((if_pos c2).symm.trans e)).symm⟩
      · cases (if_neg c2).symm.trans e
  obtain ⟨H, hHt, hHa, some_of⟩ := hex
  have none_of : ∀ {b o}, s₁.heap.get? b = some o → (∀ q n, o.data ≠ .seq q n) → o.data ≠ .fields #[] → H b = none := by
    intro b o e d1 d2
    cases c : H b with
    | none => rfl
    | some u =>
      rcases some_of b u c with ⟨z, _⟩ | ⟨z, _, _⟩
      · cases (tab z).symm.trans e
        exact absurd rfl d2
      · rw [z, ha] at e
        cases e
        exact absurd rfl (d1 _ _)
  have hS : SqL K H a (ns.map V.int) := by
    cases hk : K.lookup a with
    | none => exact .inl (.inr ⟨_, hHa hk⟩)
    | some o =>
      have e := KX a o hk
      rw [ha] at e
      cases e
      refine .inr ⟨_, vs.toArray, _, hk, rfl, rfl, rfl, ?_, by simpa using rv⟩
      rw [List.size_toArray, lv]
      exact hl
  have hok : HOk P w H s₁.heap := by
    intro b u e
    rcases some_of b u e with ⟨z, rfl⟩ | ⟨rfl, _, rfl⟩
    · exact tab z
    · refine ⟨ha, ?_, vs, _, rv, ha⟩
      rw [List.length_map]
      exact hl
  have nsB : ∀ {b : Addr} {m : Str → Option Value}, s₁.heap.Ns b m → (hidT s₁.heap H).Ns b m := by
    rintro b m ⟨o, es, ep, e, d, r⟩
    exact ⟨o, es, ep, hidT_get e (none_of e (fun q n z => by rw [d] at z; cases z) (fun z => by rw [d] at z; cases z)), d, r⟩
  have kB : K.In (hidT s₁.heap H) := by
    intro b o e
    refine hidT_get (KX b o e) ?_
    cases c : H b with
    | none => rfl
    | some u =>
      rcases some_of b u c with ⟨⟨p, hp, rfl⟩, _⟩ | ⟨rfl, k0, _⟩
      · rw [nT p hp] at e
        cases e
      · rw [k0] at e
        cases e
  have md : Mod K mg (hidT s₁.heap H) := by
    obtain ⟨mc, h1, h2⟩ := hlim
    exact ⟨kB, nsB hns, ⟨mb, nsB hb, hbb⟩, ⟨mc, nsB h1, h2⟩⟩
  have mainD : ∀ {b o}, s₁.heap.get? b = some o → (∀ es ep, o.data ≠ .dict es ep) → mainGlobals ≠ b := fun {b o} e d z => by
    obtain ⟨o', es, ep, e', d', _⟩ := hns
    rw [z, e] at e'
    cases e'
    exact d es ep d'
  have TB : ∀ p ∈ cs, LamX.TabB (hidT s₁.heap H) mg p.1 p.2 := fun p hp => by
    refine ⟨?_, ?_, mainD (hT p hp) (fun es ep z => nomatch z)⟩
    · obtain ⟨o, us, file, tf, flags, tg, inF, text, tt, e1, e2, e3, e4, e5⟩ := hC p hp
      refine ⟨o, us, file, tf, flags, tg, inF, text, tt, hidT_get e1 (none_of e1 (fun q n z => ?_) fun z => ?_), e2, e3, e4, e5⟩
      · rw [e3] at z
        cases z
      · rw [e3] at z
        cases z
        cases e4
    · obtain ⟨bm, ob, b1, b2, b3, b4, b5, b6⟩ := hbm
      refine ⟨bm, ob, b1, b2, (mainD b3 (fun es ep z => by rw [b6] at z; cases z)).symm, fun z => ?_, hidT_get b3 (none_of b3 (fun q n z => by rw [b6] at z; cases z) (fun z => by rw [b6] at z; cases z)), b4, b5, b6⟩
      rw [z, hT p hp] at b3
      cases b3
      cases b6
  have e0 : Env0 P w K mg (hidT s₁.heap H) callerA [] s₁ H := by
    refine ⟨rfl, md, fun b o e => of_hidT e, Nat.le_of_eq (hidT_size _ _), trivial, ?_, hok, .of_eq hge⟩
    intro b hb
    exact absurd (show b ∈ ([] : List Addr) from hb) (by simp)
  have go := (F _ kB (nsB hns) TB).run callerA [] s₁ H ⟨[.ref a], []⟩ [.ref a] [.ref a] _ _ rfl hr e0
    (hbind s₁ (.ref a)) (.cons rfl .nil) (hsp H (fun p hp => hHt p.2 ⟨p, hp, rfl⟩) hS)
  refine codeAny_mono go fun r s' h => ?_
  cases r with
  | error e => exact h.elim
  | ok fl =>
    cases fl with
    | ret u =>
      obtain ⟨v, H', os, bare, un, hok', r', qv⟩ := h
      have qv' : v = .bl true := qv
      subst qv'
      obtain rfl : u = Value.bool true := r'
      have each : ∀ b o, s₁.heap.get? b = some o → s'.heap.get? b = some o ∨ ((∃ p ∈ cs, p.2 = b) ∧ ∃ more : Array Value, s'.heap.get? b = some { cls := .none, data := .fields more }) := fun b o e => by
        cases c : H b with
        | none =>
          refine .inl (un.keep b o e c ?_ (by simp))
          intro z
          exact absurd (show b ∈ ([] : List Addr) from z) (by simp)
        | some u =>
          rcases some_of b u c with ⟨z, rfl⟩ | ⟨_, _, rfl⟩
          · obtain ⟨more, q⟩ := un.tbls b #[] c
            exact .inr ⟨z, _, hok' b _ q⟩
          · have c2 := un.frzs b _ _ c
            obtain ⟨e1, _⟩ := hok b _ c
            obtain ⟨e2, _⟩ := hok' b _ c2
            rw [e] at e1
            cases e1
            exact .inl e2
      refine ⟨rfl, ⟨fun b o e => ?_, fun b o e => ?_⟩, os, bare⟩
      · rcases each b o e with z | ⟨⟨p, hp, rfl⟩, more, z⟩
        · exact .inl z
        · cases e.symm.trans (hT p hp)
          exact .inr (.inl ⟨((hC p hp).tab (hT p hp)).isCodeTable, rfl, #[], more, rfl, by rw [Array.empty_append]; exact z⟩)
      · rcases each b o e with z | ⟨_, more, z⟩
        · exact ⟨_, z⟩
        · exact ⟨_, z⟩
    | next => exact False.elim h
    | brk => exact False.elim h
    | cont => exact False.elim h
end
/-- what is known of such a law at the head's heap -/
def LawAtG (l : PySem.W.OpenLaw) (w : World) (K : PySem.W.Frag) (k n : Nat) (x : Str) (mg : Str → Option Value) (fa : Addr) (h : Heap) : Prop :=
  ∃ (fd : FuncData) (cs : List (Addr × Addr)) (sp : Sp), (∀ p ∈ cs, h.get? p.2 = some { cls := .none, data := .fields #[] }) ∧ (∀ p ∈ cs, K.lookup p.2 = none) ∧ (∀ p ∈ cs, PySem.W.CodeHd h p.1 p.2) ∧ (∀ (s : Shared) (u : Value), BindsTo s fd ⟨[u], []⟩ [(x, u)]) ∧
    (∀ (H : Hp) (a : Addr) (ns : List Int), ns.length ≤ n → (∀ p ∈ cs, H p.2 = some (.tbl #[])) → SqL K H a (ns.map V.int) → sp [.ref a] H (fun v _ => v = .bl true) fun _ _ _ => False) ∧
    ∀ base : Heap, K.In base → base.Ns mainGlobals mg → (∀ p ∈ cs, LamX.TabB base mg p.1 p.2) → FnG l.prog w K mg base k fa fd [x] sp
theorem walk_ofLG {l : PySem.W.OpenLaw} {n k : Nat} {q : Program} {loose : List Str} {XP : (Str → Option Value) → Heap → Prop} {YP : World → Heap → Prop} {d : DefRec} {K : Params → PySem.W.Frag} {x : Str}
    (hn : l.most = some n) (hn2 : n ≤ sizeLine) (hdf : d.params.defaults = []) (hr : Room k callerA) (hY : ∀ (w : World) (h : Heap), YP w h → (K w.params).In h)
    (F : ∀ (w : World) (mg : Str → Option Value) (fa : Addr) (h : Heap), (K w.params).In h → h.Ns mainGlobals mg → mg d.name = some (.ref fa) → TabsIn q (K w.params) h → LawAtG l w (K w.params) k n x mg fa h) :
    PySem.W.WalkO q loose XP YP l.row.toRowW d [] (fun f vs => PySem.call f vs) := by
  refine Att.attach_callB hn hdf
    fun w s₀ s₁ mg mb fa o pm cd doc a vs ns G Y ho hd hcd hmg hobj hints hlen hbits hg => ?_
  have hK := hY w _ Y
  have tabs : TabsIn q (K w.params) s₁.heap := fun y c P hf ht => by
    obtain ⟨dL, hfd⟩ := Option.isSome_iff_exists.mp hf
    exact PySem.W.tab_of G.T hK hfd ht
  obtain ⟨fd, cs, sp, hT, nT, C, hb, hsp, hF⟩ := F w mg fa _ hK G.T.g hmg tabs
  exact law_callGT hK G.T.g G.T.b G.T.builtins G.T.nolimit hg hT nT C G.T.bmain hobj hints
    (Nat.le_trans hlen hn2) hr hF hb fun H hH hS => hsp H a ns hlen hH hS
/-- f(e, ..) where nothing is being shown -/
structure ClG (P : Program) (w : World) (K : PySem.W.Frag) (mg : Str → Option Value) (base : Heap) (k : Nat) (x : Str) (ps : List Str) (sp : Sp) : Prop where
  ex : ∃ (f : Addr) (fd : FuncData), FnG P w K mg base k f fd ps sp ∧ PySem.W.keepIn K (.ref f) = true ∧ Binds K fd ps [] ∧ mg x = some (.ref f)

/-! ### lengths of texts put together -/
theorem js_len {a b : Str} {m n : Nat} (ha : a.length ≤ m) (hb : b.length ≤ n) : (a ++ b).length ≤ m + n := by
  rw [strLen_append]
  omega
theorem js_ok {a : Str} {m : Nat} (ha : a.length ≤ m) (h : m ≤ 1000) : a.length ≤ sizeLine := Nat.le_trans ha (Nat.le_of_lt (small1000 h))
theorem it_len {i : Int} (h : i.natAbs ≤ 1000000000) : (Str.ofString (toString i)).length ≤ 60 ∧ i.natAbs.log2 < 1920 := by
  have hl : i.natAbs.log2 < 41 := by
    rcases Nat.eq_zero_or_pos i.natAbs with e | e
    · rw [e]
      decide
    · exact (Nat.log2_lt (by omega)).mpr (Nat.lt_of_le_of_lt h (by decide))
  have := int_text_length_le (a := i) (k := 41) (by decide) hl
  rw [PySem.ofString_length]
  omega

/-! ### zip of a tuple and a list -/
def ItzM (K : PySem.W.Frag) (a b : Addr) : It :=
  ⟨fun i H => ∃ (xs ys : List V) (x y : V), SqT K H a xs ∧ SqL K H b ys ∧ xs[i]? = some x ∧ ys[i]? = some y,
    fun i H v H' => ∃ T x y, v = .ref T ∧ H T = none ∧ H' = upd H T (.tup [x, y]) ∧ (∀ xs, SqT K H a xs → xs[i]? = some x) ∧ ∀ ys, SqL K H b ys → ys[i]? = some y,
    fun i H => ∃ xs ys : List V, SqT K H a xs ∧ SqL K H b ys ∧ i = min xs.length ys.length⟩
theorem turn_zipM {P : Program} {w : World} {K : PySem.W.Frag} {elts : List Expr} {kk : Nat} {tpos : Pos} {a b z TI TO i1 i2 : Addr} (S : ZipSep2 z TI TO i1 i2 [i1, a] [i2, b]) (na : a ≠ i1) (nb : b ≠ i2) :
    Turn P w K (.Tuple elts kk tpos) (ItzM K a b) [z, TI, TO, i1, i2] z (fun i h => IsZip h z TI TO .none ∧ IsTupOf2 h TI (.ref i1) (.ref i2) ∧ (∃ x y, IsTupOf2 h TO x y) ∧ h.IsTupleIter i1 a i ∧ h.IsListIter i2 b i) where
  mem := List.mem_cons_self ..
  obj := fun i h ⟨hz, hTI, ⟨x, y, hTO⟩, ⟨o1, e1, _, d1⟩, ⟨o2, e2, _, d2⟩⟩ c hc => by
    simp only [List.mem_cons, List.not_mem_nil, or_false] at hc
    rcases hc with rfl | rfl | rfl | rfl | rfl
    · exact ⟨_, hz, fun v z => nomatch z⟩
    · exact ⟨_, hTI, fun v z => nomatch z⟩
    · exact ⟨_, hTO, fun v z => nomatch z⟩
    · exact ⟨o1, e1, fun v z => by rw [d1] at z; cases z⟩
    · exact ⟨o2, e2, fun v z => by rw [d2] at z; cases z⟩
  keep := fun i h h' ⟨hz, hTI, ⟨x, y, hTO⟩, h1, h2⟩ k =>
    ⟨k z (by simp) _ hz, k TI (by simp) _ hTI, ⟨x, y, k TO (by simp) _ hTO⟩,
      h1.at (fun o e => k i1 (by simp) o e), h2.at (fun o e => k i2 (by simp) o e)⟩
  item := by
    intro X eP ew eK hc i pins s σ H E I hf st hg
    subst eP ew eK
    obtain ⟨hz, hTI, hTO, h1, h2⟩ := st
    obtain ⟨xs, ys, x, y, sx, sy, hx, hy⟩ := hg
    obtain ⟨its, rv, p1, _⟩ := I.tuple sx
    obtain ⟨its2, rv2, p2, _⟩ := I.list sy
    obtain ⟨u, hu, ru⟩ := rv.get hx
    obtain ⟨u2, hu2, ru2⟩ := rv2.get hy
    have hd : X.A.in1.handled = none := by simp [I.ok.hd hc]
    have lu := (List.getElem?_eq_some_iff.mp hu).1
    have lu2 := (List.getElem?_eq_some_iff.mp hu2).1
    refine (GoesN.zip2 S (Draws.tuple hd i1 a na its.toArray) (Draws.list hd i2 b nb its2.toArray)).goes i s _ E
      (by simp only [List.size_toArray]; omega) ⟨hz, hTI, hTO, ⟨h1, p1⟩, ⟨h2, p2.isList⟩⟩
      fun v h' tk hY st' hk _ => ?_
    obtain ⟨T, v1, v2, rfl, hT, e1, e2, hpair⟩ := hY
    obtain ⟨hz', hTI', hTO', ⟨h1', _⟩, ⟨h2', _⟩⟩ := st'
    have ev1 : v1 = u := by
      have : its[i]? = some v1 := by simpa using e1
      exact Option.some.inj (this.symm.trans hu)
    have ev2 : v2 = u2 := by
      have : its2[i]? = some v2 := by simpa using e2
      exact Option.some.inj (this.symm.trans hu2)
    subst ev1 ev2
    have new : ObjOk X.prog X.w (upd H T (.tup [x, y])) h' T (.tup [x, y]) :=
      ⟨by show 2 ≤ sizeLine; decide, [v1, v2], .cons ru (.cons ru2 .nil), hpair⟩
    have J : Inv X pins σ (upd H T (.tup [x, y])) { s with heap := h', toks := tk } :=
      I.turnedNew (ch := [z, TI, TO, i1, i2]) (fun c o hb e => hk c o (fun m => hb (by
        simp only [List.mem_cons, List.not_mem_nil, or_false] at m ⊢
        rcases m with m | m | m | m <;> simp [m])) e) hf hT new
    refine ⟨.ref T, _, J, rfl, ⟨T, x, y, rfl, I.hok.fresh hT, rfl, fun l hl => ?_, fun l hl => ?_⟩, ⟨hz', hTI', hTO', h1', h2'⟩, fun c hcm => ?_⟩
    · rw [I.tuple_inj hl sx]
      exact hx
    · rw [I.list_inj hl sy]
      exact hy
    · have hlt : c < s.heap.objs.size := by
        obtain ⟨x0, y0, hTO⟩ := hTO
        obtain ⟨o1, g1, _⟩ := h1
        obtain ⟨o2, g2, _⟩ := h2
        simp only [List.mem_cons, List.not_mem_nil, or_false] at hcm
        rcases hcm with rfl | rfl | rfl | rfl | rfl
        · exact Heap.lt_size hz
        · exact Heap.lt_size hTI
        · exact Heap.lt_size hTO
        · exact Heap.lt_size g1
        · exact Heap.lt_size g2
      rw [upd_ne (Nat.ne_of_lt (Nat.lt_of_lt_of_le hlt hT))]
      exact (hf c hcm).1
  done := by
    intro X eP ew eK hc i pins s σ H E I hf st hg
    subst eP ew eK
    obtain ⟨hz, hTI, hTO, h1, h2⟩ := st
    obtain ⟨xs, ys, sx, sy, hi⟩ := hg
    obtain ⟨its, rv, p1, _⟩ := I.tuple sx
    obtain ⟨its2, rv2, p2, _⟩ := I.list sy
    have hd : X.A.in1.handled = none := by simp [I.ok.hd hc]
    have l1 := rv.length
    have l2 := rv2.length
    have hin : i = min its.toArray.size its2.toArray.size := by
      simp only [List.size_toArray]
      omega
    refine (GoesN.zip2 (elts := elts) (x1 := kk) (pos := tpos) S (Draws.tuple hd i1 a na its.toArray) (Draws.list hd i2 b nb its2.toArray)).stops s _ E
      (by rw [← hin]; exact ⟨hz, hTI, hTO, ⟨h1, p1⟩, ⟨h2, p2.isList⟩⟩) fun h' tk hk _ => ?_
    exact I.turnedL (ch := [z, TI, TO, i1, i2]) (fun c o hb e => hk c o (fun m => hb (by
        simp only [List.mem_cons, List.not_mem_nil, or_false] at m ⊢
        rcases m with m | m | m | m <;> simp [m])) e) hf
  self := fun A i s Q E st h => wpAny_pyIter_zip st.1 h
def iZipM (K : PySem.W.Frag) (ta : TA) : TI := fun σ H R => ta σ H fun vs H1 => ∃ a b xs ys, vs = [.ref a, .ref b] ∧ SqT K H1 a xs ∧ SqL K H1 b ys ∧ R (ItzM K a b) H1
theorem pi_zipM {X : Cx} {e e2 : Expr} {ta : TA} {p pos tpos : Pos} {elts : List Expr} {kk : Nat} (hg : Gl X "zip") (hm : X.mg "zip" = none) (ha : PA X [e, e2] ta)
    (hs : starEach [e, e2] X.env = (false, eval e X.env) :: starEach [e2] X.env := by rfl) (hpl : (backTo pos (starEach [e2] X.env)).any (·.1) = false := by rfl) : PI X (.Tuple elts kk tpos) (.Call (.Name "zip" p) [e, e2] [] pos) (iZipM X.K ta) := by
  refine ⟨fun pins s σ H R I h => Call_ (ld_blt I hg hm PyProof.Rows.boot_zip
    (PyProof.Rows.callWith_type1 (thn (ha.run pos pins s σ H _ I h) fun us s1 hh => ?_) hs hpl))⟩
  obtain ⟨vs, H1, I1, r1, a, b, xs, ys, rfl, sx, sy, q⟩ := hh
  obtain ⟨u1, u2, rfl, r2, r3⟩ := vals2 r1
  cases (show u1 = Value.ref a from r2)
  cases (show u2 = Value.ref b from r3)
  obtain ⟨its, rv, p1, _⟩ := I1.tuple sx
  obtain ⟨its2, rv2, p2, _⟩ := I1.list sy
  obtain ⟨o1, ho1, _⟩ := id p1
  have la : a < s1.heap.objs.size := Heap.lt_size ho1
  have lb : b < s1.heap.objs.size := p2.lt
  refine zip_begins2 (begins_tuple a its.toArray) (begins_list b its2.toArray) p1 p2.isList
    fun h' hz hTI hTO g1 g2 hsz hk => wpAny_pyIter_zip hz ?_
  have I2 : Inv X pins σ H1 { s1 with heap := h' } := I1.kept (t' := s1.toks) hk
  refine ⟨s1.heap.objs.size + 4, [s1.heap.objs.size + 4, s1.heap.objs.size + 2, s1.heap.objs.size + 3, s1.heap.objs.size, s1.heap.objs.size + 1], _, _, H1, rfl, I2,
    turn_zipM (zip_sep2 (fp1 := [a]) (fp2 := [b]) (fun c hc => by rw [List.mem_singleton.mp hc]; exact la) (fun c hc => by rw [List.mem_singleton.mp hc]; exact lb)) (Nat.ne_of_lt la) (Nat.ne_of_lt (Nat.lt_succ_of_lt lb)),
    ⟨hz, hTI, ⟨_, _, hTO⟩, ⟨_, g1, rfl, rfl⟩, ⟨_, g2, rfl, rfl⟩⟩, fun c hcm => ?_, q⟩
  have hle : s1.heap.objs.size ≤ c := by
    simp only [List.mem_cons, List.not_mem_nil, or_false] at hcm
    rcases hcm with rfl | rfl | rfl | rfl | rfl
    · exact Nat.le_add_right _ _
    · exact Nat.le_add_right _ _
    · exact Nat.le_add_right _ _
    · exact Nat.le_refl _
    · exact Nat.le_add_right _ _
  exact (I1.fpOk hle (I1.hok.fresh hle))
theorem zipM_go {K : PySem.W.Frag} {a b : Addr} {xs ys : List V} {i : Nat} {H : Hp} (hl : xs.length = ys.length) (hx : SqT K H a xs) (hy : SqL K H b ys) (hi : i < xs.length) : (ItzM K a b).go i H :=
  ⟨xs, ys, _, _, hx, hy, List.getElem?_eq_getElem hi, List.getElem?_eq_getElem (by omega)⟩
theorem zipM_stop {K : PySem.W.Frag} {a b : Addr} {xs ys : List V} {H : Hp} (hl : xs.length = ys.length) (hx : SqT K H a xs) (hy : SqL K H b ys) : (ItzM K a b).stop xs.length H :=
  ⟨xs, ys, hx, hy, by omega⟩
theorem zipM_yld {K : PySem.W.Frag} {a b : Addr} {xs ys : List V} {i : Nat} {H : Hp} {v : V} {H' : Hp} (hx : SqT K H a xs) (hy : SqL K H b ys) (h : (ItzM K a b).yld i H v H') : ∃ T x y, v = .ref T ∧ H T = none ∧ H' = upd H T (.tup [x, y]) ∧ xs[i]? = some x ∧ ys[i]? = some y := by
  obtain ⟨T, x, y, e1, e2, e3, e4, e5⟩ := h
  exact ⟨T, x, y, e1, e2, e3, e4 _ hx, e5 _ hy⟩
/-- a loop over pairs, whatever gives them -/
theorem for_pairs {J : It} {xs ys : List V} {g : TG} {tb : TS} {D : Ends} {σ : L2.St} {H : Hp} (Pv : Nat → L2.St → Hp → Prop) (h0 : Pv 0 σ H) (go : ∀ i σ H, Pv i σ H → i < xs.length → J.go i H) (st : ∀ σ H, Pv xs.length σ H → J.stop xs.length H)
    (yl : ∀ i σ H v H', Pv i σ H → J.yld i H v H' → ∃ T x y, v = .ref T ∧ H T = none ∧ H' = upd H T (.tup [x, y]) ∧ xs[i]? = some x ∧ ys[i]? = some y)
    (hs : ∀ (i : Nat) (x y : V) (T : Addr) (σ : L2.St) (H : Hp), xs[i]? = some x → ys[i]? = some y → Pv i σ H → H T = none → g (.ref T) σ (upd H T (.tup [x, y])) fun σ2 H2 => tb { D with nx := Pv (i + 1), ct := Pv (i + 1), bk := D.nx } σ2 H2) (hd : ∀ σ H, Pv xs.length σ H → D.nx σ H) :
    ∃ W : Nat → Nat → L2.St → Hp → Prop, (∃ m, W 0 m σ H) ∧ ∀ i m σ H, W i m σ H →
      (J.stop i H ∧ D.nx σ H) ∨ (J.go i H ∧ ∃ N : L2.St → Hp → Prop, (∀ σ' H', N σ' H' → ∃ m', m' < m ∧ W (i + 1) m' σ' H') ∧ ∀ v H', J.yld i H v H' → g v σ H' fun σ2 H2 => tb { D with nx := N, ct := N, bk := D.nx } σ2 H2) := by
  refine ⟨fun i m σ H => m = xs.length - i ∧ i ≤ xs.length ∧ Pv i σ H,
    ⟨xs.length, by omega, Nat.zero_le _, h0⟩, fun i m σ H hW => ?_⟩
  obtain ⟨rfl, hi, hp⟩ := hW
  rcases Nat.lt_or_ge i xs.length with lt | ge
  · refine .inr ⟨go i σ H hp lt, Pv (i + 1), fun σ' H' z => ⟨xs.length - (i + 1), by omega, rfl, by omega, z⟩, fun v H' hv => ?_⟩
    obtain ⟨T, x, y, rfl, nT, rfl, hx, hy⟩ := yl i σ H v H' hp hv
    exact hs i x y T σ H hx hy hp nT
  · have e : i = xs.length := by omega
    subst e
    exact .inl ⟨st σ H hp, hd σ H hp⟩
/-- a comprehension over pairs, whatever gives them -/
theorem lc_pairs {J : It} {xs ys : List V} {g : TG} {tt : TT} {te : TE} {vs : List Nat} {σ : L2.St} {H1 : Hp} {D : Addr} {Qd : Hp → Prop} (Pv : Nat → Hp → Prop) (h0 : Pv 0 (upd H1 D (.lst []))) (go : ∀ i H, Pv i H → i < xs.length → J.go i H) (st : ∀ H, Pv xs.length H → J.stop xs.length H)
    (yl : ∀ i H v H', Pv i H → J.yld i H v H' → ∃ T x y, v = .ref T ∧ H T = none ∧ H' = upd H T (.tup [x, y]) ∧ xs[i]? = some x ∧ ys[i]? = some y)
    (hs : ∀ (i : Nat) (x y : V) (T : Addr) (H : Hp), xs[i]? = some x → ys[i]? = some y → Pv i H → H T = none → g (.ref T) (wipe σ vs) (upd H T (.tup [x, y])) fun σ2 H2 => wipe σ2 vs = wipe σ vs ∧ tt σ2 H2 fun b H3 =>
      if b = true then te σ2 H3 fun z H4 => ∃ acc, H4 D = some (.lst acc) ∧ acc.length < sizeLine ∧ Pv (i + 1) (upd H4 D (.lst (acc ++ [z]))) else Pv (i + 1) H3) (hd : ∀ H, Pv xs.length H → Qd H) :
    ∃ W : Nat → Nat → Hp → Prop, (∃ m, W 0 m (upd H1 D (.lst []))) ∧ ∀ i m H, W i m H →
      (J.stop i H ∧ Qd H) ∨ (J.go i H ∧ ∃ Nx : Hp → Prop, (∀ H', Nx H' → ∃ m', m' < m ∧ W (i + 1) m' H') ∧ ∀ x H', J.yld i H x H' → g x (wipe σ vs) H' fun σ2 H2 => wipe σ2 vs = wipe σ vs ∧ tt σ2 H2 fun b H3 =>
        if b = true then te σ2 H3 fun y H4 => ∃ acc, H4 D = some (.lst acc) ∧ acc.length < sizeLine ∧ Nx (upd H4 D (.lst (acc ++ [y]))) else Nx H3) := by
  refine ⟨fun i m H => m = xs.length - i ∧ i ≤ xs.length ∧ Pv i H,
    ⟨xs.length, by omega, Nat.zero_le _, h0⟩, fun i m H hW => ?_⟩
  obtain ⟨rfl, hi, hp⟩ := hW
  rcases Nat.lt_or_ge i xs.length with lt | ge
  · refine .inr ⟨go i H hp lt, Pv (i + 1), fun H' z => ⟨xs.length - (i + 1), by omega, rfl, by omega, z⟩, fun v H' hv => ?_⟩
    obtain ⟨T, x, y, rfl, nT, rfl, hx, hy⟩ := yl i H v H' hp hv
    exact hs i x y T H hx hy hp nT
  · have e : i = xs.length := by omega
    subst e
    exact .inl ⟨st H hp, hd H hp⟩

/-! ### lists that are not the table of modules; a def held in a variable, one of several -/
def tLstS (t : TA) : TE := fun σ H Q => t σ H fun xs H1 => xs.length ≤ sizeLine ∧ ∀ p, H1 p = none → p ≠ sysModules → Q (.ref p) (upd H1 p (.lst xs))
def rListS (K : PySem.W.Frag) : List V → Hp → VK → Prop := fun xs H Q => ∃ p ys, xs = [.ref p] ∧ (SqL K H p ys ∨ SqT K H p ys) ∧ ∀ l, H l = none → l ≠ sysModules → Q (.ref l) (upd H l (.lst ys))
def tCallN (X : Cx) (i : Nat) (Ex : L2.St → XK) (t : TA) : TE := fun σ H Q => ∃ f, σ[i]? = some (some (.ref f)) ∧ ∃ k x ps sp, ClX X.prog X.w X.K X.mg X.base k x ps sp ∧ Room k X.A ∧ X.mg x = some (.ref f) ∧ t σ H fun vs H1 => sp vs H1 Q (Ex σ)
section
variable {X : Cx}
theorem pe_lstS {es : List Expr} {t : TA} {pos : Pos} (h : PA X es t) : PE X (.List es pos) (tLstS t) := by
  refine ⟨fun pins s σ H Q I hq => wpAny_List_spliced (thn (h.run pos pins s σ H _ I hq) fun us s1 hx => ?_)⟩
  obtain ⟨xs, H1, I1, r, z, q⟩ := hx
  have ne : s1.heap.objs.size ≠ sysModules := Nat.ne_of_gt I1.big
  exact ⟨by rw [← r.length]; exact z, .ref s1.heap.objs.size, upd H1 s1.heap.objs.size (.lst xs), I1.laid (t' := s1.toks) (fun b u e => Heap.get?_push_of_some _ e) (Nat.le_refl _) ⟨z, us, 0, r, Heap.get?_push_size _ rfl⟩, rfl, q _ (I1.hok.fresh (Nat.le_refl _)) ne⟩
theorem pe_callN {y : Str} {W : WX} {e : Expr} {es : List Expr} {t : TA} {p pos : Pos} (i : Nat) (tk : Takes X W) (ha : PA X (e :: es) t) (hN : X.N[i]? = some y := by rfl) (hv : Vis X.env.scope y := by first | exact Or.inl rfl | exact Or.inr (Or.inl rfl) | exact Or.inr (Or.inr rfl))
    (hdb : (y == ("__debug__" : Str)) = false := by decide) (hcd : (y == ("__classdict__" : Str)) = false := by decide)
    (he : starEach (e :: es) X.env = (false, eval e X.env) :: starEach es X.env := by rfl) (hpl : (backTo pos (starEach es X.env)).any (·.1) = false := by rfl) :
    PE X (.Call (.Name y p) (e :: es) [] pos) (tCallN X i (WE W) t) := by
  refine ⟨fun pins s σ H Q I h => ?_⟩
  obtain ⟨f, hs, k, x, ps, sp, C, rm, hm, h⟩ := h
  obtain ⟨f', fd, F, hk, hb, hm'⟩ := C.ex
  have ef : f' = f := by
    rw [hm'] at hm
    injection hm with hm
    injection hm
  subst ef
  refine wpAny_Call_Name_kw (thn ((pe_var (pos := p) hN hv hdb hcd).run pins s σ H (fun v H1 => v = .ref f' ∧ H1 = H) I ⟨.ref f', hs, rfl, rfl⟩) fun u s1 hx => ?_)
  obtain ⟨v, H1, I1, rv, rfl, rfl⟩ := hx
  cases rv
  exact PySem.W.callWith_K (h₀ := X.base) I.ok.mod.kin hk (thn (ha.run pos pins s1 σ _ _ I1 h) fun us s2 hy => by
    obtain ⟨vs, H2, I2, r, q⟩ := hy
    exact ⟨I2.kIn, run_fnS F rm hb (passAt tk σ) I2 r q⟩) he hpl
end
section
variable {X : Cx}
/-- what is handed in to list(..), as it lies: of whichever of the two kinds -/
theorem lies_seq {pins : List (Addr × Obj)} {σ : L2.St} {H : Hp} {s : Shared} {p : Addr} {ys : List V} (I : Inv X pins σ H s) (h : SqL X.K H p ys ∨ SqT X.K H p ys) :
    ∃ T its o n, (T = "list" ∨ T = "tuple") ∧ s.heap.get? p = some o ∧ o.cls = .type T ∧ o.data = .seq (List.toArray its) n ∧ Vals ys its ∧ ys.length ≤ sizeLine := by
  cases h with
  | inl l =>
    obtain ⟨its, same, lies, small⟩ := I.list l
    obtain ⟨o, get, kind, n, data⟩ := lies.isList
    exact ⟨_, its, o, n, .inl rfl, get, kind, data, same, small⟩
  | inr t =>
    obtain ⟨its, same, ⟨o, get, kind, n, data⟩, small⟩ := I.tuple t
    exact ⟨_, its, o, n, .inr rfl, get, kind, data, same, small⟩
theorem call_listS : CallR X (.type "list") (rListS X.K) := by
  rintro pins s σ H _ us Q I r ⟨p, ys, rfl, h, due⟩
  obtain ⟨T, its, o, n, two, get, kind, data, same, small⟩ := lies_seq I h
  obtain ⟨_, rfl, rfl⟩ := vals1 r
  have few : its.toArray.size ≤ sizeLine := by
    rw [List.size_toArray, ← same.length]
    exact small
  refine call_list_seq p two get kind data (fun h' cap stay laid => ?_) few
  have new : ObjOk X.prog X.w (upd H s.heap.objs.size (.lst ys)) h' s.heap.objs.size (.lst ys) := ⟨small, its, cap, same, laid⟩
  exact ⟨.ref s.heap.objs.size, upd H s.heap.objs.size (.lst ys), I.laid (t' := s.toks) stay (Nat.le_refl _) new, rfl, due _ (I.hok.fresh (Nat.le_refl _)) (Nat.ne_of_gt I.big)⟩
end

/-! ### a dict is no tuple -/
open PySem.SeqAt PySem.MeetsSeq in
theorem dict_ne_declines_tuple (l b : Addr) (es : Array DictEntry) (items2 : Array Value) (n n2 : Nat) (dd dd2 : Option Addr) (sl sl2 : Array (Option Value)) :
    Meets (Builtin.«dict.__ne__» ⟨[.ref l, .ref b], []⟩) (fun _ R s => s.heap.get? l = some { cls := .type "dict", dict := dd, data := .dict es n, slots := sl } ∧ s.heap.get? b = some { cls := .type "tuple", dict := dd2, data := .seq items2 n2, slots := sl2 } ∧ R (.ok (.ret .notImplemented)) s) :=
  .of_wp fun prog w A R s h => by
    obtain ⟨hp, g, d, tk, os⟩ := s
    obtain ⟨hl, hb, h⟩ := h
    have f1 := F.sub_tuple_dict
    wp_walk using wpAny_loadPart' hl, wpAny_loadPart' hb
    exact ⟨_, rfl, h⟩
theorem tuple_ne_declines_dict (l b : Addr) (items : Array Value) (es2 : Array DictEntry) (n n2 : Nat) (dd dd2 : Option Addr) (sl sl2 : Array (Option Value)) :
    Meets (Builtin.«tuple.__ne__» ⟨[.ref l, .ref b], []⟩) (fun _ R s => s.heap.get? l = some { cls := .type "tuple", dict := dd, data := .seq items n, slots := sl } ∧ s.heap.get? b = some { cls := .type "dict", dict := dd2, data := .dict es2 n2, slots := sl2 } ∧ R (.ok (.ret .notImplemented)) s) :=
  .of_wp fun prog w A R s h => by
    obtain ⟨hp, g, d, tk, os⟩ := s
    obtain ⟨hl, hb, h⟩ := h
    have f1 := F.sub_dict_tuple
    wp_walk using wpAny_loadPart' hl, wpAny_loadPart' hb
    exact ⟨_, rfl, h⟩
open PySem.SeqAt PySem.MeetsSeq in
theorem ne_dict_tuple {A : Around} {s : Shared} {l b : Addr} {o : Obj} {es : Array DictEntry} {n : Nat} {items2 : Array Value} (ho' : s.heap.get? l = some o) (hcl : o.cls = .type "dict") (hda : o.data = .dict es n) (hb : s.heap.IsTuple b items2) (hu : A.units < cLine) : RcNeAt A s (.ref l) (.ref b) true := fun prog w E Q h => by
  obtain ⟨⟨cls2, dd2, data2, sl2⟩, ho2, hc2, n2, hd2⟩ := id hb
  obtain ⟨cls, dd, data, sl⟩ := o
  simp only at hcl hda hc2 hd2
  subst hcl hda hc2 hd2
  have hne : l ≠ b := fun e => by
    rw [e, ho2] at ho'
    have hh := congrArg Obj.cls (Option.some.inj ho')
    simp at hh
  exact (rc_ne_decline_or (k := false) ⟨_, ho', rfl⟩ ⟨_, ho2, rfl⟩ (by decide) F.sub_tuple_dict F.slot_dict_ne F.slot_tuple_ne_refl
    (fun _ hq => call_meets F.slot_dict_ne ⟨_, ho', rfl⟩ F.entry_dict_ne (F.args_dict_ne_2 _ _) (dict_ne_declines_tuple l b es items2 n n2 dd dd2 sl sl2) ⟨ho', ho2, hq⟩)
    (fun _ hq => call_meets F.slot_tuple_ne_refl ⟨_, ho2, rfl⟩ F.entry_tuple_ne (F.args_tuple_ne_2 _ _) (tuple_ne_declines_dict b l items2 es n2 n dd2 dd sl2 sl) ⟨ho2, ho', hq⟩)
    (fun _ hq => wpAny_isSame_ref_other hne ho' ho2 (by simp) hq) (.inr hu) h)
def rNeG (K : PySem.W.Frag) : R2 := fun x y H Q => rNeD K x y H Q ∨ ∃ (a b : Addr) (kvs : List (Key × V)) (ys : List V), x = .ref a ∧ y = .ref b ∧ H a = some (.dK kvs) ∧ SqT K H b ys ∧ Q (.bl true) H
theorem op_neG {X : Cx} (hu : X.A.units + 64 < cLine) : OpR X (compareOp .NotEq) (rNeG X.K) := by
  intro pins s σ H x y v u Q I rx ry h
  rcases h with h | ⟨a, b, kvs, ys, rfl, rfl, ha, hb, q⟩
  · exact op_neD hu pins s σ H x y v u Q I rx ry h
  cases rx
  cases ry
  obtain ⟨_, _, vs, kv, o, es, ep, h1, h2, h3, _⟩ := (show ObjOk X.prog X.w H s.heap a (.dK kvs) from I.hok a _ ha)
  obtain ⟨its, rv, ⟨o2, ho2, hc2, n2, hd2⟩, _⟩ := I.tuple hb
  exact ne_dict_tuple h1 h2.1 h3 ⟨o2, ho2, hc2, n2, hd2⟩ (by omega) X.prog X.w X.xe _ ⟨.bl true, H, I, rfl, q⟩

/-! ### things of whatever kind, as data -/
def keyD : Key → PyData
  | .inl i => .int i
  | .inr x => .str x
mutual
inductive Dg (K : PySem.W.Frag) (fx : Hp) (H : Hp) : Bool → V → PyData → Prop
  | non {b : Bool} : Dg K fx H b .non .none
  | bl {b : Bool} (x : Bool) : Dg K fx H b (.bl x) (.bool x)
  | int {b : Bool} (i : Int) : Dg K fx H b (.int i) (.int i)
  | str {b : Bool} (x : Str) : Dg K fx H b (.str x) (.str x)
  | tup {b : Bool} {a : Addr} {xs : List V} {ds : List PyData} : SqT K H a xs → DgAll K fx H b xs ds → Dg K fx H b (.ref a) (.tuple ds)
  | lst {a : Addr} {xs : List V} {ds : List PyData} : fx a = none → H a = some (.lst xs) → DgAll K fx H true xs ds → Dg K fx H true (.ref a) (.list ds)
  | lstF {a : Addr} {xs : List V} {ds : List PyData} : fx a = none → a ≠ sysModules → H a = some (.lst xs) → DgAll K fx H false xs ds → Dg K fx H false (.ref a) (.list ds)
  | dic0 {a : Addr} : fx a = none → H a = some (.dK []) → Dg K fx H false (.ref a) (.dict [])
  | dic1 {a : Addr} {k : Key} {i : Int} : fx a = none → H a = some (.dK [(k, .int i)]) → Dg K fx H false (.ref a) (.dict [(keyD k, .int i)])
inductive DgAll (K : PySem.W.Frag) (fx : Hp) (H : Hp) : Bool → List V → List PyData → Prop
  | nil {b : Bool} : DgAll K fx H b [] []
  | cons {b : Bool} {v : V} {vs : List V} {d : PyData} {ds : List PyData} : Dg K fx H b v d → DgAll K fx H b vs ds → DgAll K fx H b (v :: vs) (d :: ds)
end
mutual
theorem Dg.kp {K : PySem.W.Frag} {fx : Hp} {H H' : Hp} (kt : TKeep K H H') (kb : ∀ b o, fx b = none → H b = some o → H' b = some o) : ∀ {b : Bool} {v : V} {d : PyData}, Dg K fx H b v d → Dg K fx H' b v d
  | _, _, _, .non => .non
  | _, _, _, .bl x => .bl x
  | _, _, _, .int i => .int i
  | _, _, _, .str x => .str x
  | _, _, _, .tup h q => .tup (kt _ _ h) (DgAll.kp kt kb q)
  | _, _, _, .lst n h q => .lst n (kb _ _ n h) (DgAll.kp kt kb q)
  | _, _, _, .lstF n m h q => .lstF n m (kb _ _ n h) (DgAll.kp kt kb q)
  | _, _, _, .dic0 n h => .dic0 n (kb _ _ n h)
  | _, _, _, .dic1 n h => .dic1 n (kb _ _ n h)
theorem DgAll.kp {K : PySem.W.Frag} {fx : Hp} {H H' : Hp} (kt : TKeep K H H') (kb : ∀ b o, fx b = none → H b = some o → H' b = some o) : ∀ {b : Bool} {v : List V} {d : List PyData}, DgAll K fx H b v d → DgAll K fx H' b v d
  | _, _, _, .nil => .nil
  | _, _, _, .cons h q => .cons (Dg.kp kt kb h) (DgAll.kp kt kb q)
end
theorem Dg.sm {K : PySem.W.Frag} {fx : Hp} {H H' : Hp} {b : Bool} {v : V} {d : PyData} (s : Same H H') (h : Dg K fx H b v d) : Dg K fx H' b v d := Dg.kp (Same.tk s) (fun a o _ e => s a o e) h
theorem Dg.gr {K : PySem.W.Frag} {fx : Hp} {st : Addr} {H H' : Hp} {b : Bool} {v : V} {d : PyData} (g : Gr st H H') (hs : IsSt H st) (hf : fx st ≠ none) (h : Dg K fx H b v d) : Dg K fx H' b v d := Dg.kp (g.tk hs) (fun b o hb e => g.1 b o (fun z => hf (by rw [← z]; exact hb)) e) h
theorem DgAll.gr {K : PySem.W.Frag} {fx : Hp} {st : Addr} {H H' : Hp} {b : Bool} {v : List V} {d : List PyData} (g : Gr st H H') (hs : IsSt H st) (hf : fx st ≠ none) (h : DgAll K fx H b v d) : DgAll K fx H' b v d := DgAll.kp (g.tk hs) (fun b o hb e => g.1 b o (fun z => hf (by rw [← z]; exact hb)) e) h
theorem Gr.free {st p : Addr} {H H' : Hp} (g : Gr st H H') (hs : IsSt H st) (np : H' p = none) : H p = none := by
  cases e : H p with
  | none => rfl
  | some o =>
    by_cases z : p = st
    · subst z
      obtain ⟨x, y, hx, _⟩ := g.2 hs
      rw [hx] at np
      cases np
    · rw [g.1 p o z e] at np
      cases np
theorem st_some {st : Addr} {H : Hp} (hs : IsSt H st) : H st ≠ none := by
  obtain ⟨x, y, hx, _⟩ := hs
  rw [hx]
  exact fun z => nomatch z
/-- a wider world knows more old places -/
theorem dg_dummy : True := trivial
theorem DgAll.sm {K : PySem.W.Frag} {fx : Hp} {H H' : Hp} {b : Bool} {v : List V} {d : List PyData} (s : Same H H') (h : DgAll K fx H b v d) : DgAll K fx H' b v d := DgAll.kp (Same.tk s) (fun a o _ e => s a o e) h
mutual
theorem Dg.wk {K : PySem.W.Frag} {fx fy H : Hp} (w : ∀ a, fx a = none → fy a = none) : ∀ {b : Bool} {v : V} {d : PyData}, Dg K fx H b v d → Dg K fy H b v d
  | _, _, _, .non => .non
  | _, _, _, .bl x => .bl x
  | _, _, _, .int i => .int i
  | _, _, _, .str x => .str x
  | _, _, _, .tup h q => .tup h (DgAll.wk w q)
  | _, _, _, .lst n h q => .lst (w _ n) h (DgAll.wk w q)
  | _, _, _, .lstF n m h q => .lstF (w _ n) m h (DgAll.wk w q)
  | _, _, _, .dic0 n h => .dic0 (w _ n) h
  | _, _, _, .dic1 n h => .dic1 (w _ n) h
theorem DgAll.wk {K : PySem.W.Frag} {fx fy H : Hp} (w : ∀ a, fx a = none → fy a = none) : ∀ {b : Bool} {v : List V} {d : List PyData}, DgAll K fx H b v d → DgAll K fy H b v d
  | _, _, _, .nil => .nil
  | _, _, _, .cons h q => .cons (Dg.wk w h) (DgAll.wk w q)
end
theorem DgAll.len {K : PySem.W.Frag} {fx : Hp} {H : Hp} : ∀ {b : Bool} {vs : List V} {ds : List PyData}, DgAll K fx H b vs ds → vs.length = ds.length
  | _, _, _, .nil => rfl
  | _, _, _, .cons _ t => by rw [List.length_cons, List.length_cons, DgAll.len t]
theorem DgAll.at {K : PySem.W.Frag} {fx : Hp} {H : Hp} : ∀ {b : Bool} {vs : List V} {ds : List PyData} {i : Nat} {v : V}, DgAll K fx H b vs ds → vs[i]? = some v → ∃ d, ds[i]? = some d ∧ Dg K fx H b v d
  | _, _, _, i, v, .nil, h => by simp at h
  | _, _, _, 0, v, .cons a t, h => by
    have e : _ = v := Option.some.inj h
    subst e
    exact ⟨_, rfl, a⟩
  | _, _, _, i + 1, v, .cons a t, h => DgAll.at (i := i) t h
theorem DgAll.app {K : PySem.W.Frag} {fx : Hp} {H : Hp} {b : Bool} {ws : List V} {es : List PyData} (q : DgAll K fx H b ws es) : ∀ {vs : List V} {ds : List PyData}, DgAll K fx H b vs ds → DgAll K fx H b (vs ++ ws) (ds ++ es)
  | _, _, .nil => q
  | _, _, .cons a t => .cons a (DgAll.app q t)
theorem DgAll.tk {K : PySem.W.Frag} {fx : Hp} {H : Hp} {b : Bool} : ∀ (n : Nat) {vs : List V} {ds : List PyData}, DgAll K fx H b vs ds → DgAll K fx H b (vs.take n) (ds.take n)
  | 0, _, _, _ => .nil
  | _ + 1, _, _, .nil => .nil
  | n + 1, _, _, .cons a t => .cons a (DgAll.tk n t)
theorem DgAll.dr {K : PySem.W.Frag} {fx : Hp} {H : Hp} {b : Bool} : ∀ (n : Nat) {vs : List V} {ds : List PyData}, DgAll K fx H b vs ds → DgAll K fx H b (vs.drop n) (ds.drop n)
  | 0, _, _, q => q
  | _ + 1, _, _, .nil => .nil
  | n + 1, _, _, .cons _ t => DgAll.dr n t
/-! kinds -/
def tyn : PyData → String
  | .none => "NoneType"
  | .bool _ => "bool"
  | .int _ => "int"
  | .str _ => "str"
  | .list _ => "list"
  | .tuple _ => "tuple"
  | .dict _ => "dict"
def isB : PyData → Bool
  | .bool _ => true
  | _ => false
def isI : PyData → Bool
  | .bool _ => true
  | .int _ => true
  | _ => false
def isT : PyData → Bool
  | .tuple _ => true
  | _ => false
theorem Dg.ty {K : PySem.W.Frag} {fx : Hp} {H : Hp} {b : Bool} {v : V} {d : PyData} (h : Dg K fx H b v d) : TyX K H v (.type (tyn d)) := by
  cases h with
  | non => exact .base .non
  | bl x => exact .base (.bl x)
  | int i => exact .base (.int i)
  | str x => exact .base (.str x)
  | tup h q => exact tyT h
  | lst n h q => exact .base (.lst h)
  | lstF n m h q => exact .base (.lst h)
  | dic0 n h => exact .base (.dK h)
  | dic1 n h => exact .base (.dK h)
theorem kB (d : PyData) : kitB (tyn d) "bool" = some (isB d) := by cases d <;> simp only [tyn, isB] <;> decide +kernel
theorem kI (d : PyData) : kitB (tyn d) "int" = some (isI d) := by cases d <;> simp only [tyn, isI] <;> decide +kernel
theorem kT (d : PyData) : kitB (tyn d) "tuple" = some (isT d) := by cases d <;> simp only [tyn, isT] <;> decide +kernel
def isW (d : PyData) (l m : Int) : Bool := match d with
  | .int n => decide (l ≤ n ∧ n ≤ m)
  | _ => false
def isTup (d : PyData) (l m : Int) : Bool := match d with
  | .tuple ds => decide (l ≤ (ds.length : Int) ∧ (ds.length : Int) ≤ m)
  | _ => false
def isRowD (d : PyData) : Bool := match d with
  | .tuple [a, b] => isW a 0 9 && isW b 1 24
  | _ => false
def bkOk (b : PyData) (n : Int) : Bool := match b with
  | .none => true
  | b => isW b 0 n
def isLayD (d : PyData) : Bool := match d with
  | .tuple [.tuple rs, b] => decide (rs.length ≤ 8) && rs.all isRowD && bkOk b ((rs.length : Int) - 1)
  | _ => false
def isSpotD (x y : PyData) : Bool := isW x (-20) 20 && isW y (-20) 20
def isMoveD (d : PyData) : Bool := match d with
  | .tuple [x, y, n] => isSpotD x y && isW n 0 24
  | _ => false
def isWinD (d : PyData) : Bool := match d with
  | .tuple [x, y, .tuple ms] => isSpotD x y && decide (ms.length ≤ 8) && ms.all isMoveD
  | _ => false
def isShD (d : PyData) : Bool := match d with
  | .tuple [.tuple ls, w] => decide (1 ≤ ls.length ∧ ls.length ≤ 4) && ls.all isLayD && isWinD w
  | _ => false
theorem three_of {α : Type} {xs : List α} (h : xs.length = 3) : ∃ a b c, xs = [a, b, c] := by
  match xs, h with
  | [a, b, c], _ => exact ⟨a, b, c, rfl⟩
theorem mv_no {d : PyData} (h : isTup d 3 3 = false) : isMoveD d = false := by
  unfold isMoveD
  split
  · simp [isTup] at h
  · rfl
theorem win_no {d : PyData} (h : isTup d 3 3 = false) : isWinD d = false := by
  unfold isWinD
  split
  · simp [isTup] at h
  · rfl
theorem win_no2 {x y m : PyData} (h : isTup m 0 8 = false) : isWinD (.tuple [x, y, m]) = false := by
  cases m with
  | tuple ms =>
    have h' : decide ((0 : Int) ≤ (ms.length : Int) ∧ (ms.length : Int) ≤ 8) = false := h
    have : ¬ ms.length ≤ 8 := fun z => by
      rw [decide_eq_true (show (0 : Int) ≤ (ms.length : Int) ∧ (ms.length : Int) ≤ 8 from ⟨by omega, by omega⟩)] at h'
      cases h'
    show (isSpotD x y && decide (ms.length ≤ 8) && ms.all isMoveD) = false
    rw [decide_eq_false this, Bool.and_false]
    rfl
  | _ => rfl
theorem win_eq {x y : PyData} {ms : List PyData} (h : ms.length ≤ 8) : isWinD (.tuple [x, y, .tuple ms]) = (isSpotD x y && ms.all isMoveD) := by
  show (isSpotD x y && decide (ms.length ≤ 8) && ms.all isMoveD) = _
  rw [decide_eq_true h, Bool.and_true]
theorem sh_no {d : PyData} (h : isTup d 2 2 = false) : isShD d = false := by
  unfold isShD
  split
  · simp [isTup] at h
  · rfl
theorem sh_no2 {l w : PyData} (h : isTup l 1 4 = false) : isShD (.tuple [l, w]) = false := by
  cases l with
  | tuple ls =>
    have h' : decide ((1 : Int) ≤ (ls.length : Int) ∧ (ls.length : Int) ≤ 4) = false := h
    have : ¬ (1 ≤ ls.length ∧ ls.length ≤ 4) := fun z => by
      rw [decide_eq_true (show (1 : Int) ≤ (ls.length : Int) ∧ (ls.length : Int) ≤ 4 from ⟨by omega, by omega⟩)] at h'
      cases h'
    show (decide (1 ≤ ls.length ∧ ls.length ≤ 4) && ls.all isLayD && isWinD w) = false
    rw [decide_eq_false this]
    rfl
  | _ => rfl
theorem sh_eq {ls : List PyData} {w : PyData} (h : 1 ≤ ls.length ∧ ls.length ≤ 4) : isShD (.tuple [.tuple ls, w]) = (ls.all isLayD && isWinD w) := by
  show (decide (1 ≤ ls.length ∧ ls.length ≤ 4) && ls.all isLayD && isWinD w) = _
  rw [decide_eq_true h, Bool.true_and]
/-! ### repr of things of whatever kind -/
section
variable {X : Cx} {pins : List (Addr × Obj)} {σ : L2.St} {H : Hp} {s : Shared}
theorem dic_reads (I : Inv X pins σ H s) {a : Addr} {kvs : List (Key × V)} (h : H a = some (.dK kvs)) : a ≠ sysModules ∧ ∃ o es ep vs, s.heap.get? a = some o ∧ o.cls = .type "dict" ∧ o.data = .dict es ep ∧ KV kvs vs ∧ Pairs (mixKind X.prog X.w) es.toList vs := by
  obtain ⟨_, hn, vs, kv, o, es, ep, h1, h2, h3, _, h5, _⟩ := (show ObjOk X.prog X.w H s.heap a (.dK kvs) from I.hok a _ h)
  exact ⟨fun e => by rw [e] at hn; simp at hn, o, es, ep, vs, h1, h2.1, h3, kv, h5⟩
mutual
theorem Dg.reads (I : Inv X pins σ H s) {fx : Hp} : ∀ {b : Bool} {v : V} {d : PyData} {u : Value}, Dg X.K fx H b v d → RelV v u → ∃ as, Reads s.heap u d as ∧ (b = true → d.hasDict = false) ∧ (b = false → sysModules ∉ as)
  | _, _, _, _, .non, r => by
    cases r
    exact ⟨_, Reads.none, fun _ => rfl, fun _ h => nomatch h⟩
  | _, _, _, _, .bl x, r => by
    cases r
    exact ⟨_, Reads.bool x, fun _ => rfl, fun _ h => nomatch h⟩
  | _, _, _, _, .int i, r => by
    obtain ⟨t, rfl⟩ := r
    exact ⟨_, Reads.int i t, fun _ => rfl, fun _ h => nomatch h⟩
  | _, _, _, _, .str x, r => by
    obtain ⟨t, rfl⟩ := r
    exact ⟨_, Reads.str x t, fun _ => rfl, fun _ h => nomatch h⟩
  | _, _, _, _, .tup h q, r => by
    cases r
    obtain ⟨its, rv, ⟨o, ho, hc, n, hd⟩, _⟩ := I.tuple h
    obtain ⟨as, hr, h1, h2⟩ := DgAll.reads I q rv
    exact ⟨_, Reads.tuple ho hc hd hr, h1, h2⟩
  | _, _, _, _, .lst _ h q, r => by
    cases r
    obtain ⟨its, rv, ⟨o, n, ho, hc, _, hd⟩, _⟩ := I.list (.inl (.inl h))
    obtain ⟨as, hr, h1, h2⟩ := DgAll.reads I q rv
    exact ⟨_, Reads.list ho hc hd hr, h1, fun z => nomatch z⟩
  | _, _, _, _, .lstF (a := a) _ m h q, r => by
    cases r
    obtain ⟨its, rv, ⟨o, n, ho, hc, _, hd⟩, _⟩ := I.list (.inl (.inl h))
    obtain ⟨as, hr, h1, h2⟩ := DgAll.reads I q rv
    exact ⟨_, Reads.list ho hc hd hr, h1, fun z hm => by
      rcases List.mem_cons.mp hm with e | e
      · exact m e.symm
      · exact h2 z e⟩
  | _, _, _, _, .dic0 (a := a) _ h, r => by
    cases r
    obtain ⟨hn, o, es, ep, vs, h1, h2, h3, kv, pr⟩ := dic_reads I h
    cases kv
    have e0 : es.toList = [] := by
      cases h' : es.toList with
      | nil => rfl
      | cons x r =>
        rw [h'] at pr
        cases pr
    refine ⟨a :: [] ++ [], Reads.dict h1 h2 h3 ?_ ?_, fun z => (Bool.false_ne_true z).elim, fun _ hm => hn ?_⟩
    · rw [e0]
      exact .nil
    · rw [e0]
      exact .nil
    · exact (List.mem_singleton.mp (by simpa using hm)).symm
  | _, _, _, _, .dic1 (a := a) (k := k) (i := i) _ h, r => by
    cases r
    obtain ⟨hn, o, es, ep, vs, h1, h2, h3, kv, pr⟩ := dic_reads I h
    obtain ⟨u, t, rfl, e1, e2⟩ : ∃ (u : Value) (t : Tok), vs = [(k, u)] ∧ u = .int i t ∧ True := by
      cases kv with
      | cons hh tt =>
        cases tt
        rename_i q
        obtain ⟨q1, q2⟩ := q
        obtain ⟨f1, t, f2⟩ := hh
        dsimp only at f1 f2
        subst f1 f2
        exact ⟨_, t, rfl, rfl, trivial⟩
    subst e1
    obtain ⟨e, hee, hk, hv⟩ : ∃ e : DictEntry, es.toList = [e] ∧ keyIs k e.key = true ∧ e.val = .int i t := by
      cases h' : es.toList with
      | nil =>
        rw [h'] at pr
        cases pr
      | cons x r =>
        rw [h'] at pr
        cases pr with
        | cons p1 p2 p3 =>
          cases p3
          exact ⟨x, rfl, p1, p2⟩
    refine ⟨a :: ([] ++ []) ++ ([] ++ []), Reads.dict h1 h2 h3 ?_ ?_, fun z => (Bool.false_ne_true z).elim, fun _ hm => hn ?_⟩
    · rw [hee]
      show ReadsAll _ [e.key] [keyD k] _
      cases k with
      | inl j =>
        obtain ⟨tk, hkk⟩ := keyIs_rel hk
        rw [hkk]
        exact .cons (.int j tk) .nil
      | inr z =>
        obtain ⟨tk, hkk⟩ := keyIs_rel hk
        rw [hkk]
        exact .cons (.str z tk) .nil
    · rw [hee]
      show ReadsAll _ [e.val] [.int i] _
      rw [hv]
      exact .cons (.int i t) .nil
    · exact (List.mem_singleton.mp (by simpa using hm)).symm
theorem DgAll.reads (I : Inv X pins σ H s) {fx : Hp} : ∀ {b : Bool} {vs : List V} {ds : List PyData} {us : List Value}, DgAll X.K fx H b vs ds → Vals vs us → ∃ as, ReadsAll s.heap us ds as ∧ (b = true → PyData.hasDictAll ds = false) ∧ (b = false → sysModules ∉ as)
  | _, _, _, _, .nil, r => by
    cases r
    exact ⟨_, ReadsAll.nil, fun _ => rfl, fun _ h => nomatch h⟩
  | _, _, _, _, .cons h q, r => by
    cases r with
    | cons r1 r2 =>
      obtain ⟨as, a1, a2, a3⟩ := Dg.reads I h r1
      obtain ⟨bs, b1, b2, b3⟩ := DgAll.reads I q r2
      refine ⟨_, ReadsAll.cons a1 b1, fun z => ?_, fun z hm => ?_⟩
      · show (_ || _) = false
        rw [a2 z, b2 z]
        rfl
      · rcases List.mem_append.mp hm with m | m
        · exact a3 z m
        · exact b3 z m
end
end
structure RQ (k w : Nat) (d : PyData) : Prop where
  sh : d.showable = true
  dp : d.depth ≤ k
  lv : d.leavesShort 40 = true
  wt : d.weight ≤ w
theorem RQ.fits {k w : Nat} {d : PyData} (h : RQ k w d) (hw : w ≤ 300000) : d.shown.length ≤ sizeLine := by
  have := PyData.shown_le 40 (by decide) d h.lv
  have := h.wt
  have e : sizeLine = 16777216 := by decide
  omega
theorem RQ.more {k w k' w' : Nat} {d : PyData} (h : RQ k w d) (h1 : k ≤ k') (h2 : w ≤ w') : RQ k' w' d := ⟨h.sh, Nat.le_trans h.dp h1, h.lv, Nat.le_trans h.wt h2⟩
theorem RQ.non : RQ 0 100 .none := ⟨rfl, Nat.le_refl _, rfl, Nat.zero_le _⟩
theorem RQ.bl (b : Bool) : RQ 0 100 (.bool b) := ⟨rfl, Nat.le_refl _, rfl, Nat.zero_le _⟩
theorem RQ.int {i : Int} (h : i.natAbs < 10 ^ 30) : RQ 0 100 (.int i) := by
  have hl : i.natAbs.log2 < 100 := by
    rcases Nat.eq_zero_or_pos i.natAbs with e | e
    · rw [e]
      decide
    · exact (Nat.log2_lt (by omega)).mpr (Nat.lt_trans h (by decide))
  refine ⟨decide_eq_true (by omega), Nat.le_refl _, decide_eq_true ?_, ?_⟩
  · show (Str.ofString (toString i)).length ≤ 40
    have := int_text_length_le10 (a := i) (k := 30) (by decide) h
    rw [show (Str.ofString (toString i)).length = (toString i).length from PyProof.Rows.ofString_len _]
    omega
  · show (if i == 0 then 0 else i.natAbs.log2 + 1) ≤ 100
    split <;> omega
theorem rq_all {k w : Nat} : ∀ {ds : List PyData}, (∀ e ∈ ds, RQ k w e) → PyData.showableAll ds = true ∧ PyData.depthAll ds ≤ k ∧ PyData.leavesShortAll 40 ds = true ∧ PyData.weightAll ds ≤ ds.length * (w + 1)
  | [], _ => ⟨rfl, Nat.zero_le _, rfl, Nat.zero_le _⟩
  | d :: t, h => by
    obtain ⟨a, c, e, f⟩ := rq_all (ds := t) fun x hx => h x (List.mem_cons_of_mem _ hx)
    have h1 := h d (List.mem_cons_self ..)
    refine ⟨?_, ?_, ?_, ?_⟩
    · show (d.showable && PyData.showableAll t) = true
      rw [h1.sh, a]
      rfl
    · show max d.depth (PyData.depthAll t) ≤ k
      exact Nat.max_le.mpr ⟨h1.dp, c⟩
    · show (d.leavesShort 40 && PyData.leavesShortAll 40 t) = true
      rw [h1.lv, e]
      rfl
    · show d.weight + 1 + PyData.weightAll t ≤ (t.length + 1) * (w + 1)
      have := h1.wt
      rw [Nat.add_mul, Nat.one_mul]
      omega
theorem RQ.tup {k w n : Nat} {ds : List PyData} (h : ∀ e ∈ ds, RQ k w e) (hn : ds.length * (w + 1) ≤ n) : RQ (k + 1) n (.tuple ds) := by
  obtain ⟨a, c, e, f⟩ := rq_all h
  exact ⟨a, Nat.succ_le_succ c, e, Nat.le_trans f hn⟩
theorem RQ.lst {k w n : Nat} {ds : List PyData} (h : ∀ e ∈ ds, RQ k w e) (hn : ds.length * (w + 1) ≤ n) : RQ (k + 1) n (.list ds) := by
  obtain ⟨a, c, e, f⟩ := rq_all h
  exact ⟨a, Nat.succ_le_succ c, e, Nat.le_trans f hn⟩
def rReprG (K : PySem.W.Frag) : List V → Hp → VK → Prop := fun xs H Q => ∃ (fx : Hp) (b : Bool) (v : V) (d : PyData) (S : Str), xs = [v] ∧ Dg K fx H b v d ∧ d.showable = true ∧ d.depth ≤ 30 ∧ d.shown.length ≤ sizeLine ∧ d.shown = S ∧ Q (.str S) H
theorem call_reprG {X : Cx} (hg : X.A.guards = some []) (hu : X.A.units + 64 < cLine) : CallR X (.builtin "repr") (rReprG X.K) := by
  intro pins s σ H xs us Q I r h
  obtain ⟨fx, b, v, d, S, rfl, hd, hs, hdep, hsz, hS, q⟩ := h
  subst hS
  obtain ⟨u, rfl, rx⟩ := vals1 r
  have big : ∀ a, v = .ref a → wpAny (model X.prog X.w) X.A (call (.builtin "repr") [u]) (EP X pins σ Q) X.xe s := by
    rintro a rfl
    cases (show u = Value.ref a from rx)
    obtain ⟨as, rd, h1, h2⟩ := Dg.reads I hd rfl
    refine repr_of_reads' rd hs (fun z hm => ?_) hg (by omega) (fun _ _ e => e) (fun h' u tk hk => ?_) hsz
    · cases b with
      | true =>
        rw [h1 rfl] at z
        cases z
      | false => exact h2 rfl hm
    · exact ⟨.str d.shown, H, I.kept hk, ⟨_, rfl⟩, q⟩
  cases hd with
  | non =>
    cases (show u = Value.none from rx)
    exact P.repr_of_none ⟨.str _, H, I.tok _, ⟨_, rfl⟩, q⟩
  | bl x =>
    cases (show u = Value.bool x from rx)
    refine P.repr_of_bool ⟨.str _, H, I.tok _, ⟨_, rfl⟩, ?_⟩
    cases x <;> exact q
  | int i =>
    obtain ⟨t, rfl⟩ := (show ∃ t, u = Value.int i t from rx)
    exact P.repr_of_int (of_decide_eq_true hs) ⟨.str _, H, I.tok _, ⟨_, rfl⟩, q⟩
  | str x =>
    obtain ⟨t, rfl⟩ := (show ∃ t, u = Value.str x t from rx)
    exact P.repr_of_str ⟨.str _, H, I.tok _, ⟨_, rfl⟩, q⟩ hsz
  | tup h q' => exact big _ rfl
  | lst n h q' => exact big _ rfl
  | lstF n m h q' => exact big _ rfl
  | dic0 n h => exact big _ rfl
  | dic1 n h => exact big _ rfl
/-! ### a tuple times nought, times one -/
theorem mul_one_meets (l : Addr) (items : Array Value) (n : Nat) (dd : Option Addr) (sl : Array (Option Value)) (u : Tok) :
    Meets (Builtin.«tuple.__mul__» ⟨[.ref l, .int 1 u], []⟩)
      (fun _ R s => s.heap.get? l = some { cls := .type "tuple", dict := dd, data := .seq items n, slots := sl } ∧ R (.ok (.ret (Value.ref l))) s) :=
  .of_wp fun prog w A R s h => by
    obtain ⟨hp, g, d, tk, os⟩ := s
    obtain ⟨hl, h⟩ := h
    have f1 := AutoSeq1.idx_int
    have c1 : (items.isEmpty || (1 : Int) == 1) = true := by simp
    wp_walk using wpAny_loadPart' hl
    repeat (first
      | (refine wpAny_ite_false (decide_eq_false (by decide)) ?_; wp_walk using wpAny_loadPart' hl)
      | (refine wpAny_ite_true (decide_eq_true c1) ?_; wp_walk using wpAny_loadPart' hl))
    exact ⟨_, rfl, h⟩
theorem mul_none_meets (l : Addr) (items : Array Value) (n : Nat) (dd : Option Addr) (sl : Array (Option Value)) (u : Tok) (hi : items.isEmpty = false) :
    Meets (Builtin.«tuple.__mul__» ⟨[.ref l, .int 0 u], []⟩)
      (fun _ R s => s.heap.get? l = some { cls := .type "tuple", dict := dd, data := .seq items n, slots := sl } ∧
        R (.ok (.ret (Value.ref s.heap.objs.size))) { s with heap := s.heap.push { cls := Value.type "tuple", data := Data.seq #[] }, toks := s.toks }) :=
  .of_wp fun prog w A R s h => by
    obtain ⟨hp, g, d, tk, os⟩ := s
    obtain ⟨hl, h⟩ := h
    have f1 := AutoSeq1.idx_int
    have c1 : ¬ (items.isEmpty || (0 : Int) == 1) = true := by rw [hi]; decide
    have c2 : (decide ((0 : Int) ≤ 0) || items.isEmpty) = true := by simp
    wp_walk using wpAny_loadPart' hl
    repeat (first
      | (refine wpAny_ite_false (decide_eq_false (by decide)) ?_; wp_walk using wpAny_loadPart' hl)
      | (refine wpAny_ite_false (decide_eq_false c1) ?_; wp_walk using wpAny_loadPart' hl)
      | (refine wpAny_ite_true (decide_eq_true c2) ?_; wp_walk using wpAny_loadPart' hl))
    exact ⟨_, rfl, h⟩
def rRepA (K : PySem.W.Frag) : R2 := fun x y H Q => ∃ l k xs, x = .ref l ∧ y = .int k ∧ SqT K H l xs ∧ xs ≠ [] ∧ xs.length ≤ 1000 ∧ 0 ≤ k ∧ k ≤ 1000 ∧ ∀ H' p, Same H H' → SqT K H' p (List.replicate k.toNat xs).flatten → Q (.ref p) H'
theorem op_repA {X : Cx} : OpR X (binaryOp .Mult) (rRepA X.K) := by
  intro pins s σ H x y v u Q I rx ry h
  obtain ⟨l, k, xs, rfl, rfl, hT, hne, hz, h0, h1, q⟩ := h
  by_cases h2 : 2 ≤ k
  · exact op_repT pins s σ H _ _ v u Q I rx ry ⟨l, k, xs, rfl, rfl, hT, hne, h2, h1, hz, fun p np => q _ p (same_upd np) (.inl (.inl upd_same))⟩
  · cases rx
    obtain ⟨t, rfl⟩ := ry
    obtain ⟨its, r, ⟨⟨cls, dd, data, sl⟩, ho, hc, n, hd⟩, hs⟩ := I.tuple hT
    simp only at hc hd
    subst hc hd
    rcases (by omega : k = 0 ∨ k = 1) with rfl | rfl
    · have hi : its.toArray.isEmpty = false := by
        cases its with
        | nil =>
          cases r
          exact absurd rfl hne
        | cons a b => rfl
      refine wpAny_binaryOp_repeat_ref (T := "tuple") (U := "int") (by decide) ⟨_, ho, rfl⟩ (fun s' => typeIs_int s' 0 t) noFill_tuple_mul
        F.fills_int_mul F.slot_int_rmul repeat_tuple F.slot_int_index.lookup (call_meets F.slot_int_rmul (typeIs_int s 0 t) F.entry_int_rmul (F.args_int_rmul_2 _ _)
          (int_rmul_tuple 0 t l its.toArray n dd sl) ⟨ho, rfl, ⟨_, ho, rfl⟩, call_meets F.slot_tuple_mul ⟨_, ho, rfl⟩ F.entry_tuple_mul (F.args_tuple_mul_2 _ _) (mul_none_meets l its.toArray n dd sl t hi) ⟨ho, ?_⟩⟩)
      have np := I.hok.fresh (Nat.le_refl s.heap.objs.size)
      refine ⟨.ref s.heap.objs.size, _, I.laid (t' := s.toks) (o := .tup []) (fun b ob e => Heap.get?_push_of_some _ e) (Nat.le_refl _) ?_, rfl, q _ _ (same_upd np) (.inl (.inl upd_same))⟩
      exact ⟨Nat.zero_le _, [], .nil, IsTup.new _ _⟩
    · refine wpAny_binaryOp_repeat_ref (T := "tuple") (U := "int") (by decide) ⟨_, ho, rfl⟩ (fun s' => typeIs_int s' 1 t) noFill_tuple_mul
        F.fills_int_mul F.slot_int_rmul repeat_tuple F.slot_int_index.lookup (call_meets F.slot_int_rmul (typeIs_int s 1 t) F.entry_int_rmul (F.args_int_rmul_2 _ _)
          (int_rmul_tuple 1 t l its.toArray n dd sl) ⟨ho, rfl, ⟨_, ho, rfl⟩, call_meets F.slot_tuple_mul ⟨_, ho, rfl⟩ F.entry_tuple_mul (F.args_tuple_mul_2 _ _) (mul_one_meets l its.toArray n dd sl t) ⟨ho, ?_⟩⟩)
      refine ⟨.ref l, H, I, rfl, q _ _ (Same.refl _) ?_⟩
      show SqT X.K H l (List.replicate 1 xs).flatten
      rw [show (List.replicate 1 xs).flatten = xs by simp]
      exact hT
theorem mkT {K : PySem.W.Frag} {fx : Hp} {p : Addr} {H : Hp} {b : Bool} {vs : List V} {ds : List PyData} (np : H p = none) (h : DgAll K fx H b vs ds) : Dg K fx (upd H p (.tup vs)) b (.ref p) (.tuple ds) := .tup (.inl (.inl upd_same)) (h.sm (same_upd np))
theorem mkL {K : PySem.W.Frag} {fx : Hp} {p : Addr} {H : Hp} {vs : List V} {ds : List PyData} (hf : fx p = none) (np : H p = none) (h : DgAll K fx H true vs ds) : Dg K fx (upd H p (.lst vs)) true (.ref p) (.list ds) := .lst hf upd_same (h.sm (same_upd np))
theorem RowAt.dg {K : PySem.W.Frag} {fx : Hp} {H : Hp} {b : Bool} {v : V} {r : RW} : RowAt K H v r → Dg K fx H b v (rwD r) := by
  rintro ⟨p, rfl, h⟩
  exact .tup h (.cons (.int _) (.cons (.int _) .nil))
theorem rows_dg {K : PySem.W.Frag} {fx : Hp} {H : Hp} {b : Bool} : ∀ {vs : List V} {rs : List RW}, Paired (RowAt K H) vs rs → DgAll K fx H b vs (rs.map rwD)
  | _, _, .nil => .nil
  | _, _, .cons r t => .cons r.dg (rows_dg t)
theorem bk_dg {K : PySem.W.Frag} {fx : Hp} {H : Hp} {b : Bool} (o : Option Int) : Dg K fx H b (bkV o) (bkD o) := by
  cases o with
  | none => exact .non
  | some i => exact .int i
theorem rq_row {r : RW} (h : VRow r) : RQ 2 1000 (rwD r) := by
  obtain ⟨h1, h2, h3, h4⟩ := h
  refine (RQ.tup (k := 0) (w := 100) (n := 202) (fun e he => ?_) (by show 2 * 101 ≤ 202; decide)).more (by decide) (by decide)
  have : e = .int r.1 ∨ e = .int r.2 := by simpa using he
  rcases this with rfl | rfl <;> exact RQ.int (Nat.lt_of_le_of_lt (show _ ≤ 100 by omega) (by decide))
theorem rq_bk {rs : List RW} {bk : Option Int} (v8 : rs.length ≤ 8) (h : VBack rs bk) : RQ 0 100 (bkD bk) := by
  cases bk with
  | none => exact RQ.non
  | some i =>
    have := h i rfl
    exact RQ.int (Nat.lt_of_le_of_lt (show _ ≤ 100 by omega) (by decide))
theorem rq_small {i : Int} (h : -1000 ≤ i ∧ i ≤ 1000) : RQ 0 100 (.int i) := RQ.int (Nat.lt_of_le_of_lt (show _ ≤ 1000 by omega) (by decide))
/-- what is told of rows and a back -/
theorem rq_top {ds : List PyData} {e : PyData} (h : ∀ x ∈ ds, RQ 2 1000 x) (hl : ds.length ≤ 10) (he : RQ 0 100 e) : RQ 5 40000 (.tuple [.tuple ds, e]) := by
  refine (RQ.tup (k := 3) (w := 10010) (n := 40000) (fun x hx => ?_) (by show 2 * 10011 ≤ 40000; decide)).more (by decide) (by decide)
  have : x = .tuple ds ∨ x = e := by simpa using hx
  rcases this with rfl | rfl
  · exact RQ.tup (k := 2) (w := 1000) h (by omega)
  · exact he.more (by decide) (by decide)
theorem MoveAt.dg {K : PySem.W.Frag} {fx : Hp} {H : Hp} {b : Bool} {v : V} {m : MV} : MoveAt K H v m → Dg K fx H b v (mvD m) := by
  rintro ⟨p, rfl, h⟩
  exact .tup h (.cons (.int _) (.cons (.int _) (.cons (.int _) .nil)))
theorem moves_dg {K : PySem.W.Frag} {fx : Hp} {H : Hp} {b : Bool} : ∀ {vs : List V} {ms : List MV}, Paired (MoveAt K H) vs ms → DgAll K fx H b vs (ms.map mvD)
  | _, _, .nil => .nil
  | _, _, .cons r t => .cons r.dg (moves_dg t)
theorem WinAt.dg {K : PySem.W.Frag} {fx : Hp} {H : Hp} {b : Bool} {v : V} {x y : Int} {ms : List MV} : WinAt K H v x y ms → Dg K fx H b v (winD x y ms) := by
  rintro ⟨p, mv, rfl, h, pm, vs, rfl, hq, pd⟩
  exact .tup h (.cons (.int _) (.cons (.int _) (.cons (.tup hq (moves_dg pd)) .nil)))
theorem LyAt.dg {K : PySem.W.Frag} {fx : Hp} {H : Hp} {b : Bool} {v : V} {l : LY} : LyAt K H v l → Dg K fx H b v (lyD l) := by
  rintro ⟨p, rv, rfl, h, pr, vs, rfl, hq, pd⟩
  exact .tup h (.cons (.tup hq (rows_dg pd)) (.cons (bk_dg _) .nil))
theorem lays_dg {K : PySem.W.Frag} {fx : Hp} {H : Hp} {b : Bool} : ∀ {vs : List V} {ls : List LY}, Paired (LyAt K H) vs ls → DgAll K fx H b vs (ls.map lyD)
  | _, _, .nil => .nil
  | _, _, .cons r t => .cons r.dg (lays_dg t)
theorem rq_mv {m : MV} (h : VMove m) : RQ 2 1000 (mvD m) := by
  obtain ⟨h1, h2, h3, h4⟩ := h
  refine (RQ.tup (k := 0) (w := 100) (n := 303) (fun e he => ?_) (by show 3 * 101 ≤ 303; decide)).more (by decide) (by decide)
  have : e = .int m.1 ∨ e = .int m.2.1 ∨ e = .int m.2.2 := by simpa using he
  rcases this with rfl | rfl | rfl <;> exact rq_small ⟨by omega, by omega⟩
theorem rq_ly {l : LY} (h : VLy l) : RQ 4 19000 (lyD l) := by
  obtain ⟨⟨h8, hr⟩, hb⟩ := h
  refine (RQ.tup (k := 3) (w := 9000) (n := 19000) (fun x hx => ?_) (by show 2 * 9001 ≤ 19000; decide)).more (by decide) (by decide)
  have : x = .tuple (l.1.map rwD) ∨ x = bkD l.2 := by simpa using hx
  rcases this with rfl | rfl
  · refine (RQ.tup (k := 2) (w := 1000) (n := 9000) (fun x hx => ?_) ?_)
    · obtain ⟨r, hm, rfl⟩ := List.mem_map.mp hx
      exact rq_row (hr r hm)
    · rw [List.length_map]
      omega
  · exact (rq_bk h8 hb).more (by decide) (by decide)
/-- three of a window, the last the moves -/
theorem rq_win {ds : List PyData} {e f : PyData} (h : ∀ x ∈ ds, RQ 2 1000 x) (hl : ds.length ≤ 10) (he : RQ 2 1000 e) (hf : RQ 2 1000 f) : RQ 5 40000 (.tuple [e, f, .tuple ds]) := by
  refine (RQ.tup (k := 3) (w := 10010) (n := 40000) (fun x hx => ?_) (by show 3 * 10011 ≤ 40000; decide)).more (by decide) (by decide)
  have : x = e ∨ x = f ∨ x = .tuple ds := by simpa using hx
  rcases this with rfl | rfl | rfl
  · exact he.more (by decide) (by decide)
  · exact hf.more (by decide) (by decide)
  · exact RQ.tup (k := 2) (w := 1000) h (by omega)
theorem lay_true {l : LY} (h : VLy l) : isLayD (lyD l) = true := by
  obtain ⟨⟨h8, hr⟩, hb⟩ := h
  show (decide ((l.1.map rwD).length ≤ 8) && (l.1.map rwD).all isRowD && bkOk (bkD l.2) (((l.1.map rwD).length : Int) - 1)) = true
  rw [List.length_map, decide_eq_true h8, Bool.true_and, Bool.and_eq_true]
  constructor
  · rw [List.all_eq_true]
    intro x hx
    obtain ⟨r, hm, rfl⟩ := List.mem_map.mp hx
    obtain ⟨h1, h2, h3, h4⟩ := hr r hm
    show (decide (0 ≤ r.1 ∧ r.1 ≤ 9) && decide (1 ≤ r.2 ∧ r.2 ≤ 24)) = true
    rw [decide_eq_true ⟨h1, h2⟩, decide_eq_true ⟨h3, h4⟩]
    rfl
  · cases e : l.2 with
    | none => rfl
    | some i =>
      have := hb i e
      show decide (0 ≤ i ∧ i ≤ (l.1.length : Int) - 1) = true
      exact decide_eq_true ⟨by omega, by omega⟩
theorem win_true {x y : Int} {ms : List MV} (h : VWin x y ms) : isWinD (winD x y ms) = true := by
  obtain ⟨hx, hy, h8, hm⟩ := h
  show (isSpotD (.int x) (.int y) && decide ((ms.map mvD).length ≤ 8) && (ms.map mvD).all isMoveD) = true
  rw [List.length_map, decide_eq_true h8]
  have e1 : isSpotD (.int x) (.int y) = true := by
    show (decide (-20 ≤ x ∧ x ≤ 20) && decide (-20 ≤ y ∧ y ≤ 20)) = true
    rw [decide_eq_true hx, decide_eq_true hy]
    rfl
  rw [e1, Bool.true_and, Bool.true_and, List.all_eq_true]
  intro d hd
  obtain ⟨m, hmm, rfl⟩ := List.mem_map.mp hd
  obtain ⟨h1, h2, h3, h4⟩ := hm m hmm
  show ((decide (-20 ≤ m.1 ∧ m.1 ≤ 20) && decide (-20 ≤ m.2.1 ∧ m.2.1 ≤ 20)) && decide (0 ≤ m.2.2 ∧ m.2.2 ≤ 24)) = true
  rw [decide_eq_true h1, decide_eq_true h2, decide_eq_true ⟨h3, h4⟩]
  rfl
theorem lays_true {ls : List LY} (h : ∀ l ∈ ls, VLy l) : (ls.map lyD).all isLayD = true := by
  rw [List.all_eq_true]
  intro d hd
  obtain ⟨l, hl, rfl⟩ := List.mem_map.mp hd
  exact lay_true (h l hl)
theorem mkF {K : PySem.W.Frag} {fx : Hp} {p : Addr} {H : Hp} {vs : List V} {ds : List PyData} (hf : fx p = none) (hm : p ≠ sysModules) (np : H p = none) (h : DgAll K fx H false vs ds) : Dg K fx (upd H p (.lst vs)) false (.ref p) (.list ds) := .lstF hf hm upd_same (h.sm (same_upd np))

/-! ### things made of plain parts, part by part -/
def MkD (K : PySem.W.Frag) (fx : Hp) (t : TE) (σ : L2.St) (H0 : Hp) (d : PyData) : Prop := ∀ H, Same H0 H → ∀ Q : VK, (∀ v H', Same H H' → Dg K fx H' false v d → Q v H') → t σ H Q
def MkA (K : PySem.W.Frag) (fx : Hp) (t : TA) (σ : L2.St) (H0 : Hp) (ds : List PyData) : Prop := ∀ H, Same H0 H → ∀ Q : List V → Hp → Prop, (∀ vs H', Same H H' → DgAll K fx H' false vs ds → Q vs H') → t σ H Q
theorem MkD.run {K : PySem.W.Frag} {fx : Hp} {t : TE} {σ : L2.St} {H : Hp} {d : PyData} {Q : VK} (m : MkD K fx t σ H d) (h : ∀ v H', Same H H' → Dg K fx H' false v d → Q v H') : t σ H Q := m H (Same.refl _) Q h
theorem MkD.non {K : PySem.W.Frag} {fx : Hp} {σ : L2.St} {H0 : Hp} : MkD K fx (tC .non) σ H0 .none := fun H _ _ h => h _ H (Same.refl _) .non
theorem MkD.bl {K : PySem.W.Frag} {fx : Hp} {σ : L2.St} {H0 : Hp} {x : Bool} : MkD K fx (tC (.bl x)) σ H0 (.bool x) := fun H _ _ h => h _ H (Same.refl _) (.bl x)
theorem MkD.int {K : PySem.W.Frag} {fx : Hp} {σ : L2.St} {H0 : Hp} {i : Int} : MkD K fx (tC (.int i)) σ H0 (.int i) := fun H _ _ h => h _ H (Same.refl _) (.int i)
theorem MkD.str {K : PySem.W.Frag} {fx : Hp} {σ : L2.St} {H0 : Hp} {x : Str} : MkD K fx (tC (.str x)) σ H0 (.str x) := fun H _ _ h => h _ H (Same.refl _) (.str x)
theorem MkD.var {K : PySem.W.Frag} {fx : Hp} {σ : L2.St} {H0 : Hp} {i : Nat} {v : V} {d : PyData} (hd : Dg K fx H0 false v d) (h : σ[i]? = some (some v) := by rfl) : MkD K fx (tVar i) σ H0 d := fun H s _ q => ⟨v, h, q v H (Same.refl _) (hd.sm s)⟩
theorem MkA.nil {K : PySem.W.Frag} {fx : Hp} {σ : L2.St} {H0 : Hp} : MkA K fx tNil σ H0 [] := fun H _ _ h => h _ H (Same.refl _) .nil
theorem MkA.cons {K : PySem.W.Frag} {fx : Hp} {σ : L2.St} {H0 : Hp} {te : TE} {t : TA} {d : PyData} {ds : List PyData} (a : MkD K fx te σ H0 d) (b : MkA K fx t σ H0 ds) : MkA K fx (tCons te t) σ H0 (d :: ds) := fun H s _ q =>
  a H s _ fun v H1 s1 h1 => b H1 (s.trans s1) _ fun vs H2 s2 h2 => q _ H2 (s1.trans s2) (.cons (h1.sm s2) h2)
theorem MkD.tup {K : PySem.W.Frag} {fx : Hp} {σ : L2.St} {H0 : Hp} {t : TA} {ds : List PyData} (a : MkA K fx t σ H0 ds) (hl : ds.length ≤ 1000 := by exact Nat.le_of_ble_eq_true rfl) : MkD K fx (tTup t) σ H0 (.tuple ds) := fun H s _ q =>
  a H s _ fun vs H1 s1 h1 => ⟨Nat.le_of_lt (small1000 (by rw [DgAll.len h1]; exact hl)), fun p np => q _ _ (s1.trans (same_upd np)) (mkT np h1)⟩
theorem MkD.lst {K : PySem.W.Frag} {fx : Hp} {σ : L2.St} {H0 : Hp} {t : TA} {ds : List PyData} (hf : ∀ p, H0 p = none → fx p = none) (a : MkA K fx t σ H0 ds) (hl : ds.length ≤ 1000 := by exact Nat.le_of_ble_eq_true rfl) : MkD K fx (tLstS t) σ H0 (.list ds) := fun H s _ q =>
  a H s _ fun vs H1 s1 h1 => ⟨Nat.le_of_lt (small1000 (by rw [DgAll.len h1]; exact hl)), fun p np ne => q _ _ (s1.trans (same_upd np)) (mkF (hf _ ((s.trans s1).free np)) ne np h1)⟩
theorem Dg.tupI {K : PySem.W.Frag} {fx H : Hp} {b : Bool} {v : V} {ds : List PyData} (h : Dg K fx H b v (.tuple ds)) : ∃ a xs, v = .ref a ∧ SqT K H a xs ∧ DgAll K fx H b xs ds := by
  cases h with
  | tup h q => exact ⟨_, _, rfl, h, q⟩
theorem Dg.lstI {K : PySem.W.Frag} {fx H : Hp} {v : V} {ds : List PyData} (h : Dg K fx H false v (.list ds)) : ∃ a xs, v = .ref a ∧ fx a = none ∧ a ≠ sysModules ∧ H a = some (.lst xs) ∧ DgAll K fx H false xs ds := by
  cases h with
  | lstF f m h q => exact ⟨_, _, rfl, f, m, h, q⟩
theorem Dg.intI {K : PySem.W.Frag} {fx H : Hp} {b : Bool} {v : V} {i : Int} (h : Dg K fx H b v (.int i)) : v = .int i := by
  cases h with
  | int => rfl
theorem MkD.cat {K : PySem.W.Frag} {fx : Hp} {σ : L2.St} {H0 : Hp} {ta tb : TE} {ds es : List PyData} (hl : ds.length + es.length ≤ 1000) (a : MkD K fx ta σ H0 (.tuple ds)) (b : MkD K fx tb σ H0 (.tuple es)) : MkD K fx (tOp (rCatA K) ta tb) σ H0 (.tuple (ds ++ es)) := fun H s _ q =>
  a H s _ fun v H1 s1 h1 => b H1 (s.trans s1) _ fun u H2 s2 h2 => by
    obtain ⟨p, xs, rfl, hp, dx⟩ := (h1.sm s2).tupI
    obtain ⟨r, ys, rfl, hr, dy⟩ := h2.tupI
    refine cat_any hp hr (by rw [DgAll.len dx, DgAll.len dy]; exact hl) fun H3 z s3 hz => q _ _ ((s1.trans s2).trans s3) (.tup hz (DgAll.app (dy.sm s3) (dx.sm s3)))
/-- a list of things, itself not among what is shown -/
def MkL (K : PySem.W.Frag) (fx : Hp) (t : TE) (σ : L2.St) (H0 : Hp) (ds : List PyData) : Prop := ∀ H, Same H0 H → ∀ Q : VK, (∀ a us H', Same H H' → fx a = none → H' a = some (.lst us) → DgAll K fx H' false us ds → Q (.ref a) H') → t σ H Q
theorem MkL.lst {K : PySem.W.Frag} {fx : Hp} {σ : L2.St} {H0 : Hp} {t : TA} {ds : List PyData} (hf : ∀ p, H0 p = none → fx p = none) (a : MkA K fx t σ H0 ds) (hl : ds.length ≤ 1000 := by exact Nat.le_of_ble_eq_true rfl) : MkL K fx (tLstS t) σ H0 ds := fun H s _ q =>
  a H s _ fun vs H1 s1 h1 => ⟨Nat.le_of_lt (small1000 (by rw [DgAll.len h1]; exact hl)), fun p np _ => q _ _ _ (s1.trans (same_upd np)) (hf _ ((s.trans s1).free np)) upd_same (h1.sm (same_upd np))⟩
theorem MkL.var {K : PySem.W.Frag} {fx : Hp} {σ : L2.St} {H0 : Hp} {i : Nat} {a : Addr} {us : List V} {ds : List PyData} (hf : fx a = none) (he : H0 a = some (.lst us)) (hd : DgAll K fx H0 false us ds) (h : σ[i]? = some (some (.ref a)) := by rfl) : MkL K fx (tVar i) σ H0 ds := fun H s _ q => ⟨.ref a, h, q a us H (Same.refl _) hf (s _ _ he) (hd.sm s)⟩
theorem MkL.cat {K : PySem.W.Frag} {fx : Hp} {σ : L2.St} {H0 : Hp} {ta tb : TE} {ds es : List PyData} (hf : ∀ p, H0 p = none → fx p = none) (a : MkL K fx ta σ H0 ds) (b : MkL K fx tb σ H0 es) (hl : ds.length + es.length ≤ 1000 := by exact Nat.le_of_ble_eq_true rfl) : MkL K fx (tOp rCat ta tb) σ H0 (ds ++ es) := fun H s _ q =>
  a H s _ fun p xs H1 s1 _ hp dx => b H1 (s.trans s1) _ fun r ys H2 s2 _ hr dy => by
    have dx := dx.sm s2
    refine ⟨p, r, xs, ys, rfl, rfl, s2 _ _ hp, hr, Nat.le_of_lt (small1000 (by rw [DgAll.len dx, DgAll.len dy]; exact hl)), fun z nz => ?_⟩
    exact q _ _ _ ((s1.trans s2).trans (same_upd nz)) (hf _ (((s.trans s1).trans s2).free nz)) upd_same ((DgAll.app dy dx).sm (same_upd nz))
theorem MkL.seq {K : PySem.W.Frag} {fx : Hp} {te : TE} {i : Nat} {u : TS} {D : Ends} {σ : L2.St} {H : Hp} {ds : List PyData} (m : MkL K fx te σ H ds) (h : ∀ a us H', Same H H' → fx a = none → H' a = some (.lst us) → DgAll K fx H' false us ds → u D (σ.set i (some (.ref a))) H') : tSeq (tAsg te (gName i)) u D σ H := m H (Same.refl _) _ h
theorem MkL.op {K : PySem.W.Frag} {fx : Hp} {r : R2} {ta tb : TE} {σ : L2.St} {H : Hp} {ds : List PyData} {Q : VK} (m : MkL K fx ta σ H ds) (h : ∀ a us H', Same H H' → fx a = none → H' a = some (.lst us) → DgAll K fx H' false us ds → tb σ H' fun y H2 => r (.ref a) y H2 Q) : tOp r ta tb σ H Q := m H (Same.refl _) _ h
theorem MkD.dic0 {K : PySem.W.Frag} {fx : Hp} {σ : L2.St} {H0 : Hp} (hf : ∀ p, H0 p = none → fx p = none) : MkD K fx tDNewK σ H0 (.dict []) := fun H s _ q p np => q _ _ (same_upd np) (.dic0 (hf _ (s.free np)) upd_same)
theorem MkD.dic1 {K : PySem.W.Frag} {fx : Hp} {σ : L2.St} {H0 : Hp} {k : Str} {i : Int} (hf : ∀ p, H0 p = none → fx p = none) : MkD K fx (tDisp [(tC (.str k), tC (.int i))]) σ H0 (.dict [(.str k, .int i)]) := fun H s _ q p np => by
  refine ⟨upd_same, [(Sum.inr k, .int i)], rfl, Nat.le_of_ble_eq_true rfl, ?_⟩
  rw [upd_upd]
  exact q _ _ (same_upd np) (.dic1 (k := Sum.inr k) (hf _ (s.free np)) upd_same)
theorem MkD.dic1i {K : PySem.W.Frag} {fx : Hp} {σ : L2.St} {H0 : Hp} {k : Int} {i : Int} (hf : ∀ p, H0 p = none → fx p = none) : MkD K fx (tDisp [(tC (.int k), tC (.int i))]) σ H0 (.dict [(.int k, .int i)]) := fun H s _ q p np => by
  refine ⟨upd_same, [(Sum.inl k, .int i)], rfl, Nat.le_of_ble_eq_true rfl, ?_⟩
  rw [upd_upd]
  exact q _ _ (same_upd np) (.dic1 (k := Sum.inl k) (hf _ (s.free np)) upd_same)
theorem DgAll.rep {K : PySem.W.Frag} {fx H : Hp} {b : Bool} {xs : List V} {ds : List PyData} (h : DgAll K fx H b xs ds) : ∀ k : Nat, DgAll K fx H b (List.replicate k xs).flatten (List.replicate k ds).flatten
  | 0 => .nil
  | k + 1 => by
    rw [List.replicate_succ, List.replicate_succ, List.flatten_cons, List.flatten_cons]
    exact DgAll.app (DgAll.rep h k) h
theorem MkD.rep {K : PySem.W.Frag} {fx : Hp} {σ : L2.St} {H0 : Hp} {ta : TE} {ds : List PyData} {k : Nat} (h0 : ds ≠ []) (hl : ds.length ≤ 1000) (hk : k ≤ 1000) (a : MkD K fx ta σ H0 (.tuple ds)) : MkD K fx (tOp (rRepA K) ta (tC (.int (k : Int)))) σ H0 (.tuple (List.replicate k ds).flatten) := fun H s _ q =>
  a H s _ fun v H1 s1 h1 => by
    obtain ⟨p, xs, rfl, hp, dx⟩ := h1.tupI
    have lx := DgAll.len dx
    refine ⟨p, (k : Int), xs, rfl, rfl, hp, fun z => ?_, by omega, by omega, by omega, fun H2 r s2 h2 => q _ _ (s1.trans s2) (.tup h2 ?_)⟩
    · rw [z] at lx
      exact h0 (List.length_eq_zero_iff.mp lx.symm)
    · rw [Int.toNat_natCast]
      exact DgAll.rep (dx.sm s2) k
theorem MkD.tail {K : PySem.W.Frag} {fx : Hp} {σ : L2.St} {H0 : Hp} {ta : TE} {ds : List PyData} (a : MkD K fx ta σ H0 (.tuple ds)) : MkD K fx (tSl (rSlA K) ta (tPart (tC (.int 1))) tNoPart) σ H0 (.tuple (ds.drop 1)) := fun H s _ q =>
  a H s _ fun v H1 s1 h1 => by
    obtain ⟨p, xs, rfl, hp, dx⟩ := h1.tupI
    refine ⟨1, rfl, sl_any hp fun H2 r s2 h2 => q _ _ (s1.trans s2) (.tup h2 ?_)⟩
    rw [show cutV xs (some 1) none = xs.drop 1 from cut_from xs 1]
    exact DgAll.dr 1 (dx.sm s2)
theorem MkD.list {K : PySem.W.Frag} {fx : Hp} {σ : L2.St} {H0 : Hp} {ta : TE} {ds : List PyData} (hf : ∀ p, H0 p = none → fx p = none) (a : MkD K fx ta σ H0 (.tuple ds)) : MkD K fx (tCB (rListS K) (tCons ta tNil)) σ H0 (.list ds) := fun H s _ q =>
  a H s _ fun v H1 s1 h1 => by
    obtain ⟨p, xs, rfl, hp, dx⟩ := h1.tupI
    exact ⟨p, xs, rfl, .inr hp, fun l nl ne => q _ _ (s1.trans (same_upd nl)) (mkF (hf _ ((s.trans s1).free nl)) ne nl dx)⟩
theorem MkD.neg {K : PySem.W.Frag} {fx : Hp} {σ : L2.St} {H0 : Hp} {i : Int} : MkD K fx (tUn (rU fun i => .int (-i)) (tC (.int i))) σ H0 (.int (-i)) := fun H _ _ q => ⟨i, rfl, q _ H (Same.refl _) (.int _)⟩
theorem MkD.pow {K : PySem.W.Frag} {fx : Hp} {σ : L2.St} {H0 : Hp} {i j : Int} (h : CPow i j) : MkD K fx (tOp (rI CPow fun i j => .int (i ^ j.toNat)) (tC (.int i)) (tC (.int j))) σ H0 (.int (i ^ j.toNat)) := fun H _ _ q => ⟨i, j, rfl, rfl, h, q _ H (Same.refl _) (.int _)⟩
mutual
theorem Dg.kq {K : PySem.W.Frag} {fx : Hp} {H H' : Hp} (kt : TKeep K H H') (kb : ∀ b o, fx b = none → (∀ ps, o ≠ .tbl ps) → H b = some o → H' b = some o) : ∀ {b : Bool} {v : V} {d : PyData}, Dg K fx H b v d → Dg K fx H' b v d
  | _, _, _, .non => .non
  | _, _, _, .bl x => .bl x
  | _, _, _, .int i => .int i
  | _, _, _, .str x => .str x
  | _, _, _, .tup h q => .tup (kt _ _ h) (DgAll.kq kt kb q)
  | _, _, _, .lst n h q => .lst n (kb _ _ n lst_tbl h) (DgAll.kq kt kb q)
  | _, _, _, .lstF n m h q => .lstF n m (kb _ _ n lst_tbl h) (DgAll.kq kt kb q)
  | _, _, _, .dic0 n h => .dic0 n (kb _ _ n (fun ps z => by cases z) h)
  | _, _, _, .dic1 n h => .dic1 n (kb _ _ n (fun ps z => by cases z) h)
theorem DgAll.kq {K : PySem.W.Frag} {fx : Hp} {H H' : Hp} (kt : TKeep K H H') (kb : ∀ b o, fx b = none → (∀ ps, o ≠ .tbl ps) → H b = some o → H' b = some o) : ∀ {b : Bool} {v : List V} {d : List PyData}, DgAll K fx H b v d → DgAll K fx H' b v d
  | _, _, _, .nil => .nil
  | _, _, _, .cons h q => .cons (Dg.kq kt kb h) (DgAll.kq kt kb q)
end
theorem sx_some {st : Addr} {H : Hp} (hs : IsSx H st) : H st ≠ none := by
  obtain ⟨a, b, e, _⟩ := hs
  intro z
  rw [z] at e
  cases e
theorem Dg.gw {TS : List (Addr × Str)} {K : PySem.W.Frag} {fx : Hp} {st : Addr} {H H' : Hp} {b : Bool} {v : V} {d : PyData} (g : Gw TS st H H') (hs : IsSx H st) (hf : fx st ≠ none) (h : Dg K fx H b v d) : Dg K fx H' b v d := Dg.kq (g.tk hs) (fun b o hb z e => g.1 b o (fun y => hf (by rw [← y]; exact hb)) z e) h
theorem DgAll.gw {TS : List (Addr × Str)} {K : PySem.W.Frag} {fx : Hp} {st : Addr} {H H' : Hp} {b : Bool} {v : List V} {d : List PyData} (g : Gw TS st H H') (hs : IsSx H st) (hf : fx st ≠ none) (h : DgAll K fx H b v d) : DgAll K fx H' b v d := DgAll.kq (g.tk hs) (fun b o hb z e => g.1 b o (fun y => hf (by rw [← y]; exact hb)) z e) h
theorem Dg.gx {K : PySem.W.Frag} {fx : Hp} {st : Addr} {H H' : Hp} {b : Bool} {v : V} {d : PyData} (g : Gx st H H') (hs : IsSx H st) (hf : fx st ≠ none) (h : Dg K fx H b v d) : Dg K fx H' b v d := Dg.gw (TS := []) g.l hs hf h
theorem DgAll.gx {K : PySem.W.Frag} {fx : Hp} {st : Addr} {H H' : Hp} {b : Bool} {v : List V} {d : List PyData} (g : Gx st H H') (hs : IsSx H st) (hf : fx st ≠ none) (h : DgAll K fx H b v d) : DgAll K fx H' b v d := DgAll.gw (TS := []) g.l hs hf h

theorem tk_at {K : PySem.W.Frag} {H : Hp} {D : Addr} {o : HO} (n : ∀ xs, ¬ Rd H D (.tup xs)) : TKeep K H (upd H D o) := fun a xs h => by
  rcases h with (h | ⟨u, h⟩) | h
  · refine .inl (.inl ?_)
    rw [upd_ne fun z => n xs (.inl (by rw [← z]; exact h))]
    exact h
  · refine .inl (.inr ⟨u, ?_⟩)
    rw [upd_ne fun z => n xs (.inr ⟨u, by rw [← z]; exact h⟩)]
    exact h
  · exact .inr h
theorem no_tup {H : Hp} {D : Addr} {o : HO} (e : H D = some o) (h1 : ∀ xs, o ≠ .tup xs) (h2 : ∀ u xs, o ≠ .frz u (.tup xs)) : ∀ xs, ¬ Rd H D (.tup xs) := fun xs h => by
  rcases h with h | ⟨u, h⟩
  · rw [e] at h
    exact h1 _ (Option.some.inj h)
  · rw [e] at h
    exact h2 _ _ (Option.some.inj h)
theorem tk_d {K : PySem.W.Frag} {H : Hp} {D : Addr} {kvs : List (Key × V)} {o : HO} (e : H D = some (.dK kvs)) : TKeep K H (upd H D o) := tk_at (no_tup e (fun _ z => by cases z) (fun _ _ z => by cases z))

/-! ### dicts whose keys are tuples of tuples -/
section
variable {X : Cx} {pins : List (Addr × Obj)} {σ : L2.St} {H : Hp} {s : Shared}
mutual
theorem dp_nk (I : Inv X pins σ H s) : ∀ (k : NestedKey) (v : V) (u : Value), Dp X.K H v k.data → RelV v u → NestedIs s.heap k u
  | .none, _, _, h, r => by
    cases h
    cases r
    exact .none
  | .num i, _, _, h, r => by
    cases h
    obtain ⟨t, rfl⟩ := r
    exact .int i t
  | .text z, _, _, h, r => by
    cases h
    obtain ⟨t, rfl⟩ := r
    exact .text z t
  | .tup ks, _, _, h, r => by
    cases h with
    | tup hs ha =>
      cases r
      obtain ⟨its, rv, ⟨o, e1, e2, n, e3⟩, _⟩ := I.tuple hs
      exact .tup e1 e2 e3 (by simpa using dps_nk I ks _ _ ha rv)
theorem dps_nk (I : Inv X pins σ H s) : ∀ (ks : List NestedKey) (vs : List V) (us : List Value), DpAll X.K H vs (NestedKey.datas ks) → Vals vs us → NestedAll s.heap ks us
  | [], _, _, h, r => by
    cases h
    cases r
    exact .nil
  | k :: ks, _, _, h, r => by
    cases h with
    | cons h1 h2 =>
      cases r with
      | cons r1 r2 => exact .cons (dp_nk I k _ _ h1 r1) (dps_nk I ks _ _ h2 r2)
end
end
abbrev NRow : Type := NestedKey × Addr × Value
/-- the dict's one object -/
def RawN (P : Program) (w : World) (a : Addr) (xs : List NRow) : Heap → Prop := fun h => ∃ o es ep, h.get? a = some o ∧ o.ExactDict ∧ o.data = .dict es ep ∧ es.toList = xs.map (entryOfKey (nestedKind P w))
def DicO (P : Program) (w : World) (a : Addr) (xs : List NRow) : HO := .ext (RawN P w a xs)
def NRel (K : PySem.W.Frag) (H : Hp) (p : NestedKey × V) (q : NRow) : Prop := p.1 = q.1 ∧ RelV p.2 q.2.2 ∧ Dp K H (.ref q.2.1) p.1.data ∧ p.1.depth ≤ 8
def DictN (P : Program) (w : World) (K : PySem.W.Frag) (H : Hp) (a : Addr) (kvs : List (NestedKey × V)) : Prop :=
  (kvs = [] ∧ H a = some (.dK [])) ∨ ∃ xs, H a = some (DicO P w a xs) ∧ Paired (NRel K H) kvs xs ∧ (kvs.map (·.1)).Nodup ∧ kvs.length ≤ sizeLine ∧ (a == sysModules) = false
def valN (kvs : List (NestedKey × V)) (k : NestedKey) : Option V := (kvs.find? fun p => decide (p.1 = k)).map (·.2)
theorem raw_at {P : Program} {w : World} {a : Addr} {xs : List NRow} {h1 h2 : Heap} (r : RawN P w a xs h1) (k : ∀ o, h1.get? a = some o → h2.get? a = some o) : RawN P w a xs h2 := by
  obtain ⟨o, es, ep, e, r⟩ := r
  exact ⟨o, es, ep, k o e, r⟩
theorem dicO_new {P : Program} {w : World} {H : Hp} {a : Addr} {xs : List NRow} {h : Heap} (r : RawN P w a xs h) : ObjOk P w H h a (DicO P w a xs) := by
  obtain ⟨o, es, ep, e, r'⟩ := id r
  exact ⟨r, ⟨o, e⟩, fun h1 h2 z k => raw_at z k⟩
theorem NRel.keep {K : PySem.W.Frag} {H H' : Hp} {p : NestedKey × V} {q : NRow} (k : TKeep K H H') (kl : ∀ b xs, H b = some (.lst xs) → H' b = some (.lst xs)) (h : NRel K H p q) (nl : ∀ v d, Dp K H v d → Dp K H' v d) : NRel K H' p q := ⟨h.1, h.2.1, nl _ _ h.2.2.1, h.2.2.2⟩
mutual
theorem nk_keep {K : PySem.W.Frag} {H H' : Hp} (t : TKeep K H H') : ∀ (k : NestedKey) (v : V), Dp K H v k.data → Dp K H' v k.data
  | .none, _, h => by cases h; exact .non
  | .num i, _, h => by cases h; exact .int i
  | .text z, _, h => by cases h; exact .str z
  | .tup ks, _, h => by
    cases h with
    | tup hs ha => exact .tup (t _ _ hs) (nks_keep t ks _ ha)
theorem nks_keep {K : PySem.W.Frag} {H H' : Hp} (t : TKeep K H H') : ∀ (ks : List NestedKey) (vs : List V), DpAll K H vs (NestedKey.datas ks) → DpAll K H' vs (NestedKey.datas ks)
  | [], _, h => by cases h; exact .nil
  | k :: ks, _, h => by
    cases h with
    | cons h1 h2 => exact .cons (nk_keep t k _ h1) (nks_keep t ks _ h2)
end
theorem DictN.keep {P : Program} {w : World} {K : PySem.W.Frag} {H H' : Hp} {a : Addr} {kvs : List (NestedKey × V)} (t : TKeep K H H') (ha : ∀ o, H a = some o → H' a = some o) (h : DictN P w K H a kvs) : DictN P w K H' a kvs := by
  rcases h with ⟨e, h⟩ | ⟨xs, h, pd, r⟩
  · exact .inl ⟨e, ha _ h⟩
  · exact .inr ⟨xs, ha _ h, Paired.mono pd fun p q z => ⟨z.1, z.2.1, nk_keep t _ _ z.2.2.1, z.2.2.2⟩, r⟩
theorem DictN.same {P : Program} {w : World} {K : PySem.W.Frag} {H H' : Hp} {a : Addr} {kvs : List (NestedKey × V)} (s : Same H H') (h : DictN P w K H a kvs) : DictN P w K H' a kvs := h.keep (Same.tk s) fun o e => s _ _ e
theorem at_rel {K : PySem.W.Frag} {H : Hp} {k : NestedKey} : ∀ {kvs : List (NestedKey × V)} {xs : List NRow}, Paired (NRel K H) kvs xs → (valN kvs k = none ↔ atKey xs k = none) ∧ ∀ v, valN kvs k = some v → ∃ p, atKey xs k = some p ∧ RelV v p.2
  | _, _, .nil => ⟨⟨fun _ => rfl, fun _ => rfl⟩, fun v h => by cases h⟩
  | p :: kvs, q :: xs, .cons r t => by
    obtain ⟨i1, i2⟩ := at_rel (k := k) t
    by_cases hk : p.1 = k
    · have e1 : valN (p :: kvs) k = some p.2 := by
        unfold valN
        rw [List.find?_cons_of_pos (by simpa using hk)]
        rfl
      have e2 : atKey (q :: xs) k = some q.2 := by
        unfold atKey
        rw [List.find?_cons_of_pos (by simpa using r.1.symm.trans hk)]
        rfl
      rw [e1, e2]
      exact ⟨⟨fun z => (nomatch z), fun z => (nomatch z)⟩, fun v z => by cases z; exact ⟨_, rfl, r.2.1⟩⟩
    · have e1 : valN (p :: kvs) k = valN kvs k := by
        unfold valN
        rw [List.find?_cons_of_neg (by simpa using hk)]
      have e2 : atKey (q :: xs) k = atKey xs k := by
        unfold atKey
        rw [List.find?_cons_of_neg (by simpa using fun z => hk (r.1.trans z))]
      rw [e1, e2]
      exact ⟨i1, i2⟩
section
variable {X : Cx} {pins : List (Addr × Obj)} {σ : L2.St} {H : Hp} {s : Shared}
theorem rel_is (I : Inv X pins σ H s) {kvs : List (NestedKey × V)} {xs : List NRow} (pd : Paired (NRel X.K H) kvs xs) : ∀ x ∈ xs, (nestedKind X.prog X.w).is s.heap x.1 x.2.1 := by
  induction pd with
  | nil => intro x hx; cases hx
  | cons r _ ih =>
    intro x hx
    rcases List.mem_cons.mp hx with rfl | hx
    · refine ⟨?_, ?_⟩
      · rw [← r.1]
        exact dp_nk I _ _ _ r.2.2.1 rfl
      · rw [← r.1]
        exact r.2.2.2
    · exact ih x hx
theorem rel_keys {K : PySem.W.Frag} {kvs : List (NestedKey × V)} {xs : List NRow} (pd : Paired (NRel K H) kvs xs) : xs.map (·.1) = kvs.map (·.1) := by
  induction pd with
  | nil => rfl
  | cons r _ ih => rw [List.map_cons, List.map_cons, ih, r.1]
/-- what is read off such a dict -/
theorem DictN.at {a : Addr} {kvs : List (NestedKey × V)} (I : Inv X pins σ H s) (h : DictN X.prog X.w X.K H a kvs) : ∃ xs, s.heap.DictOfH (nestedKind X.prog X.w) a xs ∧ Paired (NRel X.K H) kvs xs ∧ (kvs.map (·.1)).Nodup ∧ kvs.length ≤ sizeLine ∧ (a == sysModules) = false ∧ Mut (H a) ∧ TKeep X.K H (upd H a (.dK [])) := by
  rcases h with ⟨rfl, h⟩ | ⟨xs, h, pd, nd, hl, ha⟩
  · obtain ⟨hl, hd, vs, rel, o, es, ep, e1, e2, e3, _, e5, _⟩ := dk_of I.hok h
    cases rel
    refine ⟨[], ⟨o, es, ep, e1, e2, e3, ?_, (fun x hx => by cases hx), List.nodup_nil⟩, .nil, List.nodup_nil, hl, hd, ?_, tk_d h⟩
    · cases q : es.toList with
      | nil => rfl
      | cons y ys => rw [q] at e5; cases e5
    · rw [h]; trivial
  · obtain ⟨⟨o, es, ep, e1, e2, e3, e4⟩, _⟩ := (show ObjOk X.prog X.w H s.heap a (DicO X.prog X.w a xs) from I.hok a _ h)
    refine ⟨xs, ⟨o, es, ep, e1, e2, e3, e4, rel_is I pd, by rw [rel_keys pd]; exact nd⟩, pd, nd, hl, ha, ?_, ?_⟩
    · rw [h]; trivial
    · exact tk_at (no_tup h (fun _ z => by cases z) (fun _ _ z => by cases z))
/-- d.setdefault(k, z), d with such keys -/
theorem d_setdN {A : Around} {E : Value → Shared → Prop} {Q : Value → Shared → Prop} {a b : Addr} {r : Value} {d : V} {k : NestedKey} {kvs : List (NestedKey × V)} (hu : A.in1.units + 8 < cLine) (I : Inv X pins σ H s) (hd : DictN X.prog X.w X.K H a kvs) (hk : Dp X.K H (.ref b) k.data) (dk : k.depth ≤ 8) (rd : RelV d r) (hl : kvs.length < 10000)
    (h1 : ∀ v, valN kvs k = some v → ∀ (w' : Value) (s' : Shared), Inv X pins σ H s' → RelV v w' → Q w' s')
    (h2 : valN kvs k = none → ∀ (o : HO) (w' : Value) (s' : Shared), Inv X pins σ (upd H a o) s' → TKeep X.K H (upd H a o) → DictN X.prog X.w X.K (upd H a o) a (kvs ++ [(k, d)]) → RelV d w' → Q w' s') :
    wpAny (model X.prog X.w) A (call (.builtin "dict.setdefault") [.ref a, .ref b, r]) Q E s := by
  obtain ⟨xs, hx, pd, nd, hz, hs, mu, tk⟩ := hd.at I
  obtain ⟨a1, a2⟩ := at_rel (k := k) pd
  have hlx : xs.length = kvs.length := by
    have := congrArg List.length (rel_keys pd)
    simpa using this
  refine call_setdefault_heap (knd := nestedKind X.prog X.w) (k := k) hu ⟨dp_nk I k _ _ hk rfl, dk⟩ hs hx (fun p hp => ?_) (fun hn h' hm' sb => ?_) (hsz := by rw [hlx]; exact hz)
  · cases hv : valN kvs k with
    | none => rw [a1.mp hv] at hp; cases hp
    | some v =>
      obtain ⟨p', hp', rv⟩ := a2 v hv
      rw [hp] at hp'
      cases hp'
      exact h1 v hv _ _ (I.tok _) rv
  · have hv := a1.mpr hn
    rw [storedH_new hn] at hm'
    obtain ⟨o, es, ep, e1, e2, e3, e4, _, _⟩ := hm'
    have raw : RawN X.prog X.w a (xs ++ [(k, b, r)]) h' := ⟨o, es, ep, e1, e2, e3, e4⟩
    have tk' : TKeep X.K H (upd H a (DicO X.prog X.w a (xs ++ [(k, b, r)]))) := fun y ys z => by
      have := tk y ys z
      rcases this with (q | ⟨u, q⟩) | q
      · by_cases hy : y = a
        · subst hy; rw [upd_same] at q; cases q
        · rw [upd_ne hy] at q
          exact .inl (.inl (by rw [upd_ne hy]; exact q))
      · by_cases hy : y = a
        · subst hy; rw [upd_same] at q; cases q
        · rw [upd_ne hy] at q
          exact .inl (.inr ⟨u, by rw [upd_ne hy]; exact q⟩)
      · exact .inr q
    refine h2 hv (DicO X.prog X.w a (xs ++ [(k, b, r)])) _ _ (I.write (e := a) mu (.inl rfl) (fun b u hb hu => (sb.2 b hb).trans hu) ⟨o, e1⟩ (dicO_new raw)) tk' (.inr ⟨_, upd_same, ?_, ?_, ?_, hs⟩) rd
    · exact Paired.snocP (Paired.mono pd fun p q z => ⟨z.1, z.2.1, nk_keep tk' _ _ z.2.2.1, z.2.2.2⟩) ⟨rfl, rd, nk_keep tk' _ _ hk, dk⟩
    · rw [List.map_append, List.nodup_append]
      refine ⟨nd, by simp, fun x hx y hy => ?_⟩
      rw [List.mem_singleton.mp hy]
      intro z
      rw [z] at hx
      obtain ⟨p, hp, e⟩ := List.mem_map.mp hx
      have : (kvs.find? fun q => decide (q.1 = k)) = none := by
        unfold valN at hv
        cases q : kvs.find? fun q => decide (q.1 = k) with
        | none => rfl
        | some _ => rw [q] at hv; cases hv
      rw [List.find?_eq_none] at this
      exact this p hp (by simpa using e)
    · rw [List.length_append]
      exact Nat.le_trans (show kvs.length + 1 ≤ 10000 by omega) (by decide)
end

/-! ### rules over such dicts: setdefault, in, [] -/
section
variable {X : Cx} {pins : List (Addr × Obj)} {σ : L2.St} {H : Hp} {s : Shared}
theorem DictN.ty {a : Addr} {kvs : List (NestedKey × V)} (I : Inv X pins σ H s) (h : DictN X.prog X.w X.K H a kvs) : s.TypeIs (.ref a) "dict" ∧ (∀ b, Value.ref a = .ref b → ∃ ob, s.heap.get? b = some ob ∧ ob.dict = none) := by
  obtain ⟨xs, hx, _⟩ := h.at I
  obtain ⟨o, es, ep, e1, e2, _⟩ := id hx
  exact ⟨hx.typeIs, fun b e => by cases e; exact ⟨o, e1, e2.2.1⟩⟩
end
/-- d.setdefault(k, z) -/
def tDSetN (P : Program) (w : World) (K : PySem.W.Frag) (td ty tx : TE) : TE := fun σ H Q => td σ H fun x H1 => ∃ a, x = .ref a ∧ (∃ kvs, DictN P w K H1 a kvs) ∧ ty σ H1 fun y H2 => tx σ H2 fun z H3 => ∃ (b : Addr) (kvs : List (NestedKey × V)) (k : NestedKey), y = .ref b ∧ DictN P w K H3 a kvs ∧ Dp K H3 (.ref b) k.data ∧ k.depth ≤ 8 ∧ kvs.length < 10000 ∧
  (∀ v, valN kvs k = some v → Q v H3) ∧ (valN kvs k = none → ∀ o, TKeep K H3 (upd H3 a o) → DictN P w K (upd H3 a o) a (kvs ++ [(k, z)]) → Q z (upd H3 a o))
section
variable {X : Cx} {o e f : Expr} {td ty tx : TE} {apos cpos : Pos}
theorem pe_dsetN (hu : X.A.in1.in1.units + 8 < cLine) (ho : PE X o td) (he : PE X e ty) (hf : PE X f tx) (m : M2 X o "setdefault" apos e f cpos) : PE X (.Call (.Attribute o "setdefault" apos) [e, f] [] cpos) (tDSetN X.prog X.w X.K td ty tx) := by
  refine ⟨fun pins s σ H Q I h => ?_⟩
  refine wpAny_Call_method m.base m.few m.line PySem.F.plainAttrs_dict PySem.F.slot_dict_setdefault PySem.F.type_dict_setdefault (thn (ho.run pins s σ H _ I h) fun u s1 ⟨x, H1, I1, rx, a, ex, ⟨kvs1, d⟩, q1⟩ => ?_)
  subst ex
  cases rx
  obtain ⟨t1, t2⟩ := d.ty I1
  refine ⟨t1, t2, ?_⟩
  rw [m.trees]
  refine Calls.callWith_builtin rfl (Calls.evalArgs_plain (Calls.spliced_cons (thn (he.run pins s1 σ H1 _ I1 q1) fun iv s2 ⟨y, H2, I2, ry, q2⟩ =>
    Calls.spliced_cons (thn (hf.run pins s2 σ H2 _ I2 q2) fun fv s3 ⟨z, H3, I3, rz, b, kvs, k, ey, hd, hk, dk, hl, q3, q4⟩ => Calls.spliced_nil ?_))))
  subst ey
  cases ry
  exact d_setdN (by first | exact hu | (simp only [Around.in1_units] at hu ⊢; omega)) I3 hd hk dk rz hl (fun v hv w' s4 I4 rw' => ⟨v, _, I4, rw', q3 v hv⟩) fun hn o w' s4 I4 tk dn rw' => ⟨z, _, I4, rw', q4 hn o tk dn⟩
end
/-- k in d, k not in d -/
def rInN (P : Program) (w : World) (K : PySem.W.Frag) (neg : Bool) : R2 := fun x y H Q => ∃ (b a : Addr) (k : NestedKey) (kvs : List (NestedKey × V)), x = .ref b ∧ y = .ref a ∧ DictN P w K H a kvs ∧ Dp K H (.ref b) k.data ∧ k.depth ≤ 8 ∧ Q (.bl (if neg then !(valN kvs k).isSome else (valN kvs k).isSome)) H
theorem some_iff {K : PySem.W.Frag} {H : Hp} {kvs : List (NestedKey × V)} {xs : List NRow} {k : NestedKey} (pd : Paired (NRel K H) kvs xs) : (atKey xs k).isSome = (valN kvs k).isSome := by
  obtain ⟨a1, a2⟩ := at_rel (k := k) pd
  cases hv : valN kvs k with
  | none => rw [a1.mp hv]; rfl
  | some v =>
    obtain ⟨p, hp, _⟩ := a2 v hv
    rw [hp]
    rfl
section
variable {X : Cx}
theorem or_inN (hu : X.A.in1.units + 8 < cLine) : OpR X (compareOp .In) (rInN X.prog X.w X.K false) := by
  intro pins s σ H x y v u Q I rx ry h
  obtain ⟨b, a, k, kvs, rfl, rfl, hd, hk, dk, q⟩ := h
  cases rx
  cases ry
  obtain ⟨xs, hx, pd, nd, hz, hs, mu, tk⟩ := hd.at I
  refine wpAny_in_heap (knd := nestedKind X.prog X.w) (k := k) hu ⟨dp_nk I k _ _ hk rfl, dk⟩ hs hx ?_
  rw [some_iff pd]
  exact ⟨.bl (valN kvs k).isSome, H, I.tok _, rfl, q⟩
/-- d[k], k there -/
def rIxN (P : Program) (w : World) (K : PySem.W.Frag) : R2 := fun x y H Q => ∃ (a b : Addr) (k : NestedKey) (kvs : List (NestedKey × V)) (z : V), x = .ref a ∧ y = .ref b ∧ DictN P w K H a kvs ∧ Dp K H (.ref b) k.data ∧ k.depth ≤ 8 ∧ valN kvs k = some z ∧ Q z H
theorem ix_N (hu : X.A.in1.units + 8 < cLine) : IxR X (rIxN X.prog X.w X.K) := by
  intro value slice pins s σ H x y v u Q I rx ry h hs
  obtain ⟨a, b, k, kvs, z, rfl, rfl, hd, hk, dk, hv, q⟩ := h
  cases rx
  cases ry
  obtain ⟨xs, hx, pd, nd, hz, hsm, mu, tk⟩ := hd.at I
  obtain ⟨p, hp, rv⟩ := (at_rel (k := k) pd).2 z hv
  exact tail_any hx.typeIs slot_dict_getitem.lookup (wpAny_getItem_heap (knd := nestedKind X.prog X.w) (k := k) hu ⟨dp_nk I k _ _ hk rfl, dk⟩ hx hp ⟨z, H, I.tok _, rv, q⟩) hs
end

/-! ### how many keys; room -/
section
variable {X : Cx}
theorem units8 {k : Nat} (r : Room k X.A) : X.A.in1.in1.units + 8 < cLine := by
  have := r.units
  simp only [Around.in1_units]
  omega
theorem units8' {k : Nat} (r : Room k X.A) : X.A.in1.units + 8 < cLine := by
  have := r.units
  simp only [Around.in1_units]
  omega
def rLenN (P : Program) (w : World) (K : PySem.W.Frag) : List V → Hp → VK → Prop := fun xs H Q => ∃ (a : Addr) (kvs : List (NestedKey × V)), xs = [.ref a] ∧ DictN P w K H a kvs ∧ Q (.int kvs.length) H
theorem call_lenN : CallR X (.builtin "len") (rLenN X.prog X.w X.K) := by
  intro pins s σ H xs us Q I r h
  obtain ⟨a, kvs, rfl, hd, q⟩ := h
  obtain ⟨u, rfl, ru⟩ := r.one
  cases ru
  obtain ⟨rows, hx, pd, nd, hz, hs, mu, tk⟩ := hd.at I
  have hl : rows.length = kvs.length := by
    have := congrArg List.length (rel_keys pd)
    simpa using this
  exact call_len_dictH hs hx (by have := (show sizeLine < 2 ^ 62 by decide); omega) ⟨.int kvs.length, H, I.tok _, ⟨_, by rw [hl]⟩, q⟩
end

/-! ### tables of sets, up to 512 slots -/
/-- a mask from whose slots the walk i -> 5 i + 1 meets them all -/
structure Ring (m : Nat) : Prop where
  odd : m % 2 = 1
  big : m ≤ 511
  all : ∀ j, j ≤ m → ∃ b, b ≤ m ∧ lcgN m b = j
  round : lcgN m (m + 1) = 0
theorem ring_of {m : Nat} (h : MaskOk m) : Ring m := ⟨mask_odd h, (by rcases h with e | e | e <;> omega), fun _ hj => lcg_all h hj, lcg_round h⟩
def orb (m : Nat) : Nat → Nat → List Nat
  | 0, _ => []
  | n + 1, x => x :: orb m n ((x * 5 + 1) % (m + 1))
theorem orb_mem (m : Nat) : ∀ (n a x : Nat), x ∈ orb m n (lcgN m a) → ∃ k, k < n ∧ lcgN m (a + k) = x
  | 0, _, _, h => by cases h
  | n + 1, a, x, h => by
    rcases List.mem_cons.mp h with e | h
    · exact ⟨0, Nat.succ_pos _, e.symm⟩
    · obtain ⟨k, hk, e⟩ := orb_mem m n (a + 1) x h
      exact ⟨k + 1, Nat.succ_lt_succ hk, by rw [show a + (k + 1) = a + 1 + k by omega]; exact e⟩
def bitsOf : List Nat → Nat → Nat
  | [], acc => acc
  | x :: l, acc => bitsOf l (acc ||| (1 <<< x))
theorem bits_mem : ∀ (l : List Nat) (acc j : Nat), (bitsOf l acc).testBit j = true → acc.testBit j = true ∨ j ∈ l
  | [], acc, j, h => .inl h
  | x :: l, acc, j, h => by
    rcases bits_mem l _ j h with h | h
    · rw [Nat.testBit_or, Bool.or_eq_true] at h
      rcases h with h | h
      · exact .inl h
      · refine .inr (List.mem_cons.mpr (.inl ?_))
        rw [Nat.one_shiftLeft, Nat.testBit_two_pow] at h
        exact (of_decide_eq_true h).symm
    · exact .inr (List.mem_cons_of_mem _ h)
theorem bits511 : bitsOf (orb 511 512 0) 0 = 2 ^ 512 - 1 := by decide +kernel
theorem ring511 : Ring 511 := by
  refine ⟨rfl, Nat.le_refl _, fun j hj => ?_, ?_⟩
  · have h : (bitsOf (orb 511 512 0) 0).testBit j = true := by
      rw [bits511, Nat.testBit_two_pow_sub_one]
      exact decide_eq_true (by omega)
    rcases bits_mem _ _ _ h with h | h
    · rw [Nat.zero_testBit] at h
      cases h
    · obtain ⟨k, hk, e⟩ := orb_mem 511 512 0 j h
      exact ⟨k, by omega, by rw [Nat.zero_add] at e; exact e⟩
  · decide +kernel

/-! ### the way through such a table -/
theorem lcg_again {m : Nat} (R : Ring m) : ∀ k, lcgN m (m + 1 + k) = lcgN m k
  | 0 => R.round
  | k + 1 => congrArg (fun x => (x * 5 + 1) % (m + 1)) (lcg_again R k)
theorem lcg_reach {m i j : Nat} (R : Ring m) (hi : i ≤ m) (hj : j ≤ m) : ∃ k, k ≤ m ∧ lcgI m i k = j := by
  obtain ⟨a, ha, rfl⟩ := R.all i hi
  obtain ⟨b, hb, rfl⟩ := R.all j hj
  by_cases c : a ≤ b
  · exact ⟨b - a, by omega, by rw [lcgN_add, show a + (b - a) = b by omega]⟩
  · exact ⟨m + 1 + b - a, by omega, by rw [lcgN_add, show a + (m + 1 + b - a) = m + 1 + b by omega, lcg_again R]⟩
theorem run_reach {m : Nat} (R : Ring m) (h : Int) {j : Nat} (hj : j ≤ m) : ∃ n, n ≤ m + 12 ∧ runI m (SetTable.bits h) n = j := by
  obtain ⟨k, hk, e⟩ := lcg_reach R (runI_le m (SetTable.bits h) 12) hj
  refine ⟨12 + k, by omega, ?_⟩
  rw [← e, runI_tail (bits_lt h)]
theorem way_reach {m : Nat} (R : Ring m) (h : Int) {j : Nat} (hj : j ≤ m) : ∃ k, k < 10 * SetTable.turns m ∧ way m h k = j := by
  obtain ⟨n, hn, e⟩ := run_reach R h hj
  obtain ⟨k, hk, z⟩ := run_nth m (SetTable.bits h) n
  refine ⟨k, by unfold SetTable.turns; omega, ?_⟩
  show (nth m (runAt m (SetTable.bits h % (m + 1)) (SetTable.bits h)) k).j = j
  rw [z, ← e]
  rfl
theorem way_in {m : Nat} {h : Int} {k : Nat} : way m h k ≤ m := by
  have i0 : SetTable.bits h % (m + 1) ≤ m := Nat.le_of_lt_succ (Nat.mod_lt _ (Nat.succ_pos _))
  have e := runEnd_bd i0
  have z := nth_in (m := m) k (runAt m (SetTable.bits h % (m + 1)) (SetTable.bits h)) (show SetTable.bits h % (m + 1) + (SetTable.runEnd m (SetTable.bits h % (m + 1)) - SetTable.bits h % (m + 1)) ≤ m by omega)
  exact Nat.le_trans (Nat.le_add_right _ _) z
/-- the slot j is met from h, all before it taken -/
def Met (m : Nat) (pl : List Nat) (q : Int × Nat) : Prop := ∃ k, way m q.1 k = q.2 ∧ ∀ k', k' < k → way m q.1 k' ∈ pl
theorem Met.mono {m : Nat} {pl pl' : List Nat} {q : Int × Nat} (s : ∀ j ∈ pl, j ∈ pl') (h : Met m pl q) : Met m pl' q := by
  obtain ⟨k, e, z⟩ := h
  exact ⟨k, e, fun k' c => s _ (z k' c)⟩
/-- the first free slot -/
theorem first_free {m : Nat} (R : Ring m) {pl : List Nat} (hl : pl.length ≤ m) (h : Int) : ∃ K, K < 10 * SetTable.turns m ∧ way m h K ∉ pl ∧ ∀ k, k < K → way m h k ∈ pl := by
  obtain ⟨j, hj, nj⟩ := st_missing pl (m + 1) (by omega)
  obtain ⟨k, hk, e⟩ := way_reach R h (Nat.le_of_lt_succ hj)
  obtain ⟨K, a, b, c⟩ := st_least (p := fun k => way m h k ∉ pl) k (by rw [e]; exact nj)
  exact ⟨K, Nat.lt_of_le_of_lt a hk, b, fun k' z => Decidable.byContradiction fun y => c k' z y⟩
/-- a table, each of whose slots is met from its hash -/
structure TabG (t : SetTable) (hs : List Int) : Prop where
  ring : Ring t.mask
  ris : Ris t.place.toList
  dm : t.dummies = #[]
  len : t.place.toList.length = hs.length
  le : ∀ x ∈ t.place.toList, x ≤ t.mask
  met : ∀ q ∈ hs.zip t.place.toList, Met t.mask t.place.toList q
theorem TabG.at' {t : SetTable} {hs : List Int} (T : TabG t hs) {i : Nat} {h : Int} (hi : hs[i]? = some h) : ∃ j, t.place.toList[i]? = some j ∧ Met t.mask t.place.toList (h, j) := by
  have l1 : i < hs.length := (List.getElem?_eq_some_iff.mp hi).1
  have l2 : i < t.place.toList.length := by rw [T.len]; exact l1
  refine ⟨_, List.getElem?_eq_getElem l2, T.met _ (List.mem_of_getElem? (i := i) ?_)⟩
  rw [List.getElem?_zip_eq_some]
  exact ⟨hi, List.getElem?_eq_getElem l2⟩
theorem zip_tk {α β : Type} {q : α × β} : ∀ (p : Nat) (l : List α) (r : List β), q ∈ (l.take p).zip (r.take p) ∨ q ∈ (l.drop p).zip (r.drop p) → q ∈ l.zip r
  | 0, l, r, h => h.elim (fun z => by simp at z) id
  | p + 1, [], r, h => by simp at h
  | p + 1, _ :: _, [], h => by simp at h
  | p + 1, a :: l, b :: r, h => by
    rw [List.zip_cons_cons]
    rcases h with h | h
    · rw [List.take_succ_cons, List.take_succ_cons, List.zip_cons_cons] at h
      rcases List.mem_cons.mp h with e | h
      · exact List.mem_cons.mpr (.inl e)
      · exact List.mem_cons_of_mem _ (zip_tk p l r (.inl h))
    · exact List.mem_cons_of_mem _ (zip_tk p l r (.inr h))
theorem zip_ins {α β : Type} {x : α} {y : β} {l : List α} {r : List β} {p : Nat} (e : l.length = r.length) {q : α × β} (h : q ∈ (l.take p ++ x :: l.drop p).zip (r.take p ++ y :: r.drop p)) : q = (x, y) ∨ q ∈ l.zip r := by
  rw [List.zip_append (by rw [List.length_take, List.length_take, e]), List.zip_cons_cons] at h
  rcases List.mem_append.mp h with h | h
  · exact .inr (zip_tk p l r (.inl h))
  · rcases List.mem_cons.mp h with h | h
    · exact .inl h
    · exact .inr (zip_tk p l r (.inr h))
theorem TabG.putG {t : SetTable} {hs : List Int} (T : TabG t hs) {h : Int} {K : Nat} (nK : way t.mask h K ∉ t.place.toList) (bK : ∀ k, k < K → way t.mask h k ∈ t.place.toList) : ∃ p, p ≤ hs.length ∧ (t.put (way t.mask h K)).2 = p ∧
    TabG (t.put (way t.mask h K)).1 (hs.take p ++ h :: hs.drop p) ∧ (t.put (way t.mask h K)).1.mask = t.mask ∧ (t.put (way t.mask h K)).1.led = t.led ∧ (t.put (way t.mask h K)).1.plain = t.plain ∧ (t.put (way t.mask h K)).1.fill = hs.length + 1 := by
  obtain ⟨j, ej⟩ : ∃ j, way t.mask h K = j := ⟨_, rfl⟩
  have jl : j ≤ t.mask := by rw [← ej]; exact way_in
  rw [ej] at nK ⊢
  have pp := put_place t j
  have dm := put_dm T.dm j
  have cut := (below_cut T.ris j).1
  rw [← Array.length_toList] at cut
  have lp : (t.put j).1.place.toList.length = hs.length + 1 := by rw [pp, len_ins _ cut, T.len]
  refine ⟨SetTable.below t.place j, by rw [← T.len]; exact cut, rfl, ⟨T.ring, ris_insert T.ris (fun e => nK (List.mem_of_getElem? (by rw [Array.getElem?_toList]; exact e))), dm, ?_, fun x hx => ?_, fun q hq => ?_⟩, rfl, rfl, rfl, ?_⟩
  · rw [len_ins _ (by rw [← T.len]; exact cut)]
    exact lp
  · rw [pp] at hx
    rcases mem_ins.1 hx with e | hx
    · rw [e]
      exact jl
    · exact T.le x hx
  · have up : ∀ x ∈ t.place.toList, x ∈ (t.put j).1.place.toList := fun x hx => by
      rw [pp]
      exact mem_ins.2 (.inr hx)
    rw [pp] at hq
    rcases zip_ins T.len.symm hq with e | hq
    · subst e
      exact ⟨K, ej, fun k' c => up _ (bK k' c)⟩
    · exact Met.mono up (T.met q hq)
  · show (t.put j).1.place.size + (t.put j).1.dummies.size = hs.length + 1
    rw [dm, ← Array.length_toList, lp]
    rfl
/-! ### laid anew -/
structure Laid (m : Nat) (done : List Int) (pl : List Nat) (owner : Array (Option Nat)) : Prop where
  sz : owner.size = m + 1
  len : pl.length = done.length
  le : ∀ j ∈ pl, j ≤ m
  own : ∀ j, j ≤ m → ∀ k, oAt owner j = some k ↔ pl[k]? = some j
  met : ∀ q ∈ done.zip pl, Met m pl q
theorem Laid.no {m : Nat} {done : List Int} {pl : List Nat} {owner : Array (Option Nat)} (L : Laid m done pl owner) {j : Nat} (hj : j ≤ m) : oAt owner j = none ↔ j ∉ pl := by
  constructor
  · intro e z
    obtain ⟨k, hk, ek⟩ := List.getElem_of_mem z
    have := (L.own j hj k).mpr (by rw [List.getElem?_eq_getElem hk, ek])
    rw [e] at this
    cases this
  · intro z
    cases e : oAt owner j with
    | none => rfl
    | some k => exact absurd (List.mem_of_getElem? ((L.own j hj k).mp e)) z
theorem laid_nil (m : Nat) : Laid m [] [] (Array.replicate (m + 1) none) := ⟨Array.size_replicate, rfl, fun j h => (by cases h), fun j hj k => (by rw [oAt_init hj]; simp), fun q h => (by cases h)⟩
/-- as many turns as there are slots and twelve find a free one -/
theorem free_at {m : Nat} (R : Ring m) {owner : Array (Option Nat)} {pl : List Nat} (no : ∀ j, j ≤ m → (oAt owner j = none ↔ j ∉ pl)) (hl : pl.length ≤ m) (h : Int) :
    ∃ K, SetTable.layClean.free m owner (SetTable.turns m) (SetTable.bits h % (m + 1)) (SetTable.bits h) = some (way m h K) ∧ way m h K ∉ pl ∧ ∀ k, k < K → way m h k ∈ pl := by
  obtain ⟨j, hj, nj⟩ := st_missing pl (m + 1) (by omega)
  obtain ⟨n, hn, e⟩ := run_reach R h (Nat.le_of_lt_succ hj)
  have at_n : way m h (off m (SetTable.bits h % (m + 1)) (SetTable.bits h) n) = j := by
    rw [← e]
    show (nth m (runAt m (SetTable.bits h % (m + 1)) (SetTable.bits h)) (off m (SetTable.bits h % (m + 1)) (SetTable.bits h) n)).j = _
    rw [nth_off, itL_run]
    rfl
  obtain ⟨K, a, b, c⟩ := st_least (p := fun k => way m h k ∉ pl) (off m (SetTable.bits h % (m + 1)) (SetTable.bits h) n) (by rw [at_n]; exact nj)
  have c' : ∀ k, k < K → way m h k ∈ pl := fun k z => Decidable.byContradiction fun y => c k z y
  refine ⟨K, free_spec m owner (SetTable.turns m) n _ _ K (by unfold SetTable.turns; omega) a (fun k hk => ?_) ?_, b, c'⟩
  · have := fun z => (no _ way_in).mp z (c' k hk)
    cases e2 : oAt owner (way m h k) with
    | none => exact absurd e2 this
    | some _ => rfl
  · exact congrArg Option.isNone ((no _ way_in).mpr b)
theorem Laid.step {m : Nat} (R : Ring m) {done : List Int} {pl : List Nat} {owner : Array (Option Nat)} (L : Laid m done pl owner) (hl : done.length ≤ m) (h : Int) :
    ∃ j, SetTable.layClean.free m owner (SetTable.turns m) (SetTable.bits h % (m + 1)) (SetTable.bits h) = some j ∧ Laid m (done ++ [h]) (pl ++ [j]) (owner.setIfInBounds j (some done.length)) := by
  obtain ⟨K, e, nK, bK⟩ := free_at R (fun j hj => L.no hj) (by rw [L.len]; exact hl) h
  obtain ⟨j, ej⟩ : ∃ j, way m h K = j := ⟨_, rfl⟩
  have jl : j ≤ m := by rw [← ej]; exact way_in
  rw [ej] at e nK
  refine ⟨j, e, ⟨by rw [Array.size_setIfInBounds, L.sz], by rw [List.length_append, List.length_append, L.len]; rfl, fun x hx => ?_, fun x hx k => ?_, fun q hq => ?_⟩⟩
  · rcases List.mem_append.mp hx with hx | hx
    · exact L.le x hx
    · rw [List.mem_singleton.mp hx]
      exact jl
  · by_cases c : x = j
    · subst c
      rw [oAt_set_self _ (by rw [L.sz]; omega)]
      constructor
      · intro z
        have := Option.some.inj z
        subst this
        rw [List.getElem?_append_right (by rw [L.len]; exact Nat.le_refl _), L.len, Nat.sub_self]
        rfl
      · intro z
        rcases Nat.lt_or_ge k pl.length with y | y
        · rw [List.getElem?_append_left y] at z
          exact absurd (List.mem_of_getElem? z) nK
        · have : k < (pl ++ [x]).length := (List.getElem?_eq_some_iff.mp z).1
          rw [List.length_append] at this
          have : k < pl.length + 1 := this
          rw [show k = done.length by rw [← L.len]; omega]
    · rw [oAt_set_ne _ c, L.own x hx k]
      rcases Nat.lt_or_ge k pl.length with y | y
      · rw [List.getElem?_append_left y]
      · rw [List.getElem?_eq_none y, List.getElem?_append_right y]
        constructor
        · intro z
          cases z
        · intro z
          have := List.mem_singleton.mp (List.mem_of_getElem? z)
          exact absurd this c
  · rw [List.zip_append (by rw [L.len])] at hq
    rcases List.mem_append.mp hq with hq | hq
    · exact Met.mono (fun x hx => List.mem_append_left _ hx) (L.met q hq)
    · have : q = (h, j) := by simpa using hq
      subst this
      exact ⟨K, ej, fun k' c => List.mem_append_left _ (bK k' c)⟩
theorem laid_fold {m : Nat} (R : Ring m) : ∀ (rest done : List Int) (pl : List Nat) (owner : Array (Option Nat)), Laid m done pl owner → done.length + rest.length ≤ m →
    ∃ owner' pl', rest.foldl (stepF m) (some (owner, done.length)) = some (owner', (done ++ rest).length) ∧ Laid m (done ++ rest) pl' owner'
  | [], done, pl, owner, L, _ => by
    rw [List.append_nil]
    exact ⟨owner, pl, rfl, L⟩
  | h :: rest, done, pl, owner, L, hl => by
    rw [List.length_cons] at hl
    obtain ⟨j, e, L1⟩ := L.step R (by omega) h
    obtain ⟨o2, p2, f, L2⟩ := laid_fold R rest (done ++ [h]) _ _ L1 (by rw [List.length_append]; show done.length + 1 + _ ≤ m; omega)
    rw [show done ++ h :: rest = done ++ [h] ++ rest by simp]
    refine ⟨o2, p2, ?_, L2⟩
    rw [List.foldl_cons, stepF_some e, ← f, List.length_append]
    rfl
theorem relaid_at (t : SetTable) {hs : Array Int} {wanted M : Nat} (hw : SetTable.sizeAbove wanted - 1 = M) (R : Ring M) (hn : hs.size ≤ M) :
    ∃ t' order, t.relaid hs wanted = some (t', order) ∧ order.toList.Perm (List.range hs.size) ∧ TabG t' (order.toList.map fun i => hs.getD i 0) ∧ t'.mask = M ∧ t'.led = t.led ∧ t'.plain = t.plain := by
  obtain ⟨owner, pl, f, L⟩ := laid_fold R hs.toList [] [] _ (laid_nil M) (by rw [Array.length_toList]; show 0 + hs.size ≤ M; omega)
  rw [List.nil_append] at f L
  have lc : SetTable.layClean M hs = some owner := by
    rw [layClean_eq, show (some (Array.replicate (M + 1) (none : Option Nat), 0) : Option (Array (Option Nat) × Nat)) = some (Array.replicate (M + 1) none, ([] : List Int).length) from rfl, f]
    rfl
  have lt : pl.length = hs.size := by rw [L.len, Array.length_toList]
  obtain ⟨lv, elv⟩ : ∃ lv, liveOf M owner = lv := ⟨_, rfl⟩
  have mem : ∀ j k, (j, k) ∈ lv ↔ pl[k]? = some j := fun j k => by
    rw [← elv, mem_live L.sz]
    constructor
    · rintro ⟨a, b⟩
      exact (L.own j a k).mp b
    · intro z
      have a := L.le j (List.mem_of_getElem? z)
      exact ⟨a, (L.own j a k).mpr z⟩
  have rr := ris_live (fun j => owner.getD j none) (List.range (M + 1)) (by unfold Ris; exact List.pairwise_lt_range)
  have r1 : Ris (lv.map (·.1)) := by rw [← elv]; exact rr.1
  have r2 : ∀ x ∈ lv.map (·.1), x ≤ M := fun x hx => by
    rw [← elv] at hx
    exact Nat.le_of_lt_succ (List.mem_range.mp (rr.2 x hx))
  have inPl : ∀ x, x ∈ lv.map (·.1) ↔ x ∈ pl := fun x => by
    constructor
    · intro hx
      obtain ⟨⟨a, k⟩, h1, h2⟩ := List.mem_map.mp hx
      have : a = x := h2
      subst this
      exact List.mem_of_getElem? ((mem a k).mp h1)
    · intro hx
      obtain ⟨k, hk, ek⟩ := List.getElem_of_mem hx
      exact List.mem_map.mpr ⟨(x, k), (mem x k).mpr (by rw [List.getElem?_eq_getElem hk, ek]), rfl⟩
  have ord : ∀ k, k < hs.size → k ∈ lv.map (·.2) := fun k hk => List.mem_map.mpr ⟨(pl[k], k), (mem _ k).mpr (List.getElem?_eq_getElem (by omega)), rfl⟩
  have ll : lv.length = hs.size := by
    have nd : (lv.map (·.1)).Nodup := List.Pairwise.imp (fun h => Nat.ne_of_lt h) r1
    have a := nat_nodup_len (lv.map (·.1)) pl nd fun x hx => (inPl x).mp hx
    have b := nat_nodup_len (List.range hs.size) (lv.map (·.2)) List.nodup_range fun k hk => ord k (List.mem_range.mp hk)
    rw [List.length_map] at a
    rw [List.length_range, List.length_map] at b
    omega
  refine ⟨tabOf t M owner, (lv.map (·.2)).toArray, ?_, ?_, ⟨R, ?_, rfl, ?_, ?_, ?_⟩, rfl, rfl, rfl⟩
  · rw [relaid_eq, hw, lc, ← elv]
    rfl
  · show (lv.map (·.2)).Perm _
    exact perm_range hs.size _ (by rw [List.length_map, ll]) ord
  · show Ris ((liveOf M owner).map (·.1))
    rw [elv]
    exact r1
  · show ((liveOf M owner).map (·.1)).length = ((lv.map (·.2)).map _).length
    rw [elv, List.length_map, List.length_map, List.length_map]
  · intro x hx
    have hx' : x ∈ (liveOf M owner).map (·.1) := hx
    rw [elv] at hx'
    exact r2 x hx'
  · intro q hq
    have hq' : q ∈ ((lv.map (·.2)).map fun i => hs.getD i 0).zip ((liveOf M owner).map (·.1)) := hq
    rw [elv, List.map_map, List.zip_map', List.mem_map] at hq'
    obtain ⟨⟨j, k⟩, h1, rfl⟩ := hq'
    have hk := (mem j k).mp h1
    have lk : k < hs.size := by
      have := (List.getElem?_eq_some_iff.mp hk).1
      omega
    have hz : (hs.getD k 0, j) ∈ hs.toList.zip pl := by
      refine List.mem_of_getElem? (i := k) ?_
      rw [List.getElem?_zip_eq_some]
      refine ⟨?_, hk⟩
      rw [Array.getElem?_toList, Array.getD_eq_getD_getElem?, Array.getElem?_eq_getElem lk]
      rfl
    have := L.met _ hz
    show Met M ((liveOf M owner).map (·.1)) (hs.getD k 0, j)
    rw [elv]
    exact this.mono fun x hx => (inPl x).mpr hx

/-! ### a set whose keys are tuples of tuples of whole numbers -/
mutual
def numK : NestedKey → Bool
  | .none => true
  | .num _ => true
  | .text _ => false
  | .tup ks => numKs ks
def numKs : List NestedKey → Bool
  | [] => true
  | k :: ks => numK k && numKs ks
end
/-- the key of what lies at b -/
structure NK (h : Heap) (k : NestedKey) (b : Addr) : Prop where
  is : NestedIs h k (.ref b)
  dp : k.depth ≤ 8
  nm : numK k = true
section
variable {P : Program} {w : World} {A : Around} {E : Value → Shared → Prop} {s : Shared}
theorem NK.kind {h : Heap} {k : NestedKey} {b : Addr} (x : NK h k b) : (nestedKind P w).is h k b := ⟨x.is, x.dp⟩
theorem NK.keep {h h' : Heap} {k : NestedKey} {b : Addr} (x : NK h k b) (hk : ∀ a o vs n, h.get? a = some o → o.data = .seq vs n → h'.get? a = some o) : NK h' k b := ⟨NestedIs.at hk k _ x.is, x.dp, x.nm⟩
theorem NK.inj {h : Heap} {k k' : NestedKey} {b : Addr} (x : NK h k b) (y : NK h k' b) : k = k' := NestedIs.inj _ _ _ x.is y.is
theorem NK.ty {k : NestedKey} {b : Addr} (x : NK s.heap k b) : s.TypeIs (.ref b) "tuple" := by
  obtain ⟨is, _, _⟩ := x
  cases is with
  | tup h1 h2 _ _ => exact ⟨_, h1, h2⟩
/-- whether it is of a class statement: no -/
def OfC (P : Program) (w : World) (n : Nat) (s : Shared) (v : Value) : Prop := ∀ (A : Around) (E : Value → Shared → Prop) (Q : Bool → Shared → Prop), Q false s → wpAny (model P w) A (ofAClassStatement n v) Q E s
/-- whether its hash is by value: yes -/
def ByV (P : Program) (w : World) (n : Nat) (s : Shared) (v : Value) : Prop := ∀ (A : Around) (E : Value → Shared → Prop) (Q : Bool → Shared → Prop), Q true s → wpAny (model P w) A (hashByValue n v) Q E s
theorem ofC_tup {n m : Nat} {a : Addr} {o : Obj} {vs : Array Value} (ho : s.heap.get? a = some o) (hc : o.cls = .type "tuple") (hd : o.data = .seq vs m) (hq : ∀ v ∈ vs.toList, OfC P w n s v) : OfC P w (n + 1) s (.ref a) := fun A E Q h => by
  have ty : s.TypeIs (.ref a) "tuple" := ⟨o, ho, hc⟩
  unfold ofAClassStatement
  refine wpAny_bind (wpAny_typeOf ty ?_)
  dsimp only
  simp only [show (("tuple" : String) == "tuple") = true by decide, if_true, Bool.not_true, Bool.false_eq_true, if_false]
  try refine wpAny_bind (wpAny_pure ?_)
  try simp only [Bool.not_true, Bool.false_eq_true, if_false]
  refine wpAny_bind (wpAny_seqItems ho hd ?_)
  dsimp only
  refine wpAny_bind ?_
  rw [show (forIn vs : _ → _ → Sem _) = forIn vs.toList from by funext b f; exact (Array.forIn_toList).symm]
  refine wpAny_forIn_list _ (fun rest r z => (r.1 = none ∧ z = s) ∧ ∀ v ∈ rest, OfC P w n s v) _ (fun v rest r z hz => ?_) (fun r z hz => ?_) _ _ ⟨⟨rfl, rfl⟩, hq⟩
  · obtain ⟨⟨hr, rfl⟩, hall⟩ := hz
    refine wpAny_bind (hall v List.mem_cons_self _ _ _ ?_)
    simp only [Bool.false_eq_true, if_false]
    exact wpAny_pure ⟨⟨rfl, rfl⟩, fun u hu => hall u (List.mem_cons_of_mem _ hu)⟩
  · obtain ⟨r1, r2⟩ := r
    obtain ⟨⟨hr, rfl⟩, _⟩ := hz
    cases hr
    exact wpAny_pure h
theorem byV_tup {n m : Nat} {a : Addr} {o : Obj} {vs : Array Value} (ho : s.heap.get? a = some o) (hc : o.cls = .type "tuple") (hd : o.data = .seq vs m) (hq : ∀ v ∈ vs.toList, ByV P w n s v) : ByV P w (n + 1) s (.ref a) := fun A E Q h => by
  have ty : s.TypeIs (.ref a) "tuple" := ⟨o, ho, hc⟩
  unfold hashByValue
  refine wpAny_bind (wpAny_specialOf ty F.slot_tuple_hash.lookup ?_)
  refine wpAny_bind (wpAny_seqItems ho hd ?_)
  refine wpAny_bind ?_
  show wpAny _ _ (forIn vs _ _) _ _ s
  rw [show (forIn vs : _ → _ → Sem _) = forIn vs.toList from by funext b f; exact (Array.forIn_toList).symm]
  refine wpAny_forIn_list _ (fun rest r z => (r.1 = none ∧ z = s) ∧ ∀ v ∈ rest, ByV P w n s v) _ (fun v rest r z hz => ?_) (fun r z hz => ?_) _ _ ⟨⟨rfl, rfl⟩, hq⟩
  · obtain ⟨⟨hr, rfl⟩, hall⟩ := hz
    refine wpAny_bind (hall v List.mem_cons_self _ _ _ ?_)
    simp only [Bool.not_true, Bool.false_eq_true, if_false]
    exact wpAny_pure ⟨⟨rfl, rfl⟩, fun u hu => hall u (List.mem_cons_of_mem _ hu)⟩
  · obtain ⟨r1, r2⟩ := r
    obtain ⟨⟨hr, rfl⟩, _⟩ := hz
    cases hr
    exact wpAny_pure h
mutual
theorem ofC_key : ∀ (k : NestedKey) (v : Value) (n : Nat), NestedIs s.heap k v → k.depth ≤ n → OfC P w n s v
  | .none, _, n, x, _ => by cases x; intro A E Q h; cases n <;> exact wpAny_pure h
  | .num i, _, n, x, _ => by cases x <;> (intro A E Q h; cases n <;> exact wpAny_pure h)
  | .text y, _, n, x, _ => by cases x; intro A E Q h; cases n <;> exact wpAny_pure h
  | .tup ks, _, 0, x, hn => by simp only [NestedKey.depth] at hn; omega
  | .tup ks, _, n + 1, x, hn => by
    cases x with
    | tup hg hc hd hk => exact ofC_tup hg hc hd (ofC_keys ks _ n hk (by simp only [NestedKey.depth] at hn; omega))
theorem ofC_keys : ∀ (ks : List NestedKey) (vs : List Value) (n : Nat), NestedAll s.heap ks vs → NestedKey.depthAll ks ≤ n → ∀ v ∈ vs, OfC P w n s v
  | [], _, n, x, _, v, hv => by cases x; cases hv
  | k :: ks, _, n, x, hn, v, hv => by
    cases x with
    | cons x1 x2 =>
      simp only [NestedKey.depthAll] at hn
      rcases List.mem_cons.mp hv with e | hv
      · rw [e]; exact ofC_key k _ n x1 (by omega)
      · exact ofC_keys ks _ n x2 (by omega) v hv
end
mutual
theorem byV_key : ∀ (k : NestedKey) (v : Value) (n : Nat), NestedIs s.heap k v → k.depth ≤ n → numK k = true → ByV P w n s v
  | .none, _, n, x, _, _ => by cases x; intro A E Q h; cases n <;> exact wpAny_pure h
  | .num i, _, n, x, _, _ => by cases x <;> (intro A E Q h; cases n <;> exact wpAny_pure h)
  | .text y, _, n, x, _, z => by simp [numK] at z
  | .tup ks, _, 0, x, hn, _ => by simp only [NestedKey.depth] at hn; omega
  | .tup ks, _, n + 1, x, hn, z => by
    cases x with
    | tup hg hc hd hk => exact byV_tup hg hc hd (byV_keys ks _ n hk (by simp only [NestedKey.depth] at hn; omega) (by simpa [numK] using z))
theorem byV_keys : ∀ (ks : List NestedKey) (vs : List Value) (n : Nat), NestedAll s.heap ks vs → NestedKey.depthAll ks ≤ n → numKs ks = true → ∀ v ∈ vs, ByV P w n s v
  | [], _, n, x, _, _, v, hv => by cases x; cases hv
  | k :: ks, _, n, x, hn, z, v, hv => by
    cases x with
    | cons x1 x2 =>
      simp only [NestedKey.depthAll] at hn
      simp only [numKs, Bool.and_eq_true] at z
      rcases List.mem_cons.mp hv with e | hv
      · rw [e]; exact byV_key k _ n x1 (by omega) z.1
      · exact byV_keys ks _ n x2 (by omega) z.2 v hv
end
theorem NK.ofC {k : NestedKey} {b : Addr} (x : NK s.heap k b) : OfC P w 8 s (.ref b) := ofC_key k _ 8 x.is x.dp
theorem NK.byV {k : NestedKey} {b : Addr} (x : NK s.heap k b) : ByV P w 8 s (.ref b) := byV_key k _ 8 x.is x.dp x.nm
theorem NK.quiet {k : NestedKey} {b : Addr} (x : NK s.heap k b) : QuietAt P w 8 s (.ref b) := quiet_key k _ 8 s x.is x.dp
/-- nobody sees a search among such keys -/
theorem unseen {k : NestedKey} {b : Addr} (x : NK s.heap k b) {Q : Bool → Shared → Prop} (h : Q false s) {ys : List Value} (hy : ∀ y ∈ ys, ∃ k' c, y = Value.ref c ∧ NK s.heap k' c) : wpAny (model P w) A (searchCouldBeSeen (.ref b) ys) Q E s := by
  unfold searchCouldBeSeen
  refine wpAny_bind (wpAny_forIn_list _ (fun rest r z => (r.1 = none ∧ z = s) ∧ ∀ y ∈ rest, ∃ k' c, y = Value.ref c ∧ NK s.heap k' c) _ (fun v rest r z hz => ?_) (fun r z hz => ?_) _ _ ⟨⟨rfl, rfl⟩, hy⟩)
  · obtain ⟨⟨hr, rfl⟩, hall⟩ := hz
    obtain ⟨k', c, rfl, hc⟩ := hall v List.mem_cons_self
    have left : ∀ y ∈ rest, ∃ k' c, y = Value.ref c ∧ NK z.heap k' c := fun u hu => hall u (List.mem_cons_of_mem _ hu)
    dsimp only
    by_cases hv : (b == c || (carriedByValue (.ref b) && carriedByValue (.ref c))) = true
    · exact wp_if_pos hv (wpAny_pure ⟨⟨rfl, rfl⟩, left⟩)
    · refine wp_if_neg hv (wpAny_bind (x.quiet _ _ _ ?_))
      simp only [Bool.not_true, Bool.false_eq_true, if_false]
      refine wpAny_bind (hc.quiet _ _ _ ?_)
      simp only [Bool.not_true, Bool.false_eq_true, if_false]
      refine wpAny_bind (x.ofC _ _ _ ?_)
      simp only [Bool.false_eq_true, if_false]
      refine wpAny_bind (hc.ofC _ _ _ ?_)
      simp only [Bool.false_eq_true, if_false]
      exact wpAny_pure ⟨⟨rfl, rfl⟩, left⟩
  · obtain ⟨r1, r2⟩ := r
    obtain ⟨⟨hr, rfl⟩, _⟩ := hz
    cases hr
    exact wpAny_pure h
end

/-! ### searching such a set, adding to it -/
abbrev NE := Addr × NestedKey
def rowN (w : World) (p : NE) : Int × Value := (p.2.hash w, Value.ref p.1)
abbrev hashN (w : World) (p : NE) : Int := p.2.hash w
def MskN (m : Nat) : Prop := m = 7 ∨ m = 31 ∨ m = 127 ∨ m = 511
theorem MskN.ring {m : Nat} (h : MskN m) : Ring m := by
  rcases h with e | e | e | e
  · exact ring_of (.inl e)
  · exact ring_of (.inr (.inl e))
  · exact ring_of (.inr (.inr e))
  · rw [e]; exact ring511
structure SetN (w : World) (h : Heap) (a : Addr) (L : List NE) (es : Array (Int × Value)) (ep : Nat) (t : SetTable) : Prop where
  ob : ∃ o, h.get? a = some o ∧ o.ExactSet ∧ o.data = .set es ep t
  rows : es.toList = L.map (rowN w)
  tab : TabG t (L.map (hashN w))
  nd : (L.map (·.2)).Nodup
  key : ∀ p ∈ L, NK h p.2 p.1
  plain : t.plain = true
  led : w.params.followText "set-order" = true ∨ t.led = true
  msk : MskN t.mask
  room : L.length * 5 < t.mask * 3
theorem rows_size {w : World} {L : List NE} {es : Array (Int × Value)} (h : es.toList = L.map (rowN w)) : es.size = L.length := by
  rw [← Array.length_toList, h, List.length_map]
theorem fits_of {t : SetTable} {hs : List Int} (T : TabG t hs) {n : Nat} (e : hs.length = n) (l : n ≤ t.mask) : t.fits n = true := by
  have z := T.len
  rw [Array.length_toList] at z
  unfold SetTable.fits SetTable.fill
  rw [T.dm, Bool.and_eq_true, beq_iff_eq, decide_eq_true_eq]
  refine ⟨by omega, ?_⟩
  show t.place.size + 0 ≤ t.mask
  omega
section
variable {P : Program} {w : World} {A : Around} {E : Value → Shared → Prop} {s : Shared} {a : Addr} {L : List NE} {es : Array (Int × Value)} {ep : Nat} {t : SetTable}
theorem SetN.fits (R : SetN w s.heap a L es ep t) : t.fits es.size = true := fits_of R.tab (by rw [List.length_map, rows_size R.rows]) (by have := R.room; rw [rows_size R.rows]; omega)
theorem SetN.entry (R : SetN w s.heap a L es ep t) {i : Nat} {p : NE} (h : L[i]? = some p) : es[i]? = some (rowN w p) := by
  rw [← Array.getElem?_toList, R.rows, List.getElem?_map, h]
  rfl
/-- the walk of k, from its c-th step on -/
abbrev stepN (m : Nat) (h : Int) (c : Nat) : SetTable.Probe := nth m (runAt m (SetTable.bits h % (m + 1)) (SetTable.bits h)) c
theorem step_add (m : Nat) (h : Int) (c q : Nat) : nth m (stepN m h c) q = stepN m h (c + q) := (nth_add m c _ q).symm
theorem step_dm (m : Nat) (h : Int) (c : Nat) : (stepN m h c).dummy = none := by
  have z : ∀ (n : Nat) (p : SetTable.Probe), p.dummy = none → (nth m p n).dummy = none := by
    intro n
    induction n with
    | zero => exact fun p e => e
    | succ n ih =>
      intro p e
      refine ih (adv m p) ?_
      unfold adv
      split <;> exact e
  exact z c _ rfl
theorem seek (R : SetN w s.heap a L es ep t) {x : Addr} {k : NestedKey} (hx : NK s.heap k x) (hu : A.units + 8 < cLine) {K : Nat} (fK : K < 10 * SetTable.turns t.mask) (nK : way t.mask (k.hash w) K ∉ t.place.toList) (bK : ∀ c, c < K → way t.mask (k.hash w) c ∈ t.place.toList)
    {Q : SetFound → Shared → Prop} (yes : k ∈ L.map (·.2) → Q (.there none) s) (no : k ∉ L.map (·.2) → Q (.free (way t.mask (k.hash w) K) false) s) :
    ∀ (f c : Nat) (stand : Option SetTable.Probe), stand.getD (t.probeStart (k.hash w)) = stepN t.mask (k.hash w) c → c ≤ K → K - c < f →
      (∀ (i : Nat) (p : NE), L[i]? = some p → p.2 = k → ∃ d, c ≤ d ∧ d < K ∧ t.place.toList[i]? = some (way t.mask (k.hash w) d)) → wpAny (model P w) A (setSearchFrom a (.ref x) (k.hash w) true f stand) Q E s := by
  obtain ⟨h, eh⟩ : ∃ h, k.hash w = h := ⟨_, rfl⟩
  rw [eh] at nK bK no ⊢
  intro f
  induction f with
  | zero => intro c stand _ _ hf; exact absurd hf (Nat.not_lt_zero _)
  | succ f ih =>
    intro c stand est cK hf ahead
    obtain ⟨o, ho, hex, hd⟩ := R.ob
    rw [setSearchFrom_succ]
    refine wpAny_bind (wpAny_setState_of ho hd R.fits ?_)
    dsimp only
    have gw : ¬ t.gaveWay = true := by
      unfold SetTable.gaveWay
      rw [R.tab.ring.odd]
      decide
    refine wp_if_neg gw ?_
    try refine wpAny_bind (wpAny_pure ?_)
    have ej : ∀ q, (nth t.mask (stepN t.mask h c) q).j = way t.mask h (c + q) := fun q => congrArg SetTable.Probe.j (step_add t.mask h c q)
    have cK' : c + (K - c) = K := by omega
    have go := go_spec t R.tab.ris R.tab.dm (fun i => (es[i]?.map (·.1)).getD 0) h (10 * SetTable.turns t.mask) (K - c) (stepN t.mask h c) (step_dm _ _ _) (by omega) (fun q hq => by rw [ej]; exact bK _ (by omega)) (by rw [ej, cK']; exact nK)
    have hashAt : ∀ {i : Nat} {p : NE}, L[i]? = some p → (es[i]?.map (·.1)).getD 0 = p.2.hash w := fun hp => by rw [R.entry hp]; rfl
    have passed : ∀ {b : Nat}, (∀ (q i : Nat), q < b → t.place.toList[i]? = some (nth t.mask (stepN t.mask h c) q).j → (es[i]?.map (·.1)).getD 0 ≠ h) → ∀ {i : Nat} {p : NE}, L[i]? = some p → p.2 = k → ∃ d, c + b ≤ d ∧ d < K ∧ t.place.toList[i]? = some (way t.mask h d) := fun {b} z i p hp hk => by
      obtain ⟨d, d1, d2, d3⟩ := ahead i p hp hk
      refine ⟨d, ?_, d2, d3⟩
      rcases Nat.lt_or_ge d (c + b) with y | y
      · refine absurd ?_ (z (d - c) i (by omega) (by rw [ej, show c + (d - c) = d by omega]; exact d3))
        rw [hashAt hp, hk, eh]
      · exact y
    rcases go with ⟨q, i, hq, hi, hh, nb, hp⟩ | ⟨nb, hp⟩
    · rw [show t.probe (fun i => (es[i]?.map (·.1)).getD 0) h (stand.getD (t.probeStart h)) = some (.candidate (nth t.mask (stepN t.mask h c) q).j i (nth t.mask (stepN t.mask h c) (q + 1))) by rw [est]; exact hp]
      dsimp only
      rw [ej] at hi ⊢
      rw [step_add]
      have li : i < L.length := by
        have := (List.getElem?_eq_some_iff.mp hi).1
        rw [R.tab.len, List.length_map] at this
        exact this
      obtain ⟨p, hLp⟩ : ∃ p, L[i]? = some p := ⟨_, List.getElem?_eq_getElem li⟩
      have pL : p ∈ L := List.mem_of_getElem? hLp
      have live : t.slot (way t.mask h (c + q)) = .live i := slot_live R.tab.ris hi
      have rest : wpAny (model P w) A (searchRest a (.ref x) h true f es t (way t.mask h (c + q)) i (stepN t.mask h (c + (q + 1)))) Q E s := by
        unfold searchRest
        rw [R.entry hLp]
        show wpAny (model P w) A (holding [Value.ref p.1] (eqBool (Value.ref p.1) (Value.ref x)) >>= _) Q E s
        refine wpAny_bind (wpAny_holding ((nestedKind P w).eqBool hu (R.key p pL).kind hx.kind ?_))
        refine wpAny_bind (wpAny_setState_of ho hd R.fits ?_)
        dsimp only
        by_cases hk : p.2 = k
        · refine wp_if_pos (by simp [hk]) (wpAny_pure (yes ?_))
          exact List.mem_map.mpr ⟨p, pL, hk⟩
        refine wp_if_neg (by simp [hk]) ?_
        try refine wpAny_bind (wpAny_pure ?_)
        rw [sameMem]
        dsimp only
        simp only [if_true, live, R.entry hLp]
        refine wpAny_bind (wpAny_isSame_ref_self (wpAny_bind (wpAny_pure ?_)))
        simp only [if_true]
        refine wp_if_neg (by simp [hk]) ?_
        refine ih (c + (q + 1)) _ rfl (by omega) (by omega) fun i0 p0 h0 hk0 => ?_
        obtain ⟨d, d1, d2, d3⟩ := passed nb h0 hk0
        refine ⟨d, ?_, d2, d3⟩
        rcases Nat.lt_or_ge (c + q) d with y | y
        · omega
        · exfalso
          have : d = c + q := by omega
          rw [this] at d3
          have l2 := slot_live R.tab.ris d3
          rw [live] at l2
          injection l2 with l2
          rw [← l2, hLp] at h0
          exact hk (by rw [Option.some.inj h0]; exact hk0)
      by_cases hl : t.led = true
      · refine wp_if_neg (by simp [hl]) ?_
        try refine wpAny_bind (wpAny_pure ?_)
        exact rest
      refine wp_if_pos (by simp [hl]) (wpAny_bind (unseen hx ?_ fun y hy => ?_))
      · refine wp_if_neg (by decide) ?_
        try refine wpAny_bind (wpAny_pure ?_)
        exact rest
      · obtain ⟨e, he, rfl⟩ := List.mem_map.mp hy
        have h1 : e ∈ es ∧ e.1 = h := by simpa using he
        have h2 : e ∈ es.toList := by simpa using h1.1
        rw [R.rows] at h2
        obtain ⟨p2, hp2, rfl⟩ := List.mem_map.mp h2
        exact ⟨p2.2, p2.1, rfl, R.key p2 hp2⟩
    · rw [show t.probe (fun i => (es[i]?.map (·.1)).getD 0) h (stand.getD (t.probeStart h)) = some (.empty (nth t.mask (stepN t.mask h c) (K - c)).j none) by rw [est]; exact hp]
      dsimp only
      rw [ej, cK']
      refine wpAny_pure (no fun hm => ?_)
      obtain ⟨p0, m0, k0⟩ := List.mem_map.mp hm
      obtain ⟨i0, l0, e0⟩ := List.getElem_of_mem m0
      obtain ⟨d, d1, d2, _⟩ := passed (b := K - c) nb (i := i0) (p := p0) (by rw [List.getElem?_eq_getElem l0, e0]) k0
      omega
theorem seek_at (R : SetN w s.heap a L es ep t) {x : Addr} {k : NestedKey} (hx : NK s.heap k x) (hu : A.units + 8 < cLine) {Q : SetFound → Shared → Prop} (yes : k ∈ L.map (·.2) → Q (.there none) s)
    (no : ∀ K, k ∉ L.map (·.2) → way t.mask (k.hash w) K ∉ t.place.toList → (∀ c, c < K → way t.mask (k.hash w) c ∈ t.place.toList) → Q (.free (way t.mask (k.hash w) K) false) s) : wpAny (model P w) A (setSearch a (.ref x) (k.hash w) true) Q E s := by
  have rm := R.room
  have lp := R.tab.len
  rw [List.length_map] at lp
  obtain ⟨K, fK, nK, bK⟩ := first_free R.tab.ring (pl := t.place.toList) (by omega) (k.hash w)
  have bigm := R.tab.ring.big
  unfold setSearch
  refine seek R hx hu fK nK bK yes (fun z => no K z nK bK) 100000 0 none rfl (Nat.zero_le _) (by unfold SetTable.turns at fK; omega) fun i p hp hk => ?_
  obtain ⟨j, hj, k', (e : way t.mask (k.hash w) k' = j), (z : ∀ d, d < k' → way t.mask (k.hash w) d ∈ t.place.toList)⟩ := R.tab.at' (i := i) (h := k.hash w) (by rw [List.getElem?_map, hp, ← hk]; rfl)
  refine ⟨k', Nat.zero_le _, ?_, by rw [hj, ← e]⟩
  rcases Nat.lt_trichotomy k' K with y | y | y
  · exact y
  · exfalso
    rw [← y, e] at nK
    exact nK (List.mem_of_getElem? hj)
  · exact absurd (z K y) nK
end

theorem same_nk {h h' : Heap} {k : NestedKey} {a b : Addr} {o : Obj} {es : Array (Int × Value)} {ep : Nat} {t : SetTable} (x : NK h k b) (ho : h.get? a = some o) (hd : o.data = .set es ep t) (sb : Heap.SameBut a h h') : NK h' k b := x.keep fun c oc vs n e z => by
  refine (sb.2 c fun ec => ?_).trans e
  subst ec
  rw [ho] at e
  cases e
  rw [hd] at z
  cases z
theorem all_there {α : Type} (L : List α) : (List.range L.length).filterMap (fun i => L[i]?) = L := by
  have z := PySem.W.krv_all L.toArray
  simpa using z
theorem put_in {α : Type} (L : List α) (p : Nat) (x : α) : (L.take p ++ x :: L.drop p).Perm (x :: L) := by
  refine List.perm_middle.trans ?_
  rw [List.take_append_drop]
/-- the rows in another order -/
theorem turned {w : World} {L : List NE} {es : Array (Int × Value)} {order : Array Nat} (hr : es.toList = L.map (rowN w)) (hp : order.toList.Perm (List.range L.length)) :
    ∃ L' : List NE, (order.filterMap (es[·]?)).toList = L'.map (rowN w) ∧ L'.Perm L ∧ L'.map (hashN w) = order.toList.map fun i => (es.map (·.1)).getD i 0 := by
  have at' : ∀ i : Nat, es[i]? = (L[i]?).map (rowN w) := fun i => by rw [← Array.getElem?_toList, hr, List.getElem?_map]
  refine ⟨order.toList.filterMap fun i => L[i]?, ?_, ?_, ?_⟩
  · rw [Array.toList_filterMap, List.map_filterMap]
    congr 1
    funext i
    exact at' i
  · have := hp.filterMap fun i => L[i]?
    rw [all_there] at this
    exact this
  · have inr : ∀ i ∈ order.toList, i < L.length := fun i hi => List.mem_range.mp (hp.mem_iff.mp hi)
    generalize order.toList = l at inr ⊢
    induction l with
    | nil => rfl
    | cons i l ih =>
      have li := inr i List.mem_cons_self
      rw [List.filterMap_cons_some (List.getElem?_eq_getElem li), List.map_cons, List.map_cons, ih fun j hj => inr j (List.mem_cons_of_mem _ hj)]
      congr 1
      rw [Array.getD_eq_getD_getElem?, Array.getElem?_map, at' i, List.getElem?_eq_getElem li]
      rfl
theorem size20 : SetTable.sizeAbove (SetTable.grown 5) = 32 := by decide +kernel
theorem size76 : SetTable.sizeAbove (SetTable.grown 19) = 128 := by decide +kernel
theorem size308 : SetTable.sizeAbove (SetTable.grown 77) = 512 := by decide +kernel
section
variable {P : Program} {w : World} {A : Around} {E : Value → Shared → Prop} {s : Shared} {a : Addr} {L : List NE} {es : Array (Int × Value)} {ep : Nat} {t : SetTable}
/-- what makes a set, but for the room -/
structure SetB (w : World) (h : Heap) (a : Addr) (L : List NE) (es : Array (Int × Value)) (ep : Nat) (t : SetTable) : Prop where
  ob : ∃ o, h.get? a = some o ∧ o.ExactSet ∧ o.data = .set es ep t
  rows : es.toList = L.map (rowN w)
  tab : TabG t (L.map (hashN w))
  nd : (L.map (·.2)).Nodup
  key : ∀ p ∈ L, NK h p.2 p.1
  plain : t.plain = true
  led : w.params.followText "set-order" = true ∨ t.led = true
  fit : L.length ≤ t.mask
theorem relay (R : SetB w s.heap a L es ep t) {wanted M : Nat} (hw : SetTable.sizeAbove wanted - 1 = M) (hM : MskN M) (hw2 : SetTable.sizeAbove wanted ≤ 512) (hn : L.length * 5 < M * 3) {Q : Unit → Shared → Prop}
    (hQ : ∀ h' L' es' ep' t', Heap.SameBut a s.heap h' → SetN w h' a L' es' ep' t' → L'.Perm L → Q () { s with heap := h' }) : wpAny (model P w) A (setRelay a wanted) Q E s := by
  obtain ⟨o, ho, hex, hd⟩ := R.ob
  have sz := rows_size R.rows
  have fits : t.fits es.size = true := fits_of R.tab (by rw [List.length_map, sz]) (by rw [sz]; exact R.fit)
  have l300 : L.length ≤ 512 := by
    have := hM.ring.big
    omega
  obtain ⟨t', order, e, pm, T, em, el, epl⟩ := relaid_at t (hs := es.map (·.1)) hw hM.ring (by rw [Array.size_map, sz]; omega)
  rw [Array.size_map, sz] at pm
  obtain ⟨L', r1, r2, r3⟩ := turned R.rows pm
  rw [← r3] at T
  have sz2 : (order.filterMap (es[·]?)).size = es.size := by rw [rows_size r1, sz, r2.length_eq]
  rw [setRelay_eq]
  refine wpAny_bind (wpAny_setState_of ho hd fits ?_)
  dsimp only
  refine wp_if_neg (by rw [sizeLine_eq]; omega) ?_
  try refine wpAny_bind (wpAny_pure ?_)
  rw [e]
  dsimp only
  refine wpAny_bind (wp_if_neg (by rw [sz2]; simp) ?_)
  try refine wpAny_bind (wpAny_pure ?_)
  refine wpAny_pure (wpAny_storeSet_of ho hd ?_ (by rw [sz2, sz, sizeLine_eq]; omega))
  have sb : Heap.SameBut a s.heap (s.heap.update a (Obj.putSet (order.filterMap (es[·]?)) t')) := Heap.SameBut.update ..
  refine hQ _ L' (order.filterMap (es[·]?)) (ep + 1) t' sb ⟨⟨_, store_at ho hd, ⟨hex.1, hex.2.1, hex.2.2⟩, rfl⟩, r1, T, ?_, fun p hp => same_nk (R.key p (r2.mem_iff.mp hp)) ho hd sb, by rw [epl]; exact R.plain, by rw [el]; exact R.led, by rw [em]; exact hM, ?_⟩ r2
  · exact (r2.map (·.2)).nodup_iff.mpr R.nd
  · rw [r2.length_eq, em]
    exact hn
theorem add_key (R : SetN w s.heap a L es ep t) {x : Addr} {k : NestedKey} (hx : NK s.heap k x) (hu : A.units + 8 < cLine) (few : L.length < 300) {Q : Bool → Shared → Prop}
    (hQ : ∀ b h' L' es' ep' t', Heap.SameBut a s.heap h' → SetN w h' a L' es' ep' t' → (k ∈ L.map (·.2) → L' = L) → (k ∉ L.map (·.2) → L'.Perm ((x, k) :: L)) → Q b { s with heap := h' }) :
    wpAny (model P w) A (setAddHashed a (.ref x) (k.hash w)) Q E s := by
  obtain ⟨o, ho, hex, hd⟩ := R.ob
  have sz := rows_size R.rows
  have rm := R.room
  unfold setAddHashed
  refine wpAny_holding ?_
  rw [show (100000 : Nat) = 99999 + 1 from rfl, setAddHashedIn_succ]
  refine wpAny_bind (wpAny_setState_of ho hd R.fits ?_)
  dsimp only
  refine wp_if_neg (by simp [byScan, Value.scannable]) ?_
  try refine wpAny_bind (wpAny_pure ?_)
  refine wpAny_bind (seek_at R hx hu (fun hm => ?_) fun K hm nK bK => ?_)
  · dsimp only
    exact wpAny_pure (hQ false s.heap L es ep t (Heap.SameBut.refl a s.heap) R (fun _ => rfl) fun z => absurd hm z)
  dsimp only
  refine wpAny_bind (wpAny_setState_of ho hd R.fits ?_)
  dsimp only
  obtain ⟨p, lp, e2, T, em, el, epl, ef⟩ := R.tab.putG nK bK
  obtain ⟨pt, ept⟩ : ∃ pt, t.put (way t.mask (k.hash w) K) = pt := ⟨_, rfl⟩
  rw [ept] at e2 T em el epl ef ⊢
  obtain ⟨t1, p1⟩ := pt
  dsimp only at e2 T em el epl ef ⊢
  subst e2
  have pl1 : t1.plain = true := by rw [epl]; exact R.plain
  first
    | (refine wpAny_bind ?_; refine wp_if_pos pl1 ?_; refine hx.byV _ _ _ ?_)
    | refine wp_if_pos pl1 (wpAny_bind (hx.byV _ _ _ ?_))
  simp only [if_true]
  have pm := put_in L p1 (x, k)
  have hl : (L.take p1 ++ (x, k) :: L.drop p1).length = L.length + 1 := pm.length_eq
  have hrows : (SetTable.insertAt es p1 (k.hash w, Value.ref x)).toList = (L.take p1 ++ (x, k) :: L.drop p1).map (rowN w) := by
    rw [SetTable.toList_insertAt, R.rows, List.map_append, List.map_cons, List.map_take, List.map_drop]
    rfl
  have T1 : TabG t1 ((L.take p1 ++ (x, k) :: L.drop p1).map (hashN w)) := by
    rw [List.map_append, List.map_cons, List.map_take, List.map_drop]
    exact T
  have nd1 : ((L.take p1 ++ (x, k) :: L.drop p1).map (·.2)).Nodup := (pm.map (·.2)).nodup_iff.mpr (by rw [List.map_cons]; exact List.nodup_cons.mpr ⟨hm, R.nd⟩)
  generalize SetTable.insertAt es p1 (k.hash w, Value.ref x) = es1 at hrows ⊢
  generalize L.take p1 ++ (x, k) :: L.drop p1 = L1 at pm hl hrows T1 nd1
  have sz1 := rows_size hrows
  refine wpAny_bind (wpAny_storeSet_of ho hd ?_ (by rw [sz1, hl, sizeLine_eq]; omega))
  have sb : Heap.SameBut a s.heap (s.heap.update a (Obj.putSet es1 t1)) := Heap.SameBut.update ..
  have ho1 := store_at (es' := es1) (t' := t1) ho hd
  generalize s.heap.update a (Obj.putSet es1 t1) = h1 at sb ho1 ⊢
  have R1 : SetB w h1 a L1 es1 (ep + 1) t1 := ⟨⟨_, ho1, ⟨hex.1, hex.2.1, hex.2.2⟩, rfl⟩, hrows, T1, nd1, fun q hq => by
    rcases List.mem_cons.mp (pm.mem_iff.mp hq) with e | hq
    · rw [e]; exact same_nk hx ho hd sb
    · exact same_nk (R.key q hq) ho hd sb, pl1, by rw [el]; exact R.led, by rw [hl, em]; omega⟩
  rw [List.length_map] at ef
  have full : t1.tooFull = decide ((L.length + 1) * 5 ≥ t.mask * 3) := by
    unfold SetTable.tooFull
    rw [ef, em]
  by_cases hf : (L.length + 1) * 5 ≥ t.mask * 3
  · first
      | (refine wpAny_bind ?_; refine wp_if_pos (by rw [full]; simpa using hf) ?_)
      | (refine wp_if_pos (by rw [full]; simpa using hf) ?_; refine wpAny_bind ?_)
    rw [sz]
    have go : ∀ M, SetTable.sizeAbove (SetTable.grown (L.length + 1)) = M + 1 → MskN M → (L.length + 1) * 5 < M * 3 →
        wpAny (model P w) A (setRelay a (SetTable.grown (L.length + 1))) (fun _ s' => wpAny (model P w) A (pure true) Q E s') E { s with heap := h1 } := fun M z1 z2 z3 => by
      have := z2.ring.big
      refine relay (s := { s with heap := h1 }) R1 (M := M) (by omega) z2 (by omega) (by rw [hl]; exact z3) fun h2 L2 es2 ep2 t2 sb2 R2 pm2 => ?_
      exact wpAny_pure (hQ true h2 L2 es2 ep2 t2 (sb.trans sb2) R2 (fun z => absurd z hm) fun _ => pm2.trans pm)
    rcases R.msk with e | e | e | e
    · have n : L.length = 4 := by omega
      exact go 31 (by rw [n]; exact size20) (.inr (.inl rfl)) (by omega)
    · have n : L.length = 18 := by omega
      exact go 127 (by rw [n]; exact size76) (.inr (.inr (.inl rfl))) (by omega)
    · have n : L.length = 76 := by omega
      exact go 511 (by rw [n]; exact size308) (.inr (.inr (.inr rfl))) (by omega)
    · omega
  · first
      | refine wp_if_neg (by rw [full]; simpa using hf) ?_
      | (refine wpAny_bind ?_; refine wp_if_neg (by rw [full]; simpa using hf) ?_; refine wpAny_pure ?_)
    exact wpAny_pure (hQ true h1 L1 es1 (ep + 1) t1 sb ⟨R1.ob, hrows, T1, nd1, R1.key, pl1, R1.led, by rw [em]; exact R.msk, by rw [hl, em]; omega⟩ (fun z => absurd z hm) fun _ => pm)
end

/-! ### set(xs), xs a list of such tuples -/
def GotN (ks : List NE) (i : Nat) (L : List NE) : Prop := (∀ p ∈ L, p ∈ ks) ∧ (∀ p ∈ ks.take i, p.2 ∈ L.map (·.2)) ∧ L.length ≤ i
theorem GotN.next {ks L L' : List NE} {i : Nat} {x : NE} (g : GotN ks i L) (h : ks[i]? = some x) (c1 : x.2 ∈ L.map (·.2) → L' = L) (c2 : x.2 ∉ L.map (·.2) → L'.Perm (x :: L)) : GotN ks (i + 1) L' := by
  obtain ⟨g1, g2, g3⟩ := g
  have tk : ks.take (i + 1) = ks.take i ++ [x] := by rw [List.take_add_one, h]; rfl
  by_cases c : x.2 ∈ L.map (·.2)
  · rw [c1 c]
    refine ⟨g1, fun p hp => ?_, Nat.le_succ_of_le g3⟩
    rw [tk] at hp
    rcases List.mem_append.mp hp with z | z
    · exact g2 p z
    · rw [List.mem_singleton.mp z]; exact c
  · have pm := c2 c
    refine ⟨fun p hp => ?_, fun p hp => ?_, by rw [pm.length_eq]; exact Nat.succ_le_succ g3⟩
    · rcases List.mem_cons.mp (pm.mem_iff.mp hp) with e | z
      · rw [e]; exact List.mem_of_getElem? h
      · exact g1 p z
    · rw [(pm.map (·.2)).mem_iff, List.map_cons]
      rw [tk] at hp
      rcases List.mem_append.mp hp with z | z
      · exact List.mem_cons_of_mem _ (g2 p z)
      · rw [List.mem_singleton.mp z]; exact List.mem_cons_self
section
variable {P : Program} {w : World} {A : Around} {E : Value → Shared → Prop} {s : Shared}
theorem SetN.keep {h h' : Heap} {a : Addr} {L : List NE} {es : Array (Int × Value)} {ep : Nat} {t : SetTable} (R : SetN w h a L es ep t) (ha : ∀ o, h.get? a = some o → h'.get? a = some o) (ht : ∀ p ∈ L, NK h' p.2 p.1) : SetN w h' a L es ep t := by
  obtain ⟨o, ho, r⟩ := R.ob
  exact ⟨⟨o, ha o ho, r⟩, R.rows, R.tab, R.nd, ht, R.plain, R.led, R.msk, R.room⟩
abbrev newSetObj (w : World) : Obj := { cls := .type "set", dict := none, data := .set #[] 0 (.fresh 0 0 (!w.params.followText "set-order")) }
theorem setN_new {h : Heap} {a : Addr} (ho : h.get? a = some (newSetObj w)) : SetN w h a [] #[] 0 (.fresh 0 0 (!w.params.followText "set-order")) := by
  refine ⟨⟨_, ho, ⟨rfl, rfl, rfl⟩, rfl⟩, rfl, ⟨ring_of (.inl rfl), List.Pairwise.nil, rfl, rfl, fun x hx => (by cases hx), fun q hq => (by cases hq)⟩, List.nodup_nil, fun p hp => (by cases hp), rfl, ?_, .inl rfl, ?_⟩
  · show _ ∨ (!w.params.followText "set-order") = true
    cases w.params.followText "set-order"
    · exact .inr rfl
    · exact .inl rfl
  · show 0 * 5 < 7 * 3
    decide
theorem fill_loop {I : Addr} {fp wr : List Addr} {G : Array GenState → Array GenState → Prop} {n : Nat} {Pv : Nat → Value → Prop} {St : Nat → Shared → Prop} {R : Result → Shared → Prop} (W : WalksS P w A.in1 I fp wr G n Pv St) {S : Addr} (nS : S ∉ fp)
    {ks : List NE} (hn : n = ks.length) (few : ks.length < 300) (val : ∀ i v, Pv i v → ∃ p, ks[i]? = some p ∧ v = .ref p.1) {h0 : Heap} (hk : ∀ p ∈ ks, NK h0 p.2 p.1) (hS : h0.get? S = none) (hwr : ∀ b ∈ wr, h0.get? b = none) (hu : A.in1.units + 8 < cLine) :
    ∀ (m i : Nat) (s : Shared), n - i = m → i ≤ n → St i s → (∀ b o, h0.get? b = some o → s.heap.get? b = some o) → (∃ L es ep t, SetN w s.heap S L es ep t ∧ GotN ks i L) →
      (∀ s' L es ep t, Moved (S :: wr) G s s' → SetN w s'.heap S L es ep t → GotN ks n L → (∀ b o, h0.get? b = some o → s'.heap.get? b = some o) → R (.ok (.ret .none)) s') →
      codeAny (model P w) A (.builtin "set.update.loop" ⟨[.ref S, .ref I], []⟩) R s := by
  have nSw : S ∉ wr := fun z => nS (W.sub _ z)
  have old : ∀ {s s' : Shared}, Moved wr G s s' → (∀ b o, h0.get? b = some o → s.heap.get? b = some o) → ∀ b o, h0.get? b = some o → s'.heap.get? b = some o := fun mv kp b o e =>
    mv.heap b o (fun hb => by rw [hwr b hb] at e; cases e) (kp b o e)
  have nk : ∀ {h' : Heap} {p : NE}, p ∈ ks → (∀ b o, h0.get? b = some o → h'.get? b = some o) → NK h' p.2 p.1 := fun hp kp => (hk _ hp).keep fun a o vs n e _ => kp a o e
  intro m
  induction m with
  | zero =>
    intro i s hm hi st kp ⟨L, es, ep, t, SL, g⟩ fin
    obtain rfl : i = n := by omega
    refine codeAny_builtin F.entry_set_update_loop ?_
    rw [Around.under_plainId F.plain_set_update_loop _]
    show wpAny (model P w) A.in1 (pyNext (.ref I) >>= _) _ _ s
    refine wpAny_bind (W.done s _ _ st fun s' mv => ?_)
    have kp' := old mv kp
    exact wpAny_pure (fin s' L es ep t (mv.mono fun b hb => List.mem_cons_of_mem _ hb) (SL.keep (fun o e => mv.heap S o nSw e) fun p hp => nk (g.1 p hp) kp') g kp')
  | succ m ih =>
    intro i s hm hi st kp ⟨L, es, ep, t, SL, g⟩ fin
    have lt : i < n := by omega
    refine codeAny_builtin F.entry_set_update_loop ?_
    rw [Around.under_plainId F.plain_set_update_loop _]
    show wpAny (model P w) A.in1 (pyNext (.ref I) >>= _) _ _ s
    refine wpAny_bind (W.item i s _ _ lt st fun v s' hP st' mv => ?_)
    obtain ⟨p, hp, rfl⟩ := val i v hP
    have kp' := old mv kp
    have SL' : SetN w s'.heap S L es ep t := SL.keep (fun o e => mv.heap S o nSw e) fun q hq => nk (g.1 q hq) kp'
    have hx : NK s'.heap p.2 p.1 := nk (List.mem_of_getElem? hp) kp'
    show wpAny (model P w) A.in1 (holding [Value.ref p.1] (setAdd S (.ref p.1)) >>= _) _ _ s'
    refine wpAny_bind (wpAny_holding ?_)
    unfold setAdd
    refine wpAny_holding (wpAny_bind ((nestedKind P w).pyHash hu hx.kind ?_))
    refine add_key (s := { s' with toks := s'.toks + (nestedKind P w).draws p.2 }) SL' hx hu (by have := g.2.2; omega) fun b h' L' es' ep' t' sb SL2 c1 c2 => ?_
    have kp2 : ∀ b o, h0.get? b = some o → h'.get? b = some o := fun b o e => (sb.2 b (fun z => by rw [z, hS] at e; cases e)).trans (kp' b o e)
    refine wpAny_pure ⟨plainId_quiet F.plain_set_update_loop _, ih (i + 1) _ (by omega) lt (W.frame _ s' _ _ st' (Nat.le_add_right _ _) fun b hb o e => ?_) kp2 ⟨L', es', ep', t', SL2, g.next hp c1 c2⟩ fun s2 L2 es2 ep2 t2 mv2 SL3 g3 kp3 => ?_⟩
    · exact (sb.2 b fun z : b = S => nS (by rw [← z]; exact hb)).trans e
    · refine fin s2 L2 es2 ep2 t2 (Moved.trans W.gtrans ((mv.mono fun b hb => List.mem_cons_of_mem _ hb).then_heap (Nat.le_add_right _ _) fun b o hb e => ?_) mv2) SL3 g3 kp3
      exact (sb.2 b fun z : b = S => hb (by rw [z]; exact List.mem_cons_self)).trans e
end

section
variable {P : Program} {w : World} {A : Around} {E : Value → Shared → Prop} {s : Shared}
set_option maxRecDepth 100000 in
set_option maxHeartbeats 3200000 in
/-- set(x) of whatever, by what its filling does -/
theorem set_by2 (x : Value) {Q : Value → Shared → Prop}
    (fill : ∀ B : Around, B.handled = A.handled → B.units ≤ A.units + 8 → codeAny (model P w) B (.call (.builtin "set.__init__") ⟨[.ref s.heap.objs.size, x], []⟩) (wants (fun r z => r = .none ∧ Q (.ref s.heap.objs.size) z) E) { s with heap := s.heap.push (newSetObj w) }) :
    wpAny (model P w) A (call (.type "set") [x]) Q E s := by
  have M := F.called_set
  have m1 := M.made
  have m2 := M.sub
  have m3 := M.notType
  have m4 := M.canCreate
  have m5 := F.typeCall_set_1 x
  obtain ⟨c, tl, m6⟩ := M.mro
  refine wpAny_call (codeAny_of_tree (wpAny_pure ⟨Code.quiet_builtin _ (by decide +kernel), codeAny_builtin F.entry_type_call ?_⟩))
  rw [Around.under_plain (weight_type_call_type "set" [x] []) rfl]
  repeat (any_goals (first | assumption | wp_step))
  refine codeAny_mono (code_set_led1 x (E := E) (Q₁ := fun o z => o = .ref s.heap.objs.size ∧ z = { s with heap := s.heap.push (newSetObj w) }) ⟨rfl, rfl⟩) fun r z hr => ?_
  match r, hr with
  | .error e, hr => exact hr
  | .ok (.ret o), ⟨e1, e2⟩ =>
    subst e1
    subst e2
    have g : (s.heap.push (newSetObj w)).get? s.heap.objs.size = some (newSetObj w) := Heap.get?_push_size _ rfl
    have ty : Shared.TypeIs { s with heap := s.heap.push (newSetObj w) } (.ref s.heap.objs.size) "set" := ⟨_, g, rfl⟩
    have i1 := M.init.lookup
    have i2 := M.init.bind (.ref s.heap.objs.size)
    repeat (any_goals (first | assumption | wp_step))
    refine codeAny_mono (fill _ (by simp) (by simp only [Around.in1_units]; omega)) fun r2 z2 h2 => ?_
    match r2, h2 with
    | .error e, h2 => exact h2
    | .ok (.ret o), ⟨e3, q⟩ =>
      subst e3
      repeat (any_goals (first | assumption | wp_step))
set_option maxRecDepth 100000 in
set_option maxHeartbeats 3200000 in
/-- the filling of a new set with a list of such tuples -/
theorem fillN {l : Addr} {its : Array Value} (ks : List NE) {S : Addr} {Q : Value → Shared → Prop} (hh : A.handled = none) (hu : A.units + 16 < cLine) (gS : s.heap.get? S = some (newSetObj w)) (hl : s.heap.IsList l its) (nl : l ≠ S) (hi : its.toList = ks.map fun p => Value.ref p.1) (few : ks.length < 300)
    {h0 : Heap} (hk : ∀ p ∈ ks, NK h0 p.2 p.1) (h0S : h0.get? S = none) (h0s : ∀ b o, h0.get? b = some o → s.heap.get? b = some o)
    (q : ∀ (h' : Heap) (tk : Nat) L es ep t, SetN w h' S L es ep t → GotN ks ks.length L → (∀ b o, b ≠ S → s.heap.get? b = some o → h'.get? b = some o) → Q .none { s with heap := h', toks := tk }) :
    codeAny (model P w) A (.call (.builtin "set.__init__") ⟨[.ref S, .ref l], []⟩) (wants Q E) s := by
  have ty : s.TypeIs (.ref S) "set" := ⟨_, gS, rfl⟩
  refine codeAny_call_builtin F.called_set.init.plain F.entry_set_init (check_set_init_1 ty ?_)
  have len : its.size = ks.length := by rw [← Array.length_toList, hi, List.length_map]
  have zS : S < s.heap.objs.size := Heap.lt_size gS
  obtain ⟨o, go, c1, n, c2⟩ := id hl
  have zl : l < s.heap.objs.size := Heap.lt_size go
  obtain ⟨oc, od, oa, os⟩ := o
  dsimp only at c1 c2
  subst c1 c2
  have f1 := F.sub_list_set
  have f2 := F.sub_list_frozenset
  have f3 : (Value.type "list" == Value.type "dict") = false := by decide
  have gS' := gS
  unfold newSetObj at gS'
  unfold Builtin.«set.__init__» noKeywords Builtin.Frozenset.updateFrom
  generalize hPI : pyIter = PI
  wp_walk
  subst hPI
  refine wpAny_pyIter_list hl (wpAny_bind (wpAny_runValue ?_))
  have at' : ∀ (i : Nat) (v : Value), its[i]? = some v → ∃ p, ks[i]? = some p ∧ v = .ref p.1 := fun i v hv => by
    rw [← Array.getElem?_toList, hi, List.getElem?_map] at hv
    cases e : ks[i]? with
    | none => rw [e] at hv; cases hv
    | some p => rw [e] at hv; exact ⟨p, rfl, (Option.some.inj hv).symm⟩
  refine fill_loop (h0 := h0) ((Walks.list (by simp [hh]) _ l (Nat.ne_of_lt zl) its).toS) (S := S) ?_ len few at' hk h0S (fun b hb => ?_) (by simp only [Around.in1_units]; omega) _ 0 _ rfl (Nat.zero_le _) ⟨⟨_, Heap.get?_push_size _ rfl, rfl, rfl⟩, hl.push _⟩ (fun b o e => Heap.get?_push_of_some _ (h0s b o e))
    ⟨[], #[], 0, _, setN_new (Heap.get?_push_of_some _ gS), fun p hp => (by cases hp), fun p hp => (by simp at hp), Nat.le_refl _⟩ fun z L es ep t mv R g kp => ?_
  · simp only [List.mem_cons, List.not_mem_nil, or_false, not_or]
    exact ⟨Nat.ne_of_lt zS, Ne.symm nl⟩
  · rw [List.mem_singleton.mp hb]
    cases e : h0.get? s.heap.objs.size with
    | none => rfl
    | some o => exact absurd (Heap.lt_size (h0s _ _ e)) (Nat.lt_irrefl _)
  · obtain ⟨h', g', d', tk, os'⟩ := z
    cases (show g' = s.gens from mv.gens)
    cases (show d' = s.drawn from mv.drawn)
    cases (show os' = s.os from mv.os)
    rw [len] at g
    refine wpAny_pure (wpAny_pure (q h' tk L es ep t R g fun b o nb e => mv.heap b o ?_ (Heap.get?_push_of_some _ e)))
    simp only [List.mem_cons, List.not_mem_nil, or_false, not_or]
    exact ⟨nb, Nat.ne_of_lt (Heap.lt_size e)⟩
end
/-- the set at a, without the tuples themselves -/
structure SetO' (w : World) (h : Heap) (a : Addr) (L : List NE) : Prop where
  ex : ∃ (es : Array (Int × Value)) (ep : Nat) (t : SetTable), (∃ o, h.get? a = some o ∧ o.ExactSet ∧ o.data = .set es ep t) ∧ es.toList = L.map (rowN w) ∧ TabG t (L.map (hashN w)) ∧ (L.map (·.2)).Nodup ∧ t.plain = true ∧ (w.params.followText "set-order" = true ∨ t.led = true) ∧ MskN t.mask ∧ L.length * 5 < t.mask * 3
def SetNO (w : World) (a : Addr) (L : List NE) : HO := .ext fun h => SetO' w h a L
theorem SetN.o {w : World} {h : Heap} {a : Addr} {L : List NE} {es : Array (Int × Value)} {ep : Nat} {t : SetTable} (R : SetN w h a L es ep t) : SetO' w h a L := ⟨es, ep, t, R.ob, R.rows, R.tab, R.nd, R.plain, R.led, R.msk, R.room⟩
theorem setNO_new {P : Program} {w : World} {H : Hp} {h : Heap} {a : Addr} {L : List NE} (R : SetO' w h a L) : ObjOk P w H h a (SetNO w a L) := by
  obtain ⟨es, ep, t, ⟨o, ho, _⟩, _⟩ := R.ex
  refine ⟨R, ⟨o, ho⟩, fun h1 h2 z k => ?_⟩
  obtain ⟨es', ep', t', ⟨o', ho', r'⟩, q'⟩ := SetO'.ex z
  exact ⟨es', ep', t', ⟨o', k o' ho', r'⟩, q'⟩
/-- a list of such tuples, each with its key -/
def NKs (K : PySem.W.Frag) (H : Hp) (ks : List NE) : Prop := ∀ p ∈ ks, Dp K H (.ref p.1) p.2.data ∧ p.2.depth ≤ 8 ∧ numK p.2 = true
def rSetNk (K : PySem.W.Frag) (w : World) : List V → Hp → VK → Prop := fun vs H Q => ∃ (a : Addr) (ks : List NE), vs = [.ref a] ∧ SqL K H a (ks.map fun p => V.ref p.1) ∧ NKs K H ks ∧ ks.length < 300 ∧
  ∀ (L : List NE) (p : Addr), GotN ks ks.length L → (L.map (·.2)).Nodup → H p = none → Q (.ref p) (upd H p (SetNO w p L))
theorem ref_vals : ∀ {ks : List NE} {us : List Value}, Vals (ks.map fun p => V.ref p.1) us → us = ks.map fun p => Value.ref p.1
  | [], _, .nil => rfl
  | p :: ks, _, .cons r t => by
    cases r
    rw [ref_vals t]
    rfl
section
variable {X : Cx}
theorem nks_at {pins : List (Addr × Obj)} {σ : L2.St} {H : Hp} {s : Shared} (I : Inv X pins σ H s) {ks : List NE} (h : NKs X.K H ks) : ∀ p ∈ ks, NK s.heap p.2 p.1 := fun p hp => by
  obtain ⟨h1, h2, h3⟩ := h p hp
  exact ⟨dp_nk I _ _ _ h1 rfl, h2, h3⟩
theorem cr_setN (hc : X.calm = true) (hu : X.A.units + 64 < cLine) : CallR X (.type "set") (rSetNk X.K X.w) := by
  intro pins s σ H vs us Q I r h
  obtain ⟨a, ks, rfl, hs, hk, few, q⟩ := h
  obtain ⟨its, rv, hl, hz⟩ := I.list hs
  rw [Vals.ref1 r]
  have hs0 := hl.isList
  have la : a < s.heap.objs.size := by
    obtain ⟨o, go, _⟩ := hs0
    exact Heap.lt_size go
  have np : H s.heap.objs.size = none := I.hok.fresh (Nat.le_refl _)
  refine set_by2 (.ref a) fun B hB uB => ?_
  refine fillN (s := { s with heap := s.heap.push (newSetObj X.w) }) ks (hB.trans (I.ok.hd hc)) (by omega) (Heap.get?_push_size _ rfl) (hs0.push _) (Nat.ne_of_lt la) (by simpa using ref_vals rv) few (h0 := s.heap) (nks_at I hk) ?_ (fun b o e => Heap.get?_push_of_some _ e) fun h' tk L es ep t R g hk' => ⟨rfl, ?_⟩
  · cases e : s.heap.get? s.heap.objs.size with
    | none => rfl
    | some o => exact absurd (Heap.lt_size e) (Nat.lt_irrefl _)
  · exact ⟨.ref _, upd H s.heap.objs.size (SetNO X.w s.heap.objs.size L), I.laid (t' := tk) (fun b u e => hk' b u (Nat.ne_of_lt (Heap.lt_size e)) (Heap.get?_push_of_some _ e)) (Nat.le_refl _) (setNO_new R.o), rfl, q L _ g R.nd np⟩
end

/-! ### sorted(set), the set of such tuples -/
theorem dLt_irr (d : PyData) : PySem.W.dataLt d d = false := lex_irrefl _
theorem dLt_tr {a b c : PyData} (h1 : PySem.W.dataLt a b = true) (h2 : PySem.W.dataLt b c = true) : PySem.W.dataLt a c = true := lex_trans _ _ _ h1 h2
theorem dLe_pair {β : Type} (k : β → PyData) (l : List β) : (l.mergeSort (PySem.W.dataLe false k)).Pairwise fun a b => PySem.W.dataLt (k b) (k a) = false := by
  have tr : ∀ a b c : β, PySem.W.dataLe false k a b = true → PySem.W.dataLe false k b c = true → PySem.W.dataLe false k a c = true := by
    intro a b c h1 h2
    have h1' : (!PySem.W.dataLt (k b) (k a)) = true := h1
    have h2' : (!PySem.W.dataLt (k c) (k b)) = true := h2
    show (!PySem.W.dataLt (k c) (k a)) = true
    cases e : PySem.W.dataLt (k c) (k a) with
    | false => rfl
    | true =>
      rcases lex_negTrans (O := itemOrd) _ (PySem.W.keyToks (k b)) _ e with z | z
      · have z' : PySem.W.dataLt (k c) (k b) = true := z
        rw [z'] at h2'
        cases h2'
      · have z' : PySem.W.dataLt (k b) (k a) = true := z
        rw [z'] at h1'
        cases h1'
  have to : ∀ a b : β, (PySem.W.dataLe false k a b || PySem.W.dataLe false k b a) = true := by
    intro a b
    show ((!PySem.W.dataLt (k b) (k a)) || (!PySem.W.dataLt (k a) (k b))) = true
    cases e : PySem.W.dataLt (k b) (k a) with
    | false => rfl
    | true =>
      cases e2 : PySem.W.dataLt (k a) (k b) with
      | false => rfl
      | true =>
        have := dLt_tr e e2
        rw [dLt_irr] at this
        cases this
  refine (List.pairwise_mergeSort tr to l).imp fun {a b} h => ?_
  have h' : (!PySem.W.dataLt (k b) (k a)) = true := h
  simpa using h'
theorem each_ref : ∀ {vs : List Value} {L : List NE}, PySem.W.EachIs (fun v (p : NE) => v = Value.ref p.1) vs L → vs = L.map fun p => Value.ref p.1
  | _, _, .nil => rfl
  | _, _, .cons h t => by
    rw [h, each_ref t]
    rfl
theorem ref_each : ∀ {R : Value → NE → Prop} (L : List NE), (∀ p ∈ L, R (Value.ref p.1) p) → PySem.W.EachIs R (L.map fun p => Value.ref p.1) L
  | _, [], _ => .nil
  | _, p :: L, h => .cons (h p List.mem_cons_self) (ref_each L fun q hq => h q (List.mem_cons_of_mem _ hq))
section
variable {P : Program} {w : World} {A : Around} {E : Value → Shared → Prop} {s : Shared} {a : Addr} {L : List NE} {es : Array (Int × Value)} {ep : Nat} {t : SetTable}
theorem sorted_setN {Q : Value → Shared → Prop} (R : SetN w s.heap a L es ep t) (hh : A.handled = none) (few : L.length < 1000) (rd : ∀ p ∈ L, Reads s.heap (.ref p.1) p.2.data []) (al : ∀ p ∈ L, ∀ q ∈ L, PySem.W.alike p.2.data q.2.data = true) (ne : ∀ p ∈ L, ∃ x r, p.2.data = .tuple (x :: r)) (hu : ∀ p ∈ L, A.units + 8 + p.2.data.depth < cLine)
    (hQ : ∀ s' p (out : Array Value) (c : Nat) (L' : List NE), (∀ b o, s.heap.get? b = some o → s'.heap.get? b = some o) → s'.gens = s.gens → s'.os = s.os → s.heap.objs.size ≤ p → s'.heap.get? p = some (seqObj "list" out c) → out.toList = L'.map (fun q => Value.ref q.1) → L'.Perm L → (L'.Pairwise fun q r => PySem.W.dataLt r.2.data q.2.data = false) → Q (.ref p) s') :
    wpAny (model P w) A (call (.builtin "sorted") [.ref a]) Q E s := by
  obtain ⟨o, ho, hex, hd⟩ := R.ob
  have sz := rows_size R.rows
  refine Calls.call_function_entry kind_sorted plain_sorted entry_sorted (args_sorted1 _) ?_
  unfold Builtin.«sorted»
  refine wpAny_bind (m := checkCount "sorted" 1 1 _) (wpAny_pure (wpAny_bind (collect_set (A := A.in1) hh ⟨o, ho, hex.1, hd⟩ R.fits (by unfold scanBound; omega) R.tab.ris R.led fun s1 vs k1 hz g1 o1 pm => ?_)))
  have pm' : vs.Perm (L.map fun q => Value.ref q.1) := by
    rw [R.rows, List.map_map] at pm
    exact pm
  -- in some order they are the addresses of the rows
  have inj : ∀ p ∈ L, ∀ q ∈ L, p.1 = q.1 → p = q := fun p hp q hq e => Prod.ext e (NestedIs.inj _ _ _ (R.key p hp).is (by rw [e]; exact (R.key q hq).is))
  have ordL : ∀ vs : List Value, vs.Perm (L.map fun q => Value.ref q.1) → ∃ L1 : List NE, vs = L1.map (fun q => Value.ref q.1) ∧ L1.Perm L := by
    intro vs pv
    have ex : ∀ us : List Value, (∀ u ∈ us, u ∈ L.map fun q => Value.ref q.1) → ∃ L1 : List NE, us = L1.map (fun q => Value.ref q.1) ∧ ∀ p ∈ L1, p ∈ L := by
      intro us
      induction us with
      | nil => exact fun _ => ⟨[], rfl, fun p hp => by cases hp⟩
      | cons u us ih =>
        intro hu
        obtain ⟨p, hp, e⟩ := List.mem_map.mp (hu u List.mem_cons_self)
        obtain ⟨L1, e1, h1⟩ := ih fun v hv => hu v (List.mem_cons_of_mem _ hv)
        refine ⟨p :: L1, by rw [e1, ← e]; rfl, fun q hq => ?_⟩
        rcases List.mem_cons.mp hq with z | z
        · rw [z]; exact hp
        · exact h1 q z
    obtain ⟨L1, e1, h1⟩ := ex vs fun u hu => pv.mem_iff.mp hu
    refine ⟨L1, e1, ?_⟩
    have ndL : L.Nodup := List.Pairwise.of_map (·.2) (fun _ _ hne e => hne (congrArg _ e)) R.nd
    have ndR : (L.map fun q => Value.ref q.1).Nodup := by
      refine List.pairwise_map.mpr (List.Pairwise.imp_of_mem (fun {p q} hp hq hne e => ?_) ndL)
      injection e with e
      exact hne (inj p hp q hq e)
    have nd0 : (L1.map fun q => Value.ref q.1).Nodup := by
      rw [← e1]
      exact pv.nodup_iff.mpr ndR
    have nd1 : L1.Nodup := List.Pairwise.of_map (fun q : NE => Value.ref q.1) (fun p q (hne : Value.ref p.1 ≠ Value.ref q.1) e => hne (by rw [e])) nd0
    refine (List.perm_ext_iff_of_nodup nd1 ndL).mpr fun p => ⟨h1 p, fun hp => ?_⟩
    have m : Value.ref p.1 ∈ L1.map fun q => Value.ref q.1 := by
      rw [← e1]
      exact pv.mem_iff.mpr (List.mem_map.mpr ⟨p, hp, rfl⟩)
    obtain ⟨q, hq, e⟩ := List.mem_map.mp m
    injection e with e
    rw [← inj q (h1 q hq) p hp e]
    exact hq
  obtain ⟨L1, e1, pm1⟩ := ordL vs pm'
  have in1 : ∀ p ∈ L1, p ∈ L := fun p hp => pm1.mem_iff.mp hp
  have lv : vs.length = L.length := by rw [e1, List.length_map, pm1.length_eq]
  subst e1
  refine wpAny_bind (wpAny_newList ?_ (by rw [sizeLine_eq]; omega))
  have hoL : (s1.heap.push (seqObj "list" (L1.map fun q => Value.ref q.1).toArray 0)).get? s1.heap.objs.size = some (seqObj "list" (L1.map fun q => Value.ref q.1).toArray 0) := Heap.get?_push_size _ rfl
  have rd1 : ∀ p ∈ L1, Reads (s1.heap.push (seqObj "list" (L1.map fun q => Value.ref q.1).toArray 0)) (.ref p.1) p.2.data [] := fun p hp => PyProof.Rows.Reads.keeps (fun b o e => Heap.get?_push_of_some _ (k1 b o e)) (rd p (in1 p hp))
  have al1 : PySem.W.AllAlike (L1.map fun p => p.2.data) := by
    intro d hd' d' hd2
    obtain ⟨p, hp, rfl⟩ := List.mem_map.mp hd'
    obtain ⟨q, hq, rfl⟩ := List.mem_map.mp hd2
    exact al p (in1 p hp) q (in1 q hq)
  have so1 : PySem.W.Sortable (L1.map fun p => p.2.data) := .inl fun d hd' => by
    obtain ⟨p, hp, rfl⟩ := List.mem_map.mp hd'
    exact ne p (in1 p hp)
  refine wpAny_bind (wpAny_holding (PySem.W.list_sort_data (s := { s1 with heap := s1.heap.push (seqObj "list" (L1.map fun q => Value.ref q.1).toArray 0) }) (bs := L1) (enc := fun p => p.2.data) (R := fun v p => v = Value.ref p.1) hoL (ref_each L1 fun p _ => rfl) (ref_each L1 fun p hp => ⟨[], rd1 p hp, by simp⟩) al1 so1 (by rw [pm1.length_eq, sizeLine_eq]; omega)
    (fun p hp => by have := hu p (in1 p hp); simp only [Around.in1_units]; omega) fun out _ ei => ?_))
  obtain ⟨c, hc⟩ := sortedHeap_at (vs := L1.map fun q => Value.ref q.1) (out := out.toArray) hoL
  have eo := each_ref ei
  refine wpAny_pure ⟨_, rfl, hQ _ s1.heap.objs.size out.toArray c (L1.mergeSort (PySem.W.dataLe false fun p => p.2.data)) (fun b u e => ?_) g1 o1 hz hc eo ((List.mergeSort_perm _ _).trans pm1) (dLe_pair _ _)⟩
  have q := k1 b u e
  have lt := Heap.lt_size q
  show (sortedHeap (s1.heap.push (seqObj "list" (L1.map fun q => Value.ref q.1).toArray 0)) s1.heap.objs.size (L1.map fun q => Value.ref q.1) out.toArray).get? b = some u
  rw [sortedHeap_old (Nat.ne_of_lt lt) (by rw [size_push']; exact Nat.lt_succ_of_lt lt)]
  exact Heap.get?_push_of_some _ q
end
section
variable {X : Cx} {pins : List (Addr × Obj)} {σ : L2.St} {H : Hp} {s : Shared}
mutual
theorem nk_rd (I : Inv X pins σ H s) : ∀ (k : NestedKey) (v : V) (u : Value), Dp X.K H v k.data → RelV v u → Reads s.heap u k.data []
  | .none, _, _, h, r => by
    cases h
    cases r
    exact Reads.none
  | .num i, _, _, h, r => by
    cases h
    obtain ⟨t, rfl⟩ := r
    exact Reads.int i t
  | .text z, _, _, h, r => by
    cases h
    obtain ⟨t, rfl⟩ := r
    exact Reads.str z t
  | .tup ks, _, _, h, r => by
    cases h with
    | tup hs ha =>
      cases r
      obtain ⟨its, rv, ⟨o, e1, e2, n, e3⟩, _⟩ := I.tuple hs
      exact Reads.tuple e1 e2 e3 (by simpa using nks_rd I ks _ _ ha rv)
theorem nks_rd (I : Inv X pins σ H s) : ∀ (ks : List NestedKey) (vs : List V) (us : List Value), DpAll X.K H vs (NestedKey.datas ks) → Vals vs us → ReadsAll s.heap us (NestedKey.datas ks) []
  | [], _, _, h, r => by
    cases h
    cases r
    exact ReadsAll.nil
  | k :: ks, _, _, h, r => by
    cases h with
    | cons h1 h2 =>
      cases r with
      | cons r1 r2 => exact ReadsAll.cons (nk_rd I k _ _ h1 r1) (nks_rd I ks _ _ h2 r2)
end
end
def rSortNk (K : PySem.W.Frag) (w : World) : List V → Hp → VK → Prop := fun vs H Q => ∃ (a : Addr) (L : List NE), vs = [.ref a] ∧ H a = some (SetNO w a L) ∧ NKs K H L ∧ L.length < 1000 ∧ (∀ p ∈ L, ∀ q ∈ L, PySem.W.alike p.2.data q.2.data = true) ∧ (∀ p ∈ L, ∃ x r, p.2.data = .tuple (x :: r)) ∧ (∀ p ∈ L, p.2.data.depth ≤ 10) ∧
  ∀ (L' : List NE) (p : Addr), L'.Perm L → (L'.Pairwise fun q r => PySem.W.dataLt r.2.data q.2.data = false) → H p = none → Q (.ref p) (upd H p (.lst (L'.map fun q => V.ref q.1)))
theorem vals_ref : ∀ (ks : List NE), Vals (ks.map fun p => V.ref p.1) (ks.map fun p => Value.ref p.1)
  | [] => .nil
  | p :: ks => .cons rfl (vals_ref ks)
theorem cr_sortN {X : Cx} (hc : X.calm = true) (hu : X.A.units + 64 < cLine) : CallR X (.builtin "sorted") (rSortNk X.K X.w) := by
  intro pins s σ H vs us Q I r h
  obtain ⟨a, L, rfl, ha, hk, few, al, ne, dp, q⟩ := h
  obtain ⟨es, ep, t, h1, h2, h3, h4, h5, h6, h7, h8⟩ := (show SetO' X.w s.heap a L from (I.hok a _ ha).1).ex
  have R : SetN X.w s.heap a L es ep t := ⟨h1, h2, h3, h4, nks_at I hk, h5, h6, h7, h8⟩
  rw [Vals.ref1 r]
  refine sorted_setN R (I.ok.hd hc) few (fun p hp => nk_rd I _ _ _ (hk p hp).1 rfl) al ne (fun p hp => by have := dp p hp; omega) fun s' p out c L' k g o hp hg hout pm pw => ?_
  have lL : L'.length = L.length := pm.length_eq
  have hlen : (L'.map fun q => V.ref q.1).length ≤ sizeLine := by rw [List.length_map, sizeLine_eq]; omega
  have np : H p = none := I.hok.fresh hp
  have hv : Vals (L'.map fun q => V.ref q.1) out.toList := by rw [hout]; exact vals_ref L'
  have J : Inv X pins σ (upd H p (.lst (L'.map fun q => V.ref q.1))) { s with heap := s'.heap, gens := s'.gens, drawn := s'.drawn, toks := s'.toks } :=
    I.call (ch := []) (Un.laid k hp np) (I.hok.laid k hp ⟨hlen, out.toList, c, hv, hg⟩) (by rw [g]; exact I.bare) (fun _ z => nomatch z)
  have e : s' = { s with heap := s'.heap, gens := s'.gens, drawn := s'.drawn, toks := s'.toks } := by
    cases s'
    cases s
    cases o
    rfl
  rw [e]
  exact ⟨.ref p, _, J, rfl, q L' p pm pw np⟩

/-! ### pictures as keys -/
def rwK (r : RW) : NestedKey := .tup [.num r.1, .num r.2]
def picK (c : PIC) : NestedKey := .tup [.tup (c.1.map .num), .tup [rwK c.2.1, rwK c.2.2]]
theorem nums_data : ∀ ns : List Int, NestedKey.datas (ns.map .num) = ns.map .int
  | [] => rfl
  | n :: r => by
    have ih := nums_data r
    rw [List.map_cons, List.map_cons, ← ih]
    rfl
theorem picK_data {c : PIC} : (picK c).data = picD c := by
  show PyData.tuple [PyData.tuple (NestedKey.datas (c.1.map .num)), _] = _
  rw [nums_data]
  rfl
theorem nums_depth : ∀ ns : List Int, NestedKey.depthAll (ns.map .num) ≤ 1
  | [] => by decide
  | n :: r => by
    have ih := nums_depth r
    rw [List.map_cons]
    simp only [NestedKey.depthAll, NestedKey.depth]
    omega
theorem picK_depth {c : PIC} : (picK c).depth ≤ 8 := by
  have h := nums_depth c.1
  unfold picK rwK
  simp only [NestedKey.depth, NestedKey.depthAll]
  omega

/-! ### plates: the unlike pictures, rising -/
def ltP (a b : PIC) : Prop := PySem.W.dataLt (picD a) (picD b) = true
theorem alike_pic (a b : PIC) : PySem.W.alike (picD a) (picD b) = true := by
  have h1 := PySem.W.alike_ints a.1 b.1
  unfold picD plD rwD
  simp only [PySem.W.alike, PySem.W.alikeAll, h1, Bool.and_self, Bool.true_and, Bool.and_true]
theorem nb_pic (a : PIC) : nb (picD a) = true := (sd_pic a).nb
theorem toks_ne {d e : PyData} (al : PySem.W.alike d e = true) (hd : nb d = true) (he : nb e = true) (ne : d ≠ e) : PySem.W.keyToks d ≠ PySem.W.keyToks e := by
  intro z
  have f : PyData.eqv d e = false := by
    cases e2 : PyData.eqv d e with
    | false => rfl
    | true => exact absurd ((nb_eqv hd he).mp e2) ne
  have t := (PySem.W.toks_eqv d e al).2 f [] [Sum.inl 0]
  rw [z, PySem.W.lex_pre, lex_irrefl] at t
  exact absurd t (by decide)
theorem lt_tri {a b : PIC} (ne : a ≠ b) (h : PySem.W.dataLt (picD b) (picD a) = false) : ltP a b := by
  show PySem.W.dataLt (picD a) (picD b) = true
  cases e : PySem.W.dataLt (picD a) (picD b) with
  | true => rfl
  | false => exact absurd (lex_total (O := itemOrd) _ _ e h) (toks_ne (alike_pic a b) (nb_pic a) (nb_pic b) fun z => ne (picD_inj z))
theorem ltP_irr (a : PIC) : ¬ ltP a a := fun h => by
  have h' : PySem.W.dataLt (picD a) (picD a) = true := h
  rw [dLt_irr] at h'
  cases h'
theorem ltP_tr {a b c : PIC} (h1 : ltP a b) (h2 : ltP b c) : ltP a c := dLt_tr h1 h2
/-- the rising list of the unlike ones of cs -/
def IsPl (cs ps : List PIC) : Prop := ps.Pairwise ltP ∧ ∀ c, c ∈ ps ↔ c ∈ cs
theorem ris_uniq : ∀ {ps qs : List PIC}, ps.Pairwise ltP → qs.Pairwise ltP → (∀ c, c ∈ ps ↔ c ∈ qs) → ps = qs
  | [], [], _, _, _ => rfl
  | [], b :: t, _, _, h => absurd ((h b).mpr List.mem_cons_self) (by simp)
  | a :: s, [], _, _, h => absurd ((h a).mp List.mem_cons_self) (by simp)
  | a :: s, b :: t, h1, h2, h => by
    obtain ⟨a1, a2⟩ := List.pairwise_cons.mp h1
    obtain ⟨b1, b2⟩ := List.pairwise_cons.mp h2
    have e : a = b := by
      rcases List.mem_cons.mp ((h a).mp List.mem_cons_self) with z | z
      · exact z
      · rcases List.mem_cons.mp ((h b).mpr List.mem_cons_self) with y | y
        · exact y.symm
        · exact absurd (ltP_tr (a1 b y) (b1 a z)) (ltP_irr a)
    subst e
    rw [ris_uniq a2 b2 fun c => ⟨fun z => ?_, fun z => ?_⟩]
    · rcases List.mem_cons.mp ((h c).mp (List.mem_cons_of_mem _ z)) with y | y
      · rw [y] at z
        exact absurd (a1 _ z) (ltP_irr _)
      · exact y
    · rcases List.mem_cons.mp ((h c).mpr (List.mem_cons_of_mem _ z)) with y | y
      · rw [y] at z
        exact absurd (b1 _ z) (ltP_irr _)
      · exact y
theorem IsPl.uniq {cs ps qs : List PIC} (a : IsPl cs ps) (b : IsPl cs qs) : ps = qs := ris_uniq a.1 b.1 fun c => (a.2 c).trans (b.2 c).symm
theorem num_nums : ∀ ns : List Int, numKs (ns.map .num) = true
  | [] => rfl
  | n :: r => by
    rw [List.map_cons, numKs, num_nums r]
    rfl
theorem picK_num (c : PIC) : numK (picK c) = true := by
  unfold picK rwK
  simp only [numK, numKs, num_nums, Bool.and_self]
theorem picK_inj {a b : PIC} (h : picK a = picK b) : a = b := picD_inj (by rw [← picK_data, ← picK_data, h])
theorem picD_depth (c : PIC) : (picD c).depth ≤ 10 := by
  have := PySem.W.depth_ints c.1
  unfold picD plD rwD
  simp only [PyData.depth, PyData.depthAll, this]
  decide
/-- the keys of a list of pictures -/
theorem keys_of {K : PySem.W.Frag} {H : Hp} : ∀ {us : List V} {cs : List PIC}, Paired (PicAt K H) us cs → ∃ ks : List NE, us = ks.map (fun p => V.ref p.1) ∧ (∀ p ∈ ks, ∃ c, c ∈ cs ∧ p.2 = picK c ∧ PicAt K H (.ref p.1) c) ∧ ∀ c ∈ cs, ∃ p ∈ ks, p.2 = picK c
  | _, _, .nil => ⟨[], rfl, fun p hp => (by cases hp), fun c hc => (by cases hc)⟩
  | u :: us, c :: cs, .cons r t => by
    obtain ⟨ks, e, h1, h2⟩ := keys_of t
    obtain ⟨a, b, v2, rfl, q⟩ := id r
    refine ⟨(a, picK c) :: ks, by rw [e]; rfl, fun p hp => ?_, fun d hd => ?_⟩
    · rcases List.mem_cons.mp hp with z | z
      · rw [z]
        exact ⟨c, List.mem_cons_self, rfl, r⟩
      · obtain ⟨d, d1, d2⟩ := h1 p z
        exact ⟨d, List.mem_cons_of_mem _ d1, d2⟩
    · rcases List.mem_cons.mp hd with z | z
      · rw [z]
        exact ⟨_, List.mem_cons_self, rfl⟩
      · obtain ⟨p, p1, p2⟩ := h2 d z
        exact ⟨p, List.mem_cons_of_mem _ p1, p2⟩
theorem pics_of {K : PySem.W.Frag} {H : Hp} {cs : List PIC} : ∀ {L : List NE}, (∀ p ∈ L, ∃ c, c ∈ cs ∧ p.2 = picK c ∧ PicAt K H (.ref p.1) c) → ∃ ps : List PIC, Paired (PicAt K H) (L.map fun p => V.ref p.1) ps ∧ L.map (·.2) = ps.map picK ∧ ∀ c ∈ ps, c ∈ cs
  | [], _ => ⟨[], .nil, rfl, fun c hc => (by cases hc)⟩
  | p :: L, h => by
    obtain ⟨ps, h1, h2, h3⟩ := pics_of (L := L) fun q hq => h q (List.mem_cons_of_mem _ hq)
    obtain ⟨c, c1, c2, c3⟩ := h p List.mem_cons_self
    refine ⟨c :: ps, .cons c3 h1, by rw [List.map_cons, List.map_cons, h2, c2], fun d hd => ?_⟩
    rcases List.mem_cons.mp hd with z | z
    · rw [z]; exact c1
    · exact h3 d z
/-- sorted(set(pictures)) -/
theorem plates_q {K : PySem.W.Frag} {w : World} {H : Hp} {a : Addr} {us : List V} {cs : List PIC} {Q : VK} (hs : SqL K H a us) (pd : Paired (PicAt K H) us cs) (hl : us.length ≤ 200)
    (q : ∀ H' p vs ps, Same H H' → H p = none → H' p = some (.lst vs) → Paired (PicAt K H') vs ps → IsPl cs ps → ps.length ≤ 200 → Q (.ref p) H') : rSetNk K w [.ref a] H fun x H1 => rSortNk K w [x] H1 Q := by
  obtain ⟨ks, rfl, h1, h2⟩ := keys_of pd
  rw [List.length_map] at hl
  have nks : ∀ {H' : Hp}, TKeep K H H' → NKs K H' ks := fun t p hp => by
    obtain ⟨c, c1, c2, c3⟩ := h1 p hp
    rw [c2, picK_data]
    exact ⟨(c3.keep t).dp, picK_depth, picK_num c⟩
  refine ⟨a, ks, rfl, hs, nks fun _ _ z => z, by omega, fun L b g nd nb => ?_⟩
  obtain ⟨g1, g2, g3⟩ := g
  have s1 := same_upd (o := SetNO w b L) nb
  have sub : ∀ p ∈ L, ∃ c, c ∈ cs ∧ p.2 = picK c ∧ PicAt K H (.ref p.1) c := fun p hp => h1 p (g1 p hp)
  refine ⟨b, L, rfl, upd_same, fun p hp => nks (Same.tk s1) p (g1 p hp), by omega, fun p hp q hq => ?_, fun p hp => ?_, fun p hp => ?_, fun L' d pm pw nd' => ?_⟩
  · obtain ⟨c, _, c2, _⟩ := sub p hp
    obtain ⟨e, _, e2, _⟩ := sub q hq
    rw [c2, e2, picK_data, picK_data]
    exact alike_pic c e
  · obtain ⟨c, _, c2, _⟩ := sub p hp
    rw [c2, picK_data]
    exact ⟨_, _, rfl⟩
  · obtain ⟨c, _, c2, _⟩ := sub p hp
    rw [c2, picK_data]
    exact picD_depth c
  · obtain ⟨ps, p1, p2, p3⟩ := pics_of (L := L') fun p hp => sub p (pm.mem_iff.mp hp)
    have s2 := same_upd (o := .lst (L'.map fun q => V.ref q.1)) nd'
    have s12 := s1.trans s2
    have lps : ps.length = L.length := by
      have := congrArg List.length p2
      rw [List.length_map, List.length_map, pm.length_eq] at this
      exact this.symm
    have ndP : (ps.map picK).Nodup := by
      rw [← p2]
      exact (pm.map (·.2)).nodup_iff.mpr nd
    have pwP : ps.Pairwise fun a b => PySem.W.dataLt (picD b) (picD a) = false := by
      have z : (L'.map (·.2)).Pairwise fun x y => PySem.W.dataLt y.data x.data = false := List.pairwise_map.mpr pw
      rw [p2] at z
      refine (List.pairwise_map.mp z).imp fun {a b} h => ?_
      rw [picK_data, picK_data] at h
      exact h
    refine q _ d _ ps s12 (s1.free nd') upd_same (Paired.mono p1 fun _ _ z => z.keep (Same.tk s12)) ⟨?_, fun c => ⟨p3 c, fun hc => ?_⟩⟩ (by omega)
    · have ne : ps.Pairwise fun a b => picK a ≠ picK b := List.pairwise_map.mp ndP
      exact (ne.and pwP).imp fun {a b} h => lt_tri (fun z => h.1 (by rw [z])) h.2
    · obtain ⟨p, q1, q2⟩ := h2 c hc
      have m : picK c ∈ ps.map picK := by
        rw [← p2, (pm.map (·.2)).mem_iff, ← q2]
        exact g2 p (by rw [List.take_length]; exact q1)
      obtain ⟨c', c1, c2⟩ := List.mem_map.mp m
      rw [← picK_inj c2]
      exact c1

/-! ### tuple(zip(xs, ys)), two lists of one length -/
theorem zip_nolen : typeLookup (.type "zip") "__len__" = pure none := by rw [typeLookup_type, builtinLookup_eq_fast]; kernel_rfl
theorem zip_nohint : typeLookup (.type "zip") "__length_hint__" = pure none := by rw [typeLookup_type, builtinLookup_eq_fast]; kernel_rfl
/-- a zip on its way, what it told so far may be held -/
structure Zst (S z TI TO i1 i2 l1 l2 : Addr) (xs ys : Array Value) (i : Nat) (h : Heap) : Prop where
  ti : IsPair h TI (.ref i1) (.ref i2)
  a1 : h.IsListIter i1 l1 i
  a2 : h.IsListIter i2 l2 i
  b1 : h.IsList l1 xs
  b2 : h.IsList l2 ys
  zz : (IsZip h z TI TO .none ∧ ∃ a b, IsPair h TO a b) ∨ ∃ T f oT, IsZipHeld h z TI TO T f ∧ h.get? T = some oT ∧ T ≠ z ∧ T ≠ i1 ∧ T ≠ i2 ∧ T ≠ S
section
variable {P : Program} {w : World} {A : Around} {E : Value → Shared → Prop} {s : Shared} {S z TI TO i1 i2 l1 l2 : Addr} {xs ys : Array Value}
theorem Zst.keep {i : Nat} {h h' : Heap} (x : Zst S z TI TO i1 i2 l1 l2 xs ys i h) (d : S ∉ [z, TI, TO, i1, i2, l1, l2]) (k : ∀ b o, b ≠ S → h.get? b = some o → h'.get? b = some o) : Zst S z TI TO i1 i2 l1 l2 xs ys i h' := by
  simp only [List.mem_cons, List.not_mem_nil, or_false, not_or] at d
  obtain ⟨d1, d2, d3, d4, d5, d6, d7⟩ := d
  refine ⟨k _ _ (Ne.symm d2) x.ti, x.a1.at fun o e => k _ o (Ne.symm d4) e, x.a2.at fun o e => k _ o (Ne.symm d5) e, x.b1.at fun o e => k _ o (Ne.symm d6) e, x.b2.at fun o e => k _ o (Ne.symm d7) e, ?_⟩
  rcases x.zz with ⟨q, a, b, r⟩ | ⟨T, f, oT, q, r, n1, n2, n3, n4⟩
  · exact .inl ⟨k _ _ (Ne.symm d1) q, a, b, k _ _ (Ne.symm d3) r⟩
  · exact .inr ⟨T, f, oT, k _ _ (Ne.symm d1) q, k _ _ n4 r, n1, n2, n3, n4⟩
/-- one more pair -/
theorem zst_next {i : Nat} {x y : Value} {Q : Option Value → Shared → Prop} (D : ZipApart z TI TO i1 i2 l1 l2) (st : Zst S z TI TO i1 i2 l1 l2 xs ys i s.heap) (hS : S < s.heap.objs.size) (hx : xs[i]? = some x) (hy : ys[i]? = some y)
    (q : ∀ h', Zst S z TI TO i1 i2 l1 l2 xs ys (i + 1) h' → IsPair h' s.heap.objs.size x y → h'.objs.size = s.heap.objs.size + 1 → (∀ b o, b ∉ [z, TO, i1, i2] → s.heap.get? b = some o → h'.get? b = some o) → Q (some (.ref s.heap.objs.size)) { s with heap := h' }) :
    wpAny (model P w) A (pyNext (.ref z)) Q E s := by
  have far : ∀ {c : Addr} {o : Obj}, s.heap.get? c = some o → s.heap.objs.size ≠ c := fun e => Nat.ne_of_gt (Heap.lt_size e)
  have f1 : s.heap.objs.size ≠ i1 := let ⟨_, e, _⟩ := st.a1; far e
  have f2 : s.heap.objs.size ≠ i2 := let ⟨_, e, _⟩ := st.a2; far e
  rcases st.zz with ⟨hz, a, b, hTO⟩ | ⟨T, f, oT, hz, hT, n1, n2, n3, n4⟩
  · refine wpAny_pyNext_zip_item D hz st.ti hTO st.a1 st.a2 st.b1 st.b2 hx hy fun h' c1 c2 c3 c4 c5 c6 k => q h' ⟨k _ _ D.TIz D.TITO D.TIi1 D.TIi2 st.ti, c3, c4, st.b1.at fun o e => k _ o D.l1z D.l1TO D.l1i1 D.l1i2 e, st.b2.at fun o e => k _ o D.l2z D.l2TO D.l2i1 D.l2i2 e,
      .inr ⟨_, false, _, c1, c5, far hz, f1, f2, Nat.ne_of_gt hS⟩⟩ c5 c6 fun b o nb e => ?_
    simp only [List.mem_cons, List.not_mem_nil, or_false, not_or] at nb
    exact k b o nb.1 nb.2.1 nb.2.2.1 nb.2.2.2 e
  · refine wpAny_pyNext_zip_item_held D hz hT st.ti st.a1 st.a2 st.b1 st.b2 hx hy fun h' c1 c3 c4 c5 c6 k => q h' ⟨k _ _ D.TIz D.TIi1 D.TIi2 st.ti, c3, c4, st.b1.at fun o e => k _ o D.l1z D.l1i1 D.l1i2 e, st.b2.at fun o e => k _ o D.l2z D.l2i1 D.l2i2 e,
      .inr ⟨T, true, oT, c1, k _ _ n1 n2 n3 hT, n1, n2, n3, n4⟩⟩ c5 c6 fun b o nb e => ?_
    simp only [List.mem_cons, List.not_mem_nil, or_false, not_or] at nb
    exact k b o nb.1 nb.2.2.1 nb.2.2.2 e
theorem zst_end {Q : Option Value → Shared → Prop} (hh : A.handled = none) (D : ZipApart z TI TO i1 i2 l1 l2) (st : Zst S z TI TO i1 i2 l1 l2 xs ys xs.size s.heap)
    (q : ∀ h', (∀ b o, b ∉ [z, TO, i1, i2] → s.heap.get? b = some o → h'.get? b = some o) → Q none { s with heap := h' }) : wpAny (model P w) A (pyNext (.ref z)) Q E s := by
  have e : xs[xs.size]? = none ∨ ys[xs.size]? = none := .inl (Array.getElem?_eq_none (Nat.le_refl _))
  rcases st.zz with ⟨hz, a, b, hTO⟩ | ⟨T, f, oT, hz, hT, _⟩
  · refine wpAny_pyNext_zip_end hh D hz st.ti hTO st.a1 st.a2 st.b1 st.b2 e fun h' k => q h' fun b o nb e => ?_
    simp only [List.mem_cons, List.not_mem_nil, or_false, not_or] at nb
    exact k b o nb.1 nb.2.1 nb.2.2.1 nb.2.2.2 e
  · refine wpAny_pyNext_zip_end_held hh D hz hT st.ti st.a1 st.a2 st.b1 st.b2 e fun h' k => q h' fun b o nb e => ?_
    simp only [List.mem_cons, List.not_mem_nil, or_false, not_or] at nb
    exact k b o nb.1 nb.2.2.1 nb.2.2.2 e
/-- what lies there, pair by pair -/
def Lain (xs ys : Array Value) (ts : List Addr) (h : Heap) : Prop := ∀ (j : Nat) (T : Addr) (x y : Value), ts[j]? = some T → xs[j]? = some x → ys[j]? = some y → IsPair h T x y
theorem ext_zip {R : Result → Shared → Prop} (res : Value) (hh : A.handled = none) (D : ZipApart z TI TO i1 i2 l1 l2) (dS : S ∉ [z, TI, TO, i1, i2, l1, l2]) (le : xs.size = ys.size) (hn : xs.size ≤ sizeLine) (b0 : Nat) (hb0 : ∀ b ∈ [z, TO, i1, i2, S], b < b0) :
    ∀ (k i : Nat) (s : Shared) (ts : List Addr) (c : Nat), i + k = xs.size → Zst S z TI TO i1 i2 l1 l2 xs ys i s.heap → s.heap.get? S = some { cls := .type "list", dict := none, data := .seq (ts.map Value.ref).toArray c, slots := #[] } →
    ts.length = i → ts.Pairwise (· < ·) → (∀ T ∈ ts, b0 ≤ T ∧ T < s.heap.objs.size) → b0 ≤ s.heap.objs.size → Lain xs ys ts s.heap →
    (∀ (h' : Heap) (ts' : List Addr) (c' : Nat), (∀ b o, b ∉ [z, TO, i1, i2, S] → s.heap.get? b = some o → h'.get? b = some o) → h'.get? S = some { cls := .type "list", dict := none, data := .seq (ts'.map Value.ref).toArray c', slots := #[] } →
      ts'.length = xs.size → ts'.Pairwise (· < ·) → (∀ T ∈ ts', b0 ≤ T) → Lain xs ys ts' h' → R (.ok (.ret res)) { s with heap := h' }) →
    codeAny (model P w) A (.builtin "list.extend.loop" ⟨[.ref S, .ref z, res], []⟩) R s := by
  have sub : ∀ {b : Addr}, b ∉ [z, TO, i1, i2, S] → b ∉ [z, TO, i1, i2] := fun h m => h (by
    simp only [List.mem_cons, List.not_mem_nil, or_false] at m ⊢
    rcases m with e | e | e | e <;> simp [e])
  have notS : S ∉ [z, TO, i1, i2] := fun m => dS (by
    simp only [List.mem_cons, List.not_mem_nil, or_false] at m ⊢
    rcases m with e | e | e | e <;> simp [e])
  have offT : ∀ {T : Addr}, b0 ≤ T → T ∉ [z, TO, i1, i2, S] := fun h m => absurd (hb0 _ m) (Nat.not_lt.mpr h)
  intro k
  induction k with
  | zero =>
    intro i s ts c hk st gS hl hp hT hb la R'
    have e : i = xs.size := by omega
    subst e
    refine codeAny_builtin F.entry_extend_loop ?_
    rw [Around.under_plainId F.plain_extend_loop _]
    show wpAny _ A.in1 (pyNext (.ref z) >>= _) _ _ s
    refine wpAny_bind (zst_end (by simp [hh]) D st fun h' kp => wpAny_pure (R' h' ts c (fun b o nb e => kp b o (sub nb) e) (kp _ _ notS gS) hl hp (fun T m => (hT T m).1) fun j T x y e1 e2 e3 => kp _ _ (sub (offT (hT T (List.mem_of_getElem? e1)).1)) (la j T x y e1 e2 e3)))
  | succ k ih =>
    intro i s ts c hk st gS hl hp hT hb la R'
    have i1' : i < xs.size := by omega
    have i2' : i < ys.size := by omega
    refine codeAny_builtin F.entry_extend_loop ?_
    rw [Around.under_plainId F.plain_extend_loop _]
    show wpAny _ A.in1 (pyNext (.ref z) >>= _) _ _ s
    refine wpAny_bind (zst_next D st (Heap.lt_size gS) (Array.getElem?_eq_getElem i1') (Array.getElem?_eq_getElem i2') fun h' st' pr sz kp => ?_)
    have gS' := kp _ _ notS gS
    have oth : ∀ b o, b ≠ S → h'.get? b = some o → (h'.update S (Obj.mapSeq (·.push (.ref s.heap.objs.size)))).get? b = some o := fun b o nb e => (Heap.get?_update_other _ _ (Ne.symm nb)).trans e
    have eq : ((ts ++ [s.heap.objs.size]).map Value.ref).toArray = (ts.map Value.ref).toArray.push (.ref s.heap.objs.size) := by simp
    have neS : ∀ {T : Addr}, b0 ≤ T → T ≠ S := fun h e => offT h (by simp [e])
    show wpAny _ A.in1 (updateSeq S (·.push (.ref s.heap.objs.size)) >>= _) _ _ _
    refine wpAny_bind (wpAny_updateSeq gS' rfl (wpAny_pure ⟨plainId_quiet F.plain_extend_loop _, ih (i + 1) _ (ts ++ [s.heap.objs.size]) _ (by omega) (st'.keep dS oth) (by rw [eq]; exact Heap.get?_update_self _ gS' rfl) (by rw [List.length_append, hl]; rfl)
      (List.pairwise_append.mpr ⟨hp, List.pairwise_singleton _ _, fun a ha b hb => by rw [List.mem_singleton.mp hb]; exact (hT a ha).2⟩) ?_ ?_ ?_ ?_⟩) (by simp [hl]; omega) (by simp [hl]; omega))
    · intro T m
      show b0 ≤ T ∧ T < (h'.update S _).objs.size
      rw [Heap.size_update, sz]
      rcases List.mem_append.mp m with m | m
      · exact ⟨(hT T m).1, Nat.lt_succ_of_lt (hT T m).2⟩
      · rw [List.mem_singleton.mp m]
        exact ⟨hb, Nat.lt_succ_self _⟩
    · show b0 ≤ (h'.update S _).objs.size
      rw [Heap.size_update, sz]
      exact Nat.le_succ_of_le hb
    · intro j T x y e1 e2 e3
      rcases Nat.lt_or_ge j ts.length with lt | ge
      · rw [List.getElem?_append_left lt] at e1
        have bT := (hT T (List.mem_of_getElem? e1)).1
        exact oth _ _ (neS bT) (kp _ _ (sub (offT bT)) (la j T x y e1 e2 e3))
      · rw [List.getElem?_append_right ge] at e1
        have ej : j = i := by
          rcases Nat.lt_or_ge (j - ts.length) 1 with z | z
          · omega
          · rw [List.getElem?_eq_none (by simpa using z)] at e1
            cases e1
        subst ej
        rw [hl, Nat.sub_self] at e1
        have eT : s.heap.objs.size = T := by simpa using e1
        rw [Array.getElem?_eq_getElem i1'] at e2
        rw [Array.getElem?_eq_getElem i2'] at e3
        cases e2
        cases e3
        subst eT
        exact oth _ _ (neS hb) pr
    · intro h2 ts' c' k2 g2 l2' p2 t2 la2
      exact R' h2 ts' c' (fun b o nb e => k2 b o nb (oth b o (fun e => nb (by simp [e])) (kp b o (sub nb) e))) g2 l2' p2 t2 la2
end

section
variable {P : Program} {w : World} {A : Around} {E : Value → Shared → Prop} {s : Shared} {z TI TO i1 i2 l1 l2 : Addr} {xs ys : Array Value}
theorem collect_zip {Q : List Value → Shared → Prop} (hh : A.handled = none) (D : ZipApart z TI TO i1 i2 l1 l2) (st : Zst s.heap.objs.size z TI TO i1 i2 l1 l2 xs ys 0 s.heap) (hz : IsZip s.heap z TI TO .none) (le : xs.size = ys.size) (hn : xs.size ≤ sizeLine) (hf : ∀ b ∈ [z, TI, TO, i1, i2, l1, l2], b < s.heap.objs.size)
    (q : ∀ (h' : Heap) (ts : List Addr), (∀ b o, b ∉ [z, TO, i1, i2] → s.heap.get? b = some o → h'.get? b = some o) → ts.length = xs.size → ts.Pairwise (· < ·) → (∀ T ∈ ts, s.heap.objs.size ≤ T) → Lain xs ys ts h' → s.heap.objs.size ≤ h'.objs.size → Q (ts.map Value.ref) { s with heap := h' }) :
    wpAny (model P w) A (collect (.ref z)) Q E s := by
  have dS : s.heap.objs.size ∉ [z, TI, TO, i1, i2, l1, l2] := fun m => Nat.lt_irrefl _ (hf _ m)
  have nz : s.heap.objs.size ≠ z := fun e => dS (by simp [e])
  unfold collect
  refine wpAny_bind (wpAny_runValue (codeAny_builtin F.entry_proto_collect ?_))
  rw [Around.under_plainId F.plain_proto_collect _]
  show wpAny _ A.in1 (newList [] >>= fun l' => again (.builtin "list.__iadd__" ⟨[l', .ref z], []⟩)) _ _ s
  refine wpAny_bind (wpAny_newObj_type (wpAny_pure ⟨plainId_quiet F.plain_list_iadd _, codeAny_builtin F.entry_list_iadd ?_⟩))
  rw [Around.under_plainId F.plain_list_iadd _]
  have gS : (s.heap.push { cls := .type "list", data := .seq ([] : List Value).toArray }).get? s.heap.objs.size = some { cls := .type "list", data := .seq ([] : List Value).toArray } := Heap.get?_push_size _ rfl
  have kp0 : ∀ b o, s.heap.get? b = some o → (s.heap.push { cls := .type "list", data := .seq ([] : List Value).toArray }).get? b = some o := fun b o e => Heap.get?_push_of_some _ e
  have sz0 : (s.heap.push { cls := .type "list", data := .seq ([] : List Value).toArray }).objs.size = s.heap.objs.size + 1 := Heap.size_push ..
  generalize s.heap.push { cls := .type "list", data := .seq ([] : List Value).toArray } = h0 at gS kp0 sz0 ⊢
  have ty : Shared.TypeIs { s with heap := h0 } (.ref z) "zip" := ⟨_, kp0 _ _ hz, rfl⟩
  have f1 : Builtin.List.listSameRef (.ref s.heap.objs.size) (.ref z) = false := by simp [Builtin.List.listSameRef, nz]
  have f2 : (Value.type "zip" == Value.type "list") = false := by decide
  have f3 : (Value.type "zip" == Value.type "tuple") = false := by decide
  show wpAny _ A.in1 (Builtin.List.listExtendWith (.ref s.heap.objs.size) (.ref z) (.ref s.heap.objs.size)) _ _ _
  unfold Builtin.List.listExtendWith
  refine wpAny_bind (wpAny_typeOf ty ?_)
  simp only [f1, f2, f3, Bool.or_false, Bool.false_eq_true, if_false]
  refine wpAny_bind (wpAny_pyIter_zip (s := { s with heap := h0 }) (kp0 _ _ hz) (wpAny_bind (wpAny_holding ?_)))
  unfold Builtin.List.listLengthHint
  refine wpAny_bind (wpAny_specialOf ty zip_nolen ?_)
  show wpAny _ A.in1 (specialOf (Value.ref z) (Str.ofString "__length_hint__") >>= _) _ _ _
  refine wpAny_bind (wpAny_specialOf ty zip_nohint (wpAny_pure ?_))
  show wpAny _ A.in1 (rule "list.extend.makes-room" >>= fun _ => Builtin.List.listTouch (.ref s.heap.objs.size) >>= fun _ =>
    again (.builtin "list.extend.loop" ⟨[.ref s.heap.objs.size, .ref z, .ref s.heap.objs.size], []⟩)) _ _ _
  refine wpAny_bind (wpAny_rule (wpAny_bind ?_))
  show wpAny _ A.in1 (updateSeq s.heap.objs.size (·.push .none) >>= fun _ => updateSeq s.heap.objs.size (·.pop)) _ _ _
  refine wpAny_bind (wpAny_updateSeq gS rfl ?_)
  have g1 := Heap.get?_update_self (Obj.mapSeq (·.push Value.none)) gS rfl
  refine wpAny_updateSeq g1 rfl ?_
  have g2 := Heap.get?_update_self (Obj.mapSeq (·.pop)) g1 rfl
  have k2 : ∀ b o, b ≠ s.heap.objs.size → h0.get? b = some o → ((h0.update s.heap.objs.size (Obj.mapSeq (·.push Value.none))).update s.heap.objs.size (Obj.mapSeq (·.pop))).get? b = some o :=
    fun b o nb e => (Heap.get?_update_other _ _ (Ne.symm nb)).trans ((Heap.get?_update_other _ _ (Ne.symm nb)).trans e)
  have sz2 : ((h0.update s.heap.objs.size (Obj.mapSeq (·.push Value.none))).update s.heap.objs.size (Obj.mapSeq (·.pop))).objs.size = s.heap.objs.size + 1 := by rw [Heap.size_update, Heap.size_update, sz0]
  refine wpAny_pure ⟨plainId_quiet F.plain_extend_loop _, ext_zip (S := s.heap.objs.size) (.ref s.heap.objs.size) (by simp [hh]) D dS le hn (s.heap.objs.size + 1) (fun b hb => ?_) xs.size 0 _ [] _ (Nat.zero_add _) (st.keep dS fun b o nb e => k2 b o nb (kp0 b o e)) g2 rfl .nil (fun T m => by cases m) (by rw [sz2]; exact Nat.le_refl _) (fun j T x y e => by cases e) fun h' ts c kp gS' lt pt bt la => ?_⟩
  · rcases List.mem_cons.mp hb with e | hb
    · exact Nat.lt_succ_of_lt (hf b (by simp [e]))
    simp only [List.mem_cons, List.not_mem_nil, or_false] at hb
    rcases hb with e | e | e | e
    · exact Nat.lt_succ_of_lt (hf b (by simp [e]))
    · exact Nat.lt_succ_of_lt (hf b (by simp [e]))
    · exact Nat.lt_succ_of_lt (hf b (by simp [e]))
    · rw [e]
      exact Nat.lt_succ_self _
  · show wpAny _ A (load s.heap.objs.size >>= _) _ _ _
    refine wpAny_bind (wpAny_load gS' (wpAny_pure ?_))
    have el : (ts.map Value.ref).toArray.toList = ts.map Value.ref := by simp
    show Q (ts.map Value.ref).toArray.toList _
    rw [el]
    refine q h' ts (fun b o nb e => kp b o (fun m => ?_) (k2 b o (Nat.ne_of_lt (Heap.lt_size e)) (kp0 b o e))) lt pt (fun T m => Nat.le_of_succ_le (bt T m)) la (Nat.le_of_lt (Heap.lt_size gS'))
    simp only [List.mem_cons, List.not_mem_nil, or_false] at m nb
    rcases m with e' | e' | e' | e' | e'
    · exact nb (.inl e')
    · exact nb (.inr (.inl e'))
    · exact nb (.inr (.inr (.inl e')))
    · exact nb (.inr (.inr (.inr e')))
    · rw [e'] at e
      exact absurd (Heap.lt_size e) (Nat.lt_irrefl _)
theorem tuple_zip {Q : Value → Shared → Prop} (hh : A.handled = none) (D : ZipApart z TI TO i1 i2 l1 l2) (st : Zst s.heap.objs.size z TI TO i1 i2 l1 l2 xs ys 0 s.heap) (hz : IsZip s.heap z TI TO .none) (le : xs.size = ys.size) (hn : xs.size ≤ sizeLine) (hf : ∀ b ∈ [z, TI, TO, i1, i2, l1, l2], b < s.heap.objs.size)
    (q : ∀ (h' : Heap) (ts : List Addr) (p : Addr), (∀ b o, b ∉ [z, TO, i1, i2] → s.heap.get? b = some o → h'.get? b = some o) → ts.length = xs.size → ts.Pairwise (· < ·) → (∀ T ∈ ts, s.heap.objs.size ≤ T ∧ T ≠ p) → Lain xs ys ts h' →
      s.heap.objs.size ≤ p → h'.get? p = some { cls := .type "tuple", data := .seq (ts.map Value.ref).toArray } → Q (.ref p) { s with heap := h' }) :
    wpAny (model P w) A (call (.type "tuple") [.ref z]) Q E s := by
  refine callType_codes (Q₁ := fun o t => t.TypeIs o "tuple" ∧ Q o t) F.called_tuple (F.typeCall_tuple_1 _) F.entry_object_init (codeAny_of_tree ?_) fun o t h => ⟨h.1, F.args_object_init_2 o _, object_init_meets F.called_tuple.init.lookup F.called_tuple.made (by decide) P w A.in1 _ t ⟨h.1, rfl, h.2⟩⟩
  show wpAny _ A.in1.in1 (do checkBuiltinCall "tuple.__new__" ⟨[.type "tuple", .ref z], []⟩; again (.builtin "tuple.__new__" ⟨[.type "tuple", .ref z], []⟩)) _ _ s
  refine wpAny_bind (wpAny_of_eq (F.newCall_tuple_1 _) (wpAny_pure ⟨plainId_quiet F.plain_tuple_new _, codeAny_builtin F.entry_tuple_new ?_⟩))
  rw [Around.under_plainId F.plain_tuple_new _]
  have u1 := sub_tuple_self
  have u2 := init_tuple_lookup
  have u3 := madeHere_tuple
  have ty : s.TypeIs (.ref z) "zip" := ⟨_, hz, rfl⟩
  have h3 : A.in1.in1.handled = none := by simp [hh]
  wp_walk using wpAny_typeOf ty, collect_zip (A := A.in1.in1) h3 D st hz le hn hf
  intro h' ts kp lt pt bt la ge
  show wpAny _ _ (Builtin.Tuple.tupleExact (ts.map Value.ref).toArray >>= fun v => ret v) _ _ _
  unfold Builtin.Tuple.tupleExact
  refine wpAny_bind (wpAny_newObj_type (wpAny_pure ?_) (by show (ts.map Value.ref).toArray.size ≤ sizeLine; rw [List.size_toArray, List.length_map, lt]; exact hn))
  have off : ∀ T ∈ ts, T ≠ h'.objs.size := fun T m => by
    obtain ⟨j, hj, e⟩ := List.getElem_of_mem m
    exact Nat.ne_of_lt (Heap.lt_size (la j T _ _ (by rw [List.getElem?_eq_getElem hj, e]) (Array.getElem?_eq_getElem (show j < xs.size by omega)) (Array.getElem?_eq_getElem (show j < ys.size by omega))))
  exact ⟨⟨_, Heap.get?_push_size _ rfl, rfl⟩, q _ ts _ (fun b o nb e => Heap.get?_push_of_some _ (kp b o nb e)) lt pt (fun T m => ⟨bt T m, off T m⟩) (fun j T x y e1 e2 e3 => Heap.get?_push_of_some _ (la j T x y e1 e2 e3)) ge (Heap.get?_push_size _ rfl)⟩
end
/-! ### many tuples laid at once -/
def lay2 (H : Hp) : List Addr → List V → List V → Hp
  | t :: ts, u :: us, v :: vs => upd (lay2 H ts us vs) t (.tup [u, v])
  | _, _, _ => H
theorem lay2_at {H : Hp} : ∀ {ts : List Addr} {us vs : List V}, ts.Pairwise (· < ·) → ∀ (j : Nat) (T : Addr) (u v : V), ts[j]? = some T → us[j]? = some u → vs[j]? = some v → lay2 H ts us vs T = some (.tup [u, v])
  | [], _, _, _, j, T, u, v, e, _, _ => by cases e
  | t :: ts, [], _, _, j, T, u, v, _, e, _ => by cases e
  | t :: ts, _ :: _, [], _, j, T, u, v, _, _, e => by cases e
  | t :: ts, u0 :: us, v0 :: vs, p, 0, T, u, v, e1, e2, e3 => by
    cases e1
    cases e2
    cases e3
    exact upd_same
  | t :: ts, u0 :: us, v0 :: vs, p, j + 1, T, u, v, e1, e2, e3 => by
    have ⟨p1, p2⟩ := List.pairwise_cons.mp p
    have lt := p1 T (List.mem_of_getElem? e1)
    show upd (lay2 H ts us vs) t (.tup [u0, v0]) T = _
    rw [upd_ne (Nat.ne_of_gt lt)]
    exact lay2_at p2 j T u v e1 e2 e3
theorem lay2_old {H : Hp} {b : Addr} : ∀ {ts : List Addr} {us vs : List V}, b ∉ ts → lay2 H ts us vs b = H b
  | [], _, _, _ => rfl
  | t :: ts, [], _, _ => rfl
  | t :: ts, _ :: _, [], _ => rfl
  | t :: ts, u0 :: us, v0 :: vs, n => by
    show upd (lay2 H ts us vs) t (.tup [u0, v0]) b = _
    rw [upd_ne fun e => n (by simp [e])]
    exact lay2_old fun m => n (List.mem_cons_of_mem _ m)
theorem inv_many {X : Cx} {pins : List (Addr × Obj)} {σ : L2.St} {H H' : Hp} {s : Shared} {h' : Heap} {t' : Nat} (I : Inv X pins σ H s) (k : ∀ b u, s.heap.get? b = some u → h'.get? b = some u) (ext : ∀ b o, H b = some o → H' b = some o)
    (new : ∀ b o, H' b = some o → H b = some o ∨ (s.heap.objs.size ≤ b ∧ ObjOk X.prog X.w H' h' b o)) : Inv X pins σ H' { s with heap := h', toks := t' } := by
  refine L2.Inv.un I ⟨fun b u q _ _ _ => k b u q, fun b u q _ _ _ => ⟨u.slots, k b u q⟩, fun b u q n _ => ?_, fun b u q _ => ⟨u, k b u q⟩, fun b xs q => ext _ _ q, fun b u xs q => ext _ _ q, fun b ps q => ⟨#[], by rw [ext _ _ q]; simp⟩⟩ fun b o e => ?_
  · cases e : H' b with
    | none => rfl
    | some o =>
      rcases new b o e with z | ⟨z, _⟩
      · rw [n] at z
        cases z
      · exact absurd (Heap.lt_size q) (Nat.not_lt.mpr z)
  · rcases new b o e with z | ⟨_, z⟩
    · exact (I.hok b o z).stay (fun c u _ q => k c u q) (fun c q => ext _ _ q) fun c xs q => ext _ _ q
    · exact z
theorem apart5 {n l1 l2 : Nat} (p1 : l1 < n) (p2 : l2 < n) : ZipApart (n + 4) (n + 2) (n + 3) n (n + 1) l1 l2 := by
  constructor <;> first | exact Nat.ne_of_lt (by omega) | exact Nat.ne_of_gt (by omega)
/-- tuple(zip(xs, ys)) -/
def tTupZip (K : PySem.W.Frag) (t : TA) : TE := fun σ H Q => t σ H fun vs H1 => ∃ (l1 l2 : Addr) (us ws : List V), vs = [.ref l1, .ref l2] ∧ SqL K H1 l1 us ∧ SqL K H1 l2 ws ∧ us.length = ws.length ∧
  ∀ (H' : Hp) (p : Addr) (ts : List Addr), Same H1 H' → H1 p = none → H' p = some (.tup (ts.map V.ref)) → ts.length = us.length → (∀ (j : Nat) (T : Addr) (u v : V), ts[j]? = some T → us[j]? = some u → ws[j]? = some v → H' T = some (.tup [u, v])) → Q (.ref p) H'
theorem vals_refs : ∀ ts : List Addr, Vals (ts.map V.ref) (ts.map Value.ref)
  | [] => .nil
  | t :: ts => .cons rfl (vals_refs ts)
theorem pe_tupZip {X : Cx} {a b : Expr} {t : TA} {p p2 q pos : Pos} (hc : X.calm = true) (hg : Gl X "tuple") (hm : X.mg "tuple" = none) (hg2 : Gl X "zip") (hm2 : X.mg "zip" = none) (hab : PA X [a, b] t)
    (he : starEach [a, b] X.env = (false, eval a X.env) :: starEach [b] X.env := by rfl) (hpl : (backTo q (starEach [b] X.env)).any (·.1) = false := by rfl) :
    PE X (.Call (.Name "tuple" p) [.Call (.Name "zip" p2) [a, b] [] q] [] pos) (tTupZip X.K t) := by
  refine ⟨fun pins s σ H Q I h => ?_⟩
  refine wpAny_Call_Name_kw (ld_blt I hg hm (by decide +kernel) (PyProof.Rows.callWith_type1 (T := "tuple") (PyProof.Rows.args_cons ?_ rfl) rfl rfl))
  refine wpAny_Call_Name_kw (ld_blt I hg2 hm2 (by decide +kernel) (PyProof.Rows.callWith_type1 (T := "zip") (thn (hab.run q pins s σ H _ I h) fun us' s1 ⟨vs, H1, I1, r1, q1⟩ => ?_) he hpl))
  obtain ⟨l1, l2, us, ws, rfl, h1, h2, le, fin⟩ := q1
  obtain ⟨xs, rx, gx, zx⟩ := I1.list h1
  obtain ⟨ys, ry, gy, zy⟩ := I1.list h2
  cases r1 with | cons ra rt =>
  cases rt with | cons rb rn =>
  cases rn
  cases ra
  cases rb
  have lx : xs.toArray.size = us.length := by rw [List.size_toArray, rx.length]
  have ly : ys.toArray.size = ws.length := by rw [List.size_toArray, ry.length]
  have p1 : l1 < s1.heap.objs.size := by
    obtain ⟨o, e, _⟩ := gx.isList
    exact Heap.lt_size e
  have p2 : l2 < s1.heap.objs.size := by
    obtain ⟨o, e, _⟩ := gy.isList
    exact Heap.lt_size e
  refine call_zip_2 gx.isList gy.isList fun h' c1 c2 c3 c4 c5 c6 k => PyProof.Rows.args_nil ?_
  refine tuple_zip (s := { s1 with heap := h' }) (xs := xs.toArray) (ys := ys.toArray) (I1.ok.hd hc) ?_ ⟨c2, c4, c5, gx.isList.at fun o e => k _ o e, gy.isList.at fun o e => k _ o e, .inl ⟨c1, _, _, c3⟩⟩ c1 (by rw [lx, ly, le]) (by rw [lx]; exact zx) (fun b hb => ?_) fun h2 ts p kp lt pt bt la pp gp => ?_
  · exact apart5 p1 p2
  · show b < h'.objs.size
    rw [c6]
    simp only [List.mem_cons, List.not_mem_nil, or_false] at hb
    have w1 : l1 < s1.heap.objs.size + 5 := Nat.lt_add_right 5 p1
    have w2 : l2 < s1.heap.objs.size + 5 := Nat.lt_add_right 5 p2
    rcases hb with e | e | e | e | e | e | e <;> rw [e] <;> first | exact w1 | exact w2 | exact Nat.lt_succ_of_le (by omega)
  · have sz : s1.heap.objs.size ≤ h'.objs.size := by omega
    have pp' : h'.objs.size ≤ p := pp
    have keep : ∀ b u, s1.heap.get? b = some u → h2.get? b = some u := fun b u e => by
      refine kp b u (fun m => ?_) (k b u e)
      simp only [List.mem_cons, List.not_mem_nil, or_false] at m
      rcases m with e' | e' | e' | e' <;> exact absurd (Heap.lt_size e) (by rw [e']; exact Nat.not_lt.mpr (by omega))
    have off : ∀ b o, H1 b = some o → b ∉ ts ∧ b ≠ p := fun b o e => by
      exact ⟨fun m => absurd (Nat.lt_of_lt_of_le (I1.hok.lt e) (Nat.le_trans sz (bt b m).1)) (Nat.lt_irrefl _), Nat.ne_of_lt (Nat.lt_of_lt_of_le (I1.hok.lt e) (Nat.le_trans sz pp'))⟩
    have np : p ∉ ts := fun m => (bt p m).2 rfl
    have ext : ∀ b o, H1 b = some o → upd (lay2 H1 ts us ws) p (.tup (ts.map V.ref)) b = some o := fun b o e => by
      rw [upd_ne (off b o e).2, lay2_old (off b o e).1]
      exact e
    have at' : ∀ (j : Nat) (T : Addr) (u v : V), ts[j]? = some T → us[j]? = some u → ws[j]? = some v → upd (lay2 H1 ts us ws) p (.tup (ts.map V.ref)) T = some (.tup [u, v]) := fun j T u v e1 e2 e3 => by
      rw [upd_ne fun e => np (by rw [← e]; exact List.mem_of_getElem? e1)]
      exact lay2_at pt j T u v e1 e2 e3
    refine have J : L2.Inv X pins σ (upd (lay2 H1 ts us ws) p (.tup (ts.map V.ref))) { s1 with heap := h2, toks := s1.toks } := inv_many (s := s1) I1 keep ext fun b o e => ?_; ⟨.ref p, upd (lay2 H1 ts us ws) p (.tup (ts.map V.ref)), J, rfl, fin _ p ts ext (I1.hok.fresh (Nat.le_trans sz pp')) upd_same (lt.trans lx) at'⟩
    by_cases eb : b = p
    · subst eb
      rw [upd_same] at e
      cases e
      refine .inr ⟨Nat.le_trans sz pp', by rw [List.length_map, lt, lx]; exact zx, _, vals_refs ts, _, gp, rfl, _, rfl⟩
    · by_cases mb : b ∈ ts
      · obtain ⟨j, hj, ej⟩ := List.getElem_of_mem mb
        have e1 : ts[j]? = some b := by rw [List.getElem?_eq_getElem hj, ej]
        have j1 : j < us.length := by omega
        have j2 : j < ws.length := by omega
        have e' := at' j b _ _ e1 (List.getElem?_eq_getElem j1) (List.getElem?_eq_getElem j2)
        rw [e] at e'
        cases e'
        obtain ⟨x, hx, rx'⟩ := rx.get (List.getElem?_eq_getElem j1)
        obtain ⟨y, hy, ry'⟩ := ry.get (List.getElem?_eq_getElem j2)
        refine .inr ⟨Nat.le_trans sz (bt b mb).1, (by show 2 ≤ sizeLine; decide), [x, y], .cons rx' (.cons ry' .nil), _, la j b x y e1 (by simpa using hx) (by simpa using hy), rfl, _, rfl⟩
      · rw [upd_ne eb, lay2_old mb] at e
        exact .inl e

/-! ### sum(xss, []) of a list of lists -/
abbrev lobj (vs : List Value) (n : Nat) : Obj := { cls := .type "list", dict := none, data := .seq vs.toArray n, slots := #[] }
section
variable {P : Program} {w : World} {A : Around} {E : Value → Shared → Prop} {s : Shared}
theorem args_sum2 (a b : Value) : argsOk "sum" ⟨[a, b], []⟩ := by unfold argsOk; kernel_rfl
theorem sumL_loop {I l S : Addr} {its : Array Value} {R : Result → Shared → Prop} (hh : A.handled = none) (nl : l ≠ I) (nI : S ≠ I) (nS : S ≠ l) (wss : List (List Value)) (hlen : wss.length = its.size) (hz : wss.flatten.length ≤ 1000) (hIS : I < S) :
    ∀ (k i : Nat) (s : Shared) (t : Addr) (acc : List Value) (c n : Nat), i + k = its.size → s.heap.IsListIter I l i → s.heap.IsList l its → s.heap.get? S = some (lobj [.ref t] c) → s.heap.get? t = some (lobj acc n) → t ≠ S → t ≠ I → (i = 0 ∨ S < t) →
      acc = (wss.take i).flatten → (∀ (j : Nat) (ws : List Value), wss[j]? = some ws → ∃ x m, its[j]? = some (.ref x) ∧ s.heap.get? x = some (lobj ws m) ∧ x ≠ S ∧ x ≠ I) →
      (∀ (s' : Shared) (t' : Addr) (n' : Nat), s'.gens = s.gens → s'.drawn = s.drawn → s'.os = s.os → (∀ b o, b ≠ I → b ≠ S → s.heap.get? b = some o → s'.heap.get? b = some o) → s'.heap.get? t' = some (lobj wss.flatten n') → (its.size = 0 ∨ S < t') → R (.ok (.ret (.ref t'))) s') →
      codeAny (model P w) A (.builtin "sum.loop" ⟨[.ref I, .ref S, rawInt 2, rawInt 0], []⟩) R s := by
  have W := (Walks.list (prog := P) (w := w) (A := A.in1) (by simp [hh]) I l nl its).toS
  intro k
  induction k with
  | zero =>
    intro i s t acc c n hk it il gS gt tS tI tf ea item R'
    have e : i = its.size := by omega
    subst e
    refine codeAny_builtin F.entry_sum_loop ?_
    rw [Around.under_plainId F.plain_sum_loop _]
    show wpAny _ A.in1 (seqItems? (.ref S) >>= _) _ _ s
    refine wpAny_bind (wpAny_seqItems gS rfl ?_)
    show wpAny _ A.in1 (tryCatch (pyNext (.ref I)) _ >>= _) _ _ s
    refine wpAny_bind (wpAny_tryCatch (W.done s _ _ ⟨it, il⟩ fun s' hm => ?_))
    refine wpAny_pure (R' s' t n hm.gens hm.drawn hm.os (fun b o n1 n2 e => hm.heap b o (by simp [n1]) e) ?_ tf)
    rw [ea, List.take_of_length_le (by omega)] at gt
    exact hm.heap t _ (by simp [tI]) gt
  | succ k ih =>
    intro i s t acc c n hk it il gS gt tS tI tf ea item R'
    have hi : i < its.size := by omega
    refine codeAny_builtin F.entry_sum_loop ?_
    rw [Around.under_plainId F.plain_sum_loop _]
    show wpAny _ A.in1 (seqItems? (.ref S) >>= _) _ _ s
    refine wpAny_bind (wpAny_seqItems gS rfl ?_)
    show wpAny _ A.in1 (tryCatch (pyNext (.ref I)) _ >>= _) _ _ s
    refine wpAny_bind (wpAny_tryCatch (W.item i s _ _ hi ⟨it, il⟩ fun v s' hP hst' hm => ?_))
    have hw : wss[i]? = some (wss[i]'(by omega)) := List.getElem?_eq_getElem (by omega)
    generalize wss[i]'(by omega) = ws at hw
    obtain ⟨x, m, hx, gx, xS, xI⟩ := item i ws hw
    have ev : v = .ref x := Option.some.inj ((show its[i]? = some v from hP).symm.trans hx)
    subst ev
    have gS' := hm.heap S _ (by simp [nI]) gS
    have gt' := hm.heap t _ (by simp [tI]) gt
    have gx' := hm.heap x _ (by simp [xI]) gx
    have sum2 : (wss.take (i + 1)).flatten = acc ++ ws := by
      rw [List.take_add_one, hw, List.flatten_append, ← ea]
      show acc ++ (ws ++ []) = _
      rw [List.append_nil]
    have small : acc.length + ws.length ≤ 1000 := by
      have : ((wss.take (i + 1)).flatten).length ≤ wss.flatten.length := by
        rw [← List.take_append_drop (i + 1) wss, List.flatten_append, List.length_append]
        rw [List.take_append_drop]
        omega
      rw [sum2, List.length_append] at this
      omega
    show wpAny _ A.in1 ((holding [Value.ref x] (binaryOp .Add (.ref t) (.ref x))).attempt >>= _) _ _ _
    refine wpAny_bind (wpAny_attempt (wpAny_holding (PySem.P.add_list gt' gx' ?_ (Nat.le_of_lt (small1000 (by simpa using small))))))
    have bS : S < s'.heap.objs.size := Heap.lt_size gS'
    have e1 : acc.toArray ++ ws.toArray = (acc ++ ws).toArray := by simp
    rw [e1]
    have gS2 := Heap.get?_push_of_some (lobj (acc ++ ws) 0) gS'
    show wpAny _ A.in1 (updateSeq S (fun _ => #[.ref s'.heap.objs.size]) >>= _) _ _ _
    refine wpAny_bind (wpAny_updateSeq gS2 rfl ?_)
    have gS3 := Heap.get?_update_self (Obj.mapSeq fun _ => #[Value.ref s'.heap.objs.size]) gS2 rfl
    refine wpAny_bind (wpAny_letGo ?_)
    refine wpAny_bind (wpAny_updateSeq gS3 rfl (wpAny_pure ⟨plainId_quiet F.plain_sum_loop _, ?_⟩))
    have gS4 := Heap.get?_update_self (Obj.mapSeq fun _ => #[Value.ref s'.heap.objs.size]) gS3 rfl
    have k2 : ∀ b o, b ≠ S → s'.heap.get? b = some o → (((s'.heap.push (lobj (acc ++ ws) 0)).update S (Obj.mapSeq fun _ => #[Value.ref s'.heap.objs.size])).update S (Obj.mapSeq fun _ => #[Value.ref s'.heap.objs.size])).get? b = some o := fun b o nb e =>
      (Heap.get?_update_other _ _ (Ne.symm nb)).trans ((Heap.get?_update_other _ _ (Ne.symm nb)).trans (Heap.get?_push_of_some _ e))
    have gN : (((s'.heap.push (lobj (acc ++ ws) 0)).update S (Obj.mapSeq fun _ => #[Value.ref s'.heap.objs.size])).update S (Obj.mapSeq fun _ => #[Value.ref s'.heap.objs.size])).get? s'.heap.objs.size = some (lobj (acc ++ ws) 0) :=
      (Heap.get?_update_other _ _ (Nat.ne_of_lt bS)).trans ((Heap.get?_update_other _ _ (Nat.ne_of_lt bS)).trans (Heap.get?_push_size _ rfl))
    have k1 : ∀ b o, b ≠ I → b ≠ S → s.heap.get? b = some o → (((s'.heap.push (lobj (acc ++ ws) 0)).update S (Obj.mapSeq fun _ => #[Value.ref s'.heap.objs.size])).update S (Obj.mapSeq fun _ => #[Value.ref s'.heap.objs.size])).get? b = some o := fun b o n1 n2 e => k2 b o n2 (hm.heap b o (by simp [n1]) e)
    refine ih (i + 1) _ s'.heap.objs.size (acc ++ ws) _ 0 (by omega) (hst'.1.at fun o e => k2 _ o (Ne.symm nI) e) (hst'.2.at fun o e => k2 _ o (Ne.symm nS) e) gS4 gN (Nat.ne_of_gt bS) (Nat.ne_of_gt (Nat.lt_trans hIS bS)) (.inr bS) sum2.symm (fun j us hu => ?_) (fun s2 t' n' g1 g2 g3 kp gt2 tf2 => ?_)
    · obtain ⟨x2, m2, h1, h2, h3, h4⟩ := item j us hu
      exact ⟨x2, m2, h1, k1 _ _ h4 h3 h2, h3, h4⟩
    · exact R' s2 t' n' (g1.trans hm.gens) (g2.trans hm.drawn) (g3.trans hm.os) (fun b o n1 n2 e => kp b o n1 n2 (k1 b o n1 n2 e)) gt2 tf2
theorem call_sumL {l b : Addr} {its : Array Value} {nb : Nat} {Q : Value → Shared → Prop} (hh : A.handled = none) (hl : s.heap.IsList l its) (gb : s.heap.get? b = some (lobj [] nb)) (wss : List (List Value)) (hlen : wss.length = its.size) (hne : its.size ≠ 0) (hz : wss.flatten.length ≤ 1000)
    (item : ∀ (j : Nat) (ws : List Value), wss[j]? = some ws → ∃ x m, its[j]? = some (.ref x) ∧ s.heap.get? x = some (lobj ws m))
    (q : ∀ (h' : Heap) (tk : Nat) (t n : Nat), (∀ b o, s.heap.get? b = some o → h'.get? b = some o) → s.heap.objs.size ≤ t → h'.get? t = some (lobj wss.flatten n) → Q (.ref t) { s with heap := h', toks := tk }) :
    wpAny (model P w) A (call (.builtin "sum") [.ref l, .ref b]) Q E s := by
  have zl : l < s.heap.objs.size := by
    obtain ⟨o, e, _⟩ := hl
    exact Heap.lt_size e
  have zb := Heap.lt_size gb
  refine call_function_tree F.kind_sum F.plain_sum F.entry_sum (args_sum2 _ _) ?_
  unfold Builtin.«sum»
  simp only [List.length_cons, List.length_nil]
  rw [if_neg (by decide)]
  refine wpAny_bind (wpAny_of_eq (show Builtin.Builtins.bindParams "sum" ["start"] 0 ⟨[.ref b], []⟩ = pure [some (.ref b)] from rfl) ?_)
  refine wpAny_bind (wpAny_pyIter_list hl ?_)
  have ty : Shared.TypeIs { s with heap := s.heap.push { cls := .type "list_iterator", data := .fields #[.ref l, .int 0 0] } } (.ref b) "list" := ⟨_, Heap.get?_push_of_some _ gb, rfl⟩
  refine wpAny_bind (wpAny_pure ?_)
  simp only [List.forIn_cons, List.forIn_nil]
  refine wpAny_bind (wpAny_bind (wpAny_bind (wpAny_isInstance (T := "list") (b := false) ty F.sub_list_str ?_)))
  simp only [Bool.false_eq_true, if_false]
  refine wpAny_pure (wpAny_bind (wpAny_bind (wpAny_isInstance (T := "list") (b := false) ty F.sub_list_bytes ?_)))
  simp only [Bool.false_eq_true, if_false]
  refine wpAny_pure (wpAny_bind (wpAny_bind (wpAny_isInstance (T := "list") (b := false) ty F.sub_list_bytearray ?_)))
  simp only [Bool.false_eq_true, if_false]
  refine wpAny_pure (wpAny_pure ?_)
  refine wpAny_bind (wpAny_newObj_type ?_)
  have z1 : (s.heap.push { cls := .type "list_iterator", data := .fields #[.ref l, .int 0 0] }).objs.size = s.heap.objs.size + 1 := Heap.size_push ..
  have k0 : ∀ c o, s.heap.get? c = some o → (s.heap.push { cls := .type "list_iterator", data := .fields #[.ref l, .int 0 0] }).get? c = some o := fun c o e => Heap.get?_push_of_some _ e
  have gI : (s.heap.push { cls := .type "list_iterator", data := .fields #[.ref l, .int 0 0] }).IsListIter s.heap.objs.size l 0 := ⟨_, Heap.get?_push_size _ rfl, rfl, rfl⟩
  generalize s.heap.push { cls := .type "list_iterator", data := .fields #[.ref l, .int 0 0] } = h1 at z1 k0 gI ⊢
  have lt1 : s.heap.objs.size < h1.objs.size := by rw [z1]; exact Nat.lt_succ_self _
  have far : ∀ {c : Addr}, c < s.heap.objs.size → c ≠ h1.objs.size := fun h => Nat.ne_of_lt (Nat.lt_trans h lt1)
  refine wpAny_pure ⟨plainId_quiet F.plain_sum_loop _, sumL_loop (S := h1.objs.size) (its := its) (by simp [hh]) (Nat.ne_of_lt zl) (Nat.ne_of_gt lt1) (Ne.symm (far zl)) wss hlen hz lt1 its.size 0 _ b [] _ nb (Nat.zero_add _) (gI.at fun o e => Heap.get?_push_of_some _ e) (hl.at fun o e => Heap.get?_push_of_some _ (k0 _ _ e)) (Heap.get?_push_size _ rfl)
    (Heap.get?_push_of_some _ (k0 _ _ gb)) (far zb) (Nat.ne_of_lt zb) (.inl rfl) rfl (fun j ws hw => ?_) (fun s2 t' n' g1 g2 g3 kp gt tf => ?_)⟩
  · obtain ⟨x, m, h1', h2'⟩ := item j ws hw
    have zx := Heap.lt_size h2'
    exact ⟨x, m, h1', Heap.get?_push_of_some _ (k0 _ _ h2'), far zx, Nat.ne_of_lt zx⟩
  · obtain ⟨hp, gs, dr, tk, os⟩ := s2
    cases (show gs = s.gens from g1)
    cases (show dr = s.drawn from g2)
    cases (show os = s.os from g3)
    have t1 : h1.objs.size < t' := tf.resolve_left hne
    exact q hp tk t' n' (fun c o e => kp c o (Nat.ne_of_lt (Heap.lt_size e)) (far (Heap.lt_size e)) (Heap.get?_push_of_some _ (k0 c o e))) (Nat.le_of_lt (Nat.lt_trans lt1 t1)) gt
end
def LsAt (H : Hp) (v : V) (ns : List Int) : Prop := ∃ p, v = .ref p ∧ H p = some (.lst (ns.map V.int))
theorem paired_at' {α β : Type} {F : α → β → Prop} : ∀ {l₁ : List α} {l₂ : List β}, Paired F l₁ l₂ → ∀ {i : Nat} {y : β}, l₂[i]? = some y → ∃ x, l₁[i]? = some x ∧ F x y
  | _, _, .nil, _, _, h => by cases h
  | _, _, .cons r t, 0, _, h => by
    cases h
    exact ⟨_, rfl, r⟩
  | _, _, .cons r t, i + 1, _, h => paired_at' t h
/-- sum(xss, []), some lists of ints -/
def rSumL (K : PySem.W.Frag) : List V → Hp → VK → Prop := fun vs H Q => ∃ (a b : Addr) (xs : List V) (nss : List (List Int)), vs = [.ref a, .ref b] ∧ SqL K H a xs ∧ H b = some (.lst []) ∧ Paired (LsAt H) xs nss ∧ nss ≠ [] ∧ nss.flatten.length ≤ 1000 ∧
  ∀ p, H p = none → Q (.ref p) (upd H p (.lst (nss.flatten.map V.int)))
theorem vals_ints_ex {X : Cx} {pins : List (Addr × Obj)} {σ : L2.St} {H : Hp} {s : Shared} (I : Inv X pins σ H s) : ∀ {xs : List V} {nss : List (List Int)}, Paired (LsAt H) xs nss → ∃ wss : List (List Value), wss.length = nss.length ∧ Vals (nss.flatten.map V.int) wss.flatten ∧ ∀ (j : Nat) (ws : List Value), wss[j]? = some ws → ∃ (x : Addr) (m : Nat), xs[j]? = some (.ref x) ∧ s.heap.get? x = some (lobj ws m)
  | _, _, .nil => ⟨[], rfl, .nil, fun j ws h => by cases h⟩
  | _, _, .cons r t => by
    obtain ⟨wss, h1, h2, h3⟩ := vals_ints_ex I t
    obtain ⟨p, rfl, hp⟩ := r
    obtain ⟨_, its, n, rv, _, g⟩ := I.lstM hp
    refine ⟨its :: wss, by simp [h1], ?_, fun j ws h => ?_⟩
    · rw [List.flatten_cons, List.flatten_cons, List.map_append]
      exact rv.append h2
    · cases j with
      | zero =>
        cases h
        exact ⟨p, n, rfl, g⟩
      | succ j => exact h3 j ws h
theorem cr_sumL {X : Cx} (hc : X.calm = true) : CallR X (.builtin "sum") (rSumL X.K) := by
  intro pins s σ H vs us Q I r h
  obtain ⟨a, b, xs, nss, rfl, ha, hb, pd, ne, hz, q⟩ := h
  obtain ⟨its, rv, hl, _⟩ := I.list ha
  obtain ⟨_, itb, nb, rb, _, gb⟩ := I.lstM hb
  cases rb
  obtain ⟨u1, u2, rfl, r2, r3⟩ := vals2 r
  cases (show u1 = Value.ref a from r2)
  cases (show u2 = Value.ref b from r3)
  obtain ⟨wss, h1, h2, h3⟩ := vals_ints_ex I pd
  have lx := Paired.length pd
  have li : its.toArray.size = wss.length := by rw [List.size_toArray, ← rv.length, lx, h1]
  have fl : wss.flatten.length = nss.flatten.length := by rw [← h2.length, List.length_map]
  refine call_sumL (I.ok.hd hc) hl.isList gb wss li.symm (by rw [li, h1]; exact fun z => ne (List.length_eq_zero_iff.mp z)) (by rw [fl]; exact hz) (fun j ws hw => ?_) fun h' tk t n kp zt gt => ?_
  · obtain ⟨x, m, hx, gx⟩ := h3 j ws hw
    obtain ⟨y, hy, ry⟩ := rv.get hx
    cases (show y = Value.ref x from ry)
    exact ⟨x, m, by simpa using hy, gx⟩
  · exact ⟨.ref t, upd H t (.lst (nss.flatten.map V.int)), I.laid (t' := tk) kp zt ⟨by rw [List.length_map]; exact Nat.le_of_lt (small1000 hz), wss.flatten, n, h2, gt⟩, rfl, q t (I.hok.fresh zt)⟩

/-! ### lengths -/
def lenL (l : LY) : Option Int := match l.2 with
  | none => some (tot l.1)
  | some _ => none
/-- r is the length of a sheet -/
def ShLen (ls : List LY) (last : Int) (r : Option Int) : Prop :=
  ((∃ l ∈ ls, lenL l = none) ∧ r = none) ∨ ((∀ l ∈ ls, lenL l = some (tot l.1)) ∧ ∃ m, r = some m ∧ m ∈ ls.map (fun l => tot l.1) ++ [last] ∧ ∀ y ∈ ls.map (fun l => tot l.1) ++ [last], y ≤ m)
theorem ShLen.uniq {ls : List LY} {last : Int} {r q : Option Int} (a : ShLen ls last r) (b : ShLen ls last q) : r = q := by
  rcases a with ⟨⟨l, hl, e⟩, rfl⟩ | ⟨h, m, rfl, hm, hx⟩
  · rcases b with ⟨_, rfl⟩ | ⟨h, _⟩
    · rfl
    · rw [h l hl] at e
      cases e
  · rcases b with ⟨⟨l, hl, e⟩, rfl⟩ | ⟨_, m', rfl, hm', hx'⟩
    · rw [h l hl] at e
      cases e
    · have := hx m' hm'
      have := hx' m hm
      congr 1
      omega
theorem bk_flat (o : Option Int) : flatV (bkV o) = true := by
  cases o <;> rfl
theorem in_ends (ls : List LY) : inV .non (ls.map fun l => bkV (lenL l)) = true ↔ ∃ l ∈ ls, lenL l = none := by
  unfold inV
  rw [List.any_eq_true]
  constructor
  · rintro ⟨y, hy, e⟩
    obtain ⟨l, hl, rfl⟩ := List.mem_map.mp hy
    refine ⟨l, hl, ?_⟩
    cases z : lenL l with
    | none => rfl
    | some i =>
      rw [z] at e
      cases e
  · rintro ⟨l, hl, e⟩
    exact ⟨_, List.mem_map.mpr ⟨l, hl, rfl⟩, by rw [e]; rfl⟩
theorem all_ints {ls : List LY} (h : ¬ ∃ l ∈ ls, lenL l = none) : (∀ l ∈ ls, lenL l = some (tot l.1)) ∧ (ls.map fun l => bkV (lenL l)) = (ls.map fun l => tot l.1).map V.int := by
  have h1 : ∀ l ∈ ls, lenL l = some (tot l.1) := fun l hl => by
    cases z : l.2 with
    | none =>
      unfold lenL
      rw [z]
    | some i =>
      exact absurd ⟨l, hl, by unfold lenL; rw [z]⟩ h
  refine ⟨h1, ?_⟩
  rw [List.map_map]
  exact List.map_congr_left fun l hl => by rw [h1 l hl]; rfl

/-! ### the last of a list -/
theorem snoc_cases {α : Type} (xs : List α) : xs = [] ∨ ∃ ys y, xs = ys ++ [y] := by
  rcases List.eq_nil_or_concat xs with h | ⟨ys, y, h⟩
  · exact .inl h
  · exact .inr ⟨ys, y, by rw [h, List.concat_eq_append]⟩
theorem snoc_ind {α : Type} {P : List α → Prop} (h0 : P []) (h1 : ∀ xs x, P xs → P (xs ++ [x])) : ∀ xs, P xs := fun xs => by
  have : ∀ n (xs : List α), xs.length = n → P xs := fun n => by
    induction n with
    | zero => intro xs h; rw [List.length_eq_zero_iff.mp h]; exact h0
    | succ n ih =>
      intro xs h
      rcases snoc_cases xs with rfl | ⟨ys, y, rfl⟩
      · simp at h
      · refine h1 _ _ (ih _ ?_)
        rw [List.length_append] at h
        simpa using h
  exact this _ xs rfl

/-! ### sheets behind one another -/
def fill (n : Int) : List Int := List.replicate (n / 24).toNat 24 ++ (if n % 24 = 0 then [] else [n % 24])
theorem fill_len {n : Int} (h0 : 0 ≤ n) (h1 : n ≤ 192) : (fill n).length ≤ 9 := by
  unfold fill
  rw [List.length_append, List.length_replicate]
  split
  · show _ + 0 ≤ 9
    omega
  · show _ + 1 ≤ 9
    omega
def padR (rs : List RW) (L : Int) : List RW := rs ++ (fill (L - tot rs)).map fun h => (0, h)
def lbh (L : Int) (a b : LY) : LY := (padR a.1 L ++ b.1, b.2.map fun k => ((padR a.1 L).length : Int) + k)
def lastXY (x y : Int) (ms : List MV) : Int × Int := match ms.getLast? with
  | some m => (m.1, m.2.1)
  | none => (x, y)
def padM (x y : Int) (ms : List MV) (L : Int) : List MV := ms ++ (fill (L - mtot ms)).map fun h => ((lastXY x y ms).1, (lastXY x y ms).2, h)
def mbh (x1 y1 : Int) (ms1 : List MV) (L x2 y2 : Int) (ms2 : List MV) : List MV := padM x1 y1 ms1 L ++ [(x2, y2, 0)] ++ ms2
inductive BO where
  | un : BO
  | en : BO
  | mn : Nat → BO
  | ok : List LY → List MV → BO
def bo2 (bl : List LY) (ms : List MV) : BO := match bl.find? fun l => decide (8 < l.1.length) with
  | some l => .mn l.1.length
  | none => if 8 < ms.length then .mn ms.length else .ok bl ms
def boL (ls1 : List LY) (x1 y1 : Int) (ms1 : List MV) (ls2 : List LY) (x2 y2 : Int) (ms2 : List MV) : Option Int → BO
  | none => .en
  | some L => bo2 (List.zipWith (lbh L) ls1 ls2) (mbh x1 y1 ms1 L x2 y2 ms2)
def IsBo (ls1 : List LY) (x1 y1 : Int) (ms1 : List MV) (ls2 : List LY) (x2 y2 : Int) (ms2 : List MV) (o : BO) : Prop :=
  (ls1.length ≠ ls2.length ∧ o = .un) ∨ (ls1.length = ls2.length ∧ ∃ r, ShLen ls1 (mtot ms1) r ∧ o = boL ls1 x1 y1 ms1 ls2 x2 y2 ms2 r)
theorem IsBo.uniq {ls1 : List LY} {x1 y1 : Int} {ms1 : List MV} {ls2 : List LY} {x2 y2 : Int} {ms2 : List MV} {o o' : BO} (h : IsBo ls1 x1 y1 ms1 ls2 x2 y2 ms2 o) (h' : IsBo ls1 x1 y1 ms1 ls2 x2 y2 ms2 o') : o = o' := by
  rcases h with ⟨n, rfl⟩ | ⟨e, r, hr, rfl⟩
  · rcases h' with ⟨_, rfl⟩ | ⟨e, _⟩
    · rfl
    · exact absurd e n
  · rcases h' with ⟨n, _⟩ | ⟨_, r', hr', rfl⟩
    · exact absurd e n
    · rw [hr.uniq hr']
def boD (x1 y1 : Int) : BO → PyData
  | .un => refD 7
  | .en => refD 8
  | .mn n => manyD (n : Int) 8
  | .ok ls ms => toldD (shD ls x1 y1 ms)
theorem sd_bo (x1 y1 : Int) (o : BO) : Sd 6 (boD x1 y1 o) := by
  cases o with
  | un => exact (sd_ref 7).more (by decide)
  | en => exact (sd_ref 8).more (by decide)
  | mn n => exact (sd_many _ _).more (by decide)
  | ok ls ms => exact sd_told (sd_sh _ _ _ _)
theorem bo2_at {bl : List LY} {ms : List MV} {i : Nat} {l : LY} (h : ∀ k ∈ bl.take i, k.1.length ≤ 8) (hi : bl[i]? = some l) (hl : 8 < l.1.length) : bo2 bl ms = .mn l.1.length := by
  unfold bo2
  have : bl.find? (fun l => decide (8 < l.1.length)) = some l := by
    have hb : bl = bl.take i ++ l :: bl.drop (i + 1) := by
      obtain ⟨hlt, e⟩ := List.getElem?_eq_some_iff.mp hi
      rw [← e, ← List.drop_eq_getElem_cons hlt, List.take_append_drop]
    rw [hb, List.find?_append, List.find?_eq_none.mpr fun k hk => by have := h k hk; simp; omega]
    rw [Option.none_or, List.find?_cons_of_pos (by simpa using hl)]
  rw [this]
theorem bo2_all {bl : List LY} {ms : List MV} (h : ∀ k ∈ bl, k.1.length ≤ 8) : bo2 bl ms = if 8 < ms.length then .mn ms.length else .ok bl ms := by
  unfold bo2
  rw [List.find?_eq_none.mpr fun k hk => by have := h k hk; simp; omega]
/-- how long a sheet can be -/
theorem shLen_bd {ls : List LY} {x y : Int} {ms : List MV} {L : Int} (vL : VLays ls) (vw : VWin x y ms) (h : ShLen ls (mtot ms) (some L)) : 0 ≤ L ∧ L ≤ 192 ∧ (∀ l ∈ ls, tot l.1 ≤ L ∧ l.2 = none) ∧ mtot ms ≤ L := by
  rcases h with ⟨_, e⟩ | ⟨h1, m, e, hm, hx⟩
  · cases e
  · cases e
    have a1 := mtot_nonneg vw.2.2.2
    have a2 := vw.2.2.1
    have hmt := hx (mtot ms) (List.mem_append_right _ (List.mem_singleton.mpr rfl))
    refine ⟨by omega, ?_, fun l hl => ⟨hx _ (List.mem_append_left _ (List.mem_map.mpr ⟨l, hl, rfl⟩)), ?_⟩, hmt⟩
    · rcases List.mem_append.mp hm with z | z
      · obtain ⟨l, hl, rfl⟩ := List.mem_map.mp z
        have b1 := tot_nonneg (vL.2.2 l hl).1.2
        have b2 := (vL.2.2 l hl).1.1
        omega
      · rw [List.mem_singleton.mp z]
        omega
    · have e1 := h1 l hl
      cases z : l.2 with
      | none => rfl
      | some i =>
        unfold lenL at e1
        rw [z] at e1
        cases e1

/-! ### holds shared out anew -/
def hds (rs : List RW) : List Int := rs.map (·.2)
theorem hds_len (rs : List RW) : (hds rs).length = rs.length := List.length_map ..
def wh (rs : List RW) (hs : List Int) : List RW := List.zipWith (fun r h => (r.1, h)) rs hs
theorem wh_len {rs : List RW} {hs : List Int} (h : hs.length = rs.length) : (wh rs hs).length = rs.length := by
  unfold wh
  rw [List.length_zipWith, h, Nat.min_self]
theorem wh_at {rs : List RW} {hs : List Int} {i : Nat} {r : RW} {h : Int} (h1 : rs[i]? = some r) (h2 : hs[i]? = some h) : (wh rs hs)[i]? = some (r.1, h) := by
  unfold wh
  rw [List.getElem?_zipWith, h1, h2]
theorem hds_wh : ∀ {rs : List RW} {hs : List Int}, hs.length = rs.length → hds (wh rs hs) = hs
  | [], [], _ => rfl
  | [], _ :: _, h => by cases h
  | _ :: _, [], h => by cases h
  | r :: rs, h :: hs, e => by
    show h :: hds (wh rs hs) = _
    rw [hds_wh (by simpa using e)]
def evs (k : Nat) (m : Int) : List Int := (List.range k).map fun (a : Nat) => (m - (a : Int) + (k : Int) - 1) / (k : Int)
theorem evs_len (k : Nat) (m : Int) : (evs k m).length = k := by
  unfold evs
  rw [List.length_map, List.length_range]
theorem evs_at {k i : Nat} {m : Int} (h : i < k) : (evs k m)[i]? = some ((m - (i : Int) + (k : Int) - 1) / (k : Int)) := by
  unfold evs
  rw [List.getElem?_map, List.getElem?_range h]
  rfl
def ps (ns : List Int) (i : Nat) : Int := (ns.take i).sum
theorem ps_zero (ns : List Int) : ps ns 0 = 0 := rfl
theorem ps_succ {ns : List Int} {i : Nat} {n : Int} (h : ns[i]? = some n) : ps ns (i + 1) = ps ns i + n := by
  unfold ps
  rw [List.take_add_one, h, List.sum_append]
  show _ + (n + 0) = _
  omega
def scf (ns : List Int) (L m : Int) (i : Nat) : Int := ps ns (i + 1) * m / L - ps ns i * m / L
def scl (ns : List Int) (L m : Int) : List Int := (List.range ns.length).map (scf ns L m)
theorem scl_len (ns : List Int) (L m : Int) : (scl ns L m).length = ns.length := by
  unfold scl
  rw [List.length_map, List.length_range]
theorem scl_at {ns : List Int} {L m : Int} {i : Nat} (h : i < ns.length) : (scl ns L m)[i]? = some (scf ns L m i) := by
  unfold scl
  rw [List.getElem?_map, List.getElem?_range h]
  rfl
theorem map_succ (f : Nat → Int) (i : Nat) : (List.range (i + 1)).map f = (List.range i).map f ++ [f i] := by
  rw [List.range_succ, List.map_append]
  rfl
/-- what comes of holds -/
inductive TO | en | sq | mn (m : Int) | ok (hs : List Int)
def IsTo (bk : Option Int) (hs : List Int) (o : TO) : Prop := (bk ≠ none ∧ o = .en) ∨ (bk = none ∧ (hs = [] ∨ ∃ h ∈ hs, h < 1) ∧ o = .sq) ∨
  (bk = none ∧ hs ≠ [] ∧ (∀ h ∈ hs, 1 ≤ h) ∧ ∃ M ∈ hs, (∀ h ∈ hs, h ≤ M) ∧ ((24 < M ∧ o = .mn M) ∨ (M ≤ 24 ∧ o = .ok hs)))
theorem IsTo.uniq {bk : Option Int} {hs : List Int} {o o' : TO} (h : IsTo bk hs o) (h' : IsTo bk hs o') : o = o' := by
  have sq : (hs = [] ∨ ∃ h ∈ hs, h < 1) → hs ≠ [] → (∀ h ∈ hs, 1 ≤ h) → False := fun a b c => by
    rcases a with e | ⟨h, m, l⟩
    · exact b e
    · have := c h m
      omega
  rcases h with ⟨b1, e⟩ | ⟨b1, s1, e⟩ | ⟨b1, n1, c1, M, mM, gM, e⟩ <;> rcases h' with ⟨b2, e'⟩ | ⟨b2, s2, e'⟩ | ⟨b2, n2, c2, M', mM', gM', e'⟩
  · rw [e, e']
  · exact absurd b2 b1
  · exact absurd b2 b1
  · exact absurd b1 b2
  · rw [e, e']
  · exact (sq s1 n2 c2).elim
  · exact absurd b1 b2
  · exact (sq s2 n1 c1).elim
  · have eM : M = M' := Int.le_antisymm (gM' M mM) (gM M' mM')
    subst eM
    rcases e with ⟨l1, e⟩ | ⟨l1, e⟩ <;> rcases e' with ⟨l2, e'⟩ | ⟨l2, e'⟩
    · rw [e, e']
    · omega
    · omega
    · rw [e, e']
def toD (rs : List RW) : TO → PyData
  | .en => refD 8
  | .sq => refD 9
  | .mn m => manyD m 24
  | .ok hs => toldD (lyD (wh rs hs, none))
/-- the floor, looked for -/
theorem floor_at {x L q : Int} (hL : 0 < L) (h1 : q * L ≤ x) (h2 : x < (q + 1) * L) : x / L = q := by
  have a : q ≤ x / L := Int.le_ediv_of_mul_le hL h1
  have b : x / L < q + 1 := Int.ediv_lt_of_lt_mul hL h2
  omega
theorem ps_tot (rs : List RW) (i : Nat) : ps (hds rs) i = tot (rs.take i) := by
  unfold ps hds tot
  rw [List.map_take]
theorem ps_bd {rs : List RW} (v : ∀ r ∈ rs, VRow r) (h8 : rs.length ≤ 8) (i : Nat) : 0 ≤ ps (hds rs) i ∧ ps (hds rs) i ≤ 192 := by
  rw [ps_tot]
  have t := tot_nonneg (rs := rs.take i) fun r hr => v r (List.mem_of_mem_take hr)
  rw [List.length_take] at t
  omega
/-- one more turn of sharing out -/
theorem share_step {k t j : Nat} (hk : 1 ≤ k) (h8 : k ≤ 8) (hj : j < k) : (((t + 1 : Nat) : Int) - (j : Int) + (k : Int) - 1) / (k : Int) = ((t : Int) - (j : Int) + (k : Int) - 1) / (k : Int) + (if t % k = j then 1 else 0) := by
  rcases (by omega : k = 1 ∨ k = 2 ∨ k = 3 ∨ k = 4 ∨ k = 5 ∨ k = 6 ∨ k = 7 ∨ k = 8) with e | e | e | e | e | e | e | e <;> subst e <;> split <;> omega
theorem paired_of {α β : Type} {F : α → β → Prop} : ∀ {l₁ : List α} {l₂ : List β}, l₁.length = l₂.length → (∀ (i : Nat) (x : α) (y : β), l₁[i]? = some x → l₂[i]? = some y → F x y) → Paired F l₁ l₂
  | [], [], _, _ => .nil
  | [], _ :: _, h, _ => by cases h
  | _ :: _, [], h, _ => by cases h
  | a :: l, b :: k, h, f => .cons (f 0 a b rfl rfl) (paired_of (by simpa using h) fun i x y hx hy => f (i + 1) x y hx hy)

theorem evs_set {k t : Nat} (hk : 1 ≤ k) (h8 : k ≤ 8) {z : Int} (hz : (evs k (t : Int))[t % k]? = some z) : (evs k (t : Int)).set (t % k) (z + 1) = evs k ((t + 1 : Nat) : Int) := by
  have lt : t % k < k := Nat.mod_lt t (by omega)
  apply List.ext_getElem?
  intro i
  rw [List.getElem?_set, evs_len]
  rcases Nat.lt_or_ge i k with hi | hi
  · have st := share_step (t := t) hk h8 hi
    by_cases e : t % k = i
    · subst e
      rw [if_pos rfl, if_pos lt]
      rw [evs_at lt] at hz
      cases hz
      rw [if_pos rfl] at st
      rw [evs_at lt, st]
    · rw [if_neg e] at st
      rw [if_neg e, evs_at hi, evs_at hi, st, Int.add_zero]
  · rw [if_neg (by omega), List.getElem?_eq_none (by rw [evs_len]; exact hi), List.getElem?_eq_none (by rw [evs_len]; exact hi)]
theorem evs_zero {k : Nat} (h8 : k ≤ 8) : evs k 0 = List.replicate k 0 := by
  apply List.ext_getElem?
  intro i
  rcases Nat.lt_or_ge i k with hi | hi
  · rw [evs_at hi, List.getElem?_replicate, if_pos hi]
    congr 1
    rcases (by omega : k = 1 ∨ k = 2 ∨ k = 3 ∨ k = 4 ∨ k = 5 ∨ k = 6 ∨ k = 7 ∨ k = 8) with e | e | e | e | e | e | e | e <;> subst e <;> omega
  · rw [List.getElem?_eq_none (by rw [evs_len]; exact hi), List.getElem?_eq_none (by rw [List.length_replicate]; exact hi)]
theorem sum_set : ∀ {l : List Int} {i : Nat} {z : Int} (y : Int), l[i]? = some z → (l.set i y).sum = l.sum - z + y
  | [], _, _, _, h => by cases h
  | a :: l, 0, z, y, h => by
    cases h
    show y + l.sum = a + l.sum - a + y
    omega
  | a :: l, i + 1, z, y, h => by
    show a + (l.set i y).sum = a + l.sum - z + y
    rw [sum_set (l := l) (i := i) (z := z) y h]
    omega
theorem evs_sum {k : Nat} (hk : 1 ≤ k) (h8 : k ≤ 8) : ∀ t : Nat, (evs k (t : Int)).sum = (t : Int)
  | 0 => by
    show (evs k 0).sum = 0
    rw [evs_zero h8]
    clear h8 hk
    induction k with
    | zero => rfl
    | succ k ih => rw [List.replicate_succ, List.sum_cons, ih]; rfl
  | t + 1 => by
    have e := evs_at (m := (t : Int)) (Nat.mod_lt t (show 0 < k by omega))
    rw [← evs_set hk h8 e, sum_set _ e, evs_sum hk h8 t]
    omega
theorem scs_sum (ns : List Int) (L m : Int) : ∀ n, ((List.range n).map (scf ns L m)).sum = ps ns n * m / L
  | 0 => by
    rw [ps_zero, Int.zero_mul, Int.zero_ediv]
    rfl
  | n + 1 => by
    rw [map_succ, List.sum_append, scs_sum ns L m n]
    show _ + (scf ns L m n + 0) = _
    unfold scf
    omega
theorem scl_sum {rs : List RW} {m : Int} (h : 0 < tot rs) : (scl (hds rs) (tot rs) m).sum = m := by
  unfold scl
  rw [scs_sum, hds_len, ps_tot, List.take_length, Int.mul_ediv_cancel_left _ (by omega)]
theorem evs_desc {k : Nat} {m : Int} (hk : 1 ≤ k) : (evs k m).Pairwise (· ≥ ·) := by
  unfold evs
  rw [List.pairwise_map]
  refine (List.pairwise_lt_range (n := k)).imp fun {a b} h => ?_
  exact Int.ediv_le_ediv (by omega) (by omega)
theorem desc_uniq {a b : List Int} (p : a.Perm b) (ha : a.Pairwise (· ≥ ·)) (hb : b.Pairwise (· ≥ ·)) : a = b :=
  p.eq_of_pairwise (fun x y _ _ h1 h2 => by omega) ha hb
theorem evs_near {k : Nat} {m : Int} (hk : 1 ≤ k) (h8 : k ≤ 8) : (m - ((0 : Nat) : Int) + (k : Int) - 1) / (k : Int) - (m - ((k - 1 : Nat) : Int) + (k : Int) - 1) / (k : Int) ≤ 1 := by
  rcases (by omega : k = 1 ∨ k = 2 ∨ k = 3 ∨ k = 4 ∨ k = 5 ∨ k = 6 ∨ k = 7 ∨ k = 8) with e | e | e | e | e | e | e | e <;> subst e <;> omega
theorem scf_near {ns : List Int} {L m : Int} {i : Nat} {h : Int} (hL : 0 < L) (hn : ns[i]? = some h) : -L < scf ns L m i * L - h * m ∧ scf ns L m i * L - h * m < L := by
  unfold scf
  have e : ps ns (i + 1) * m = ps ns i * m + h * m := by rw [ps_succ hn, Int.add_mul]
  rw [e, Int.sub_mul]
  have d1 := Int.mul_ediv_add_emod (ps ns i * m + h * m) L
  have d2 := Int.mul_ediv_add_emod (ps ns i * m) L
  have r1 := Int.emod_nonneg (ps ns i * m + h * m) (show L ≠ 0 by omega)
  have r2 := Int.emod_nonneg (ps ns i * m) (show L ≠ 0 by omega)
  have r3 := Int.emod_lt_of_pos (ps ns i * m + h * m) hL
  have r4 := Int.emod_lt_of_pos (ps ns i * m) hL
  rw [Int.mul_comm L] at d1 d2
  omega
theorem list_of {l : List Int} {f : Nat → Int} {n : Nat} (hl : l.length = n) (h : ∀ i, i < n → l[i]? = some (f i)) : l = (List.range n).map f := by
  apply List.ext_getElem?
  intro i
  rcases Nat.lt_or_ge i n with hi | hi
  · rw [h i hi, List.getElem?_map, List.getElem?_range hi]
    rfl
  · rw [List.getElem?_eq_none (by omega), List.getElem?_eq_none (by rw [List.length_map, List.length_range]; exact hi)]
/-- to twice its length -/
theorem scl_dbl {ns : List Int} {L : Int} (hL : 0 < L) : scl ns L (2 * L) = ns.map (2 * ·) := by
  unfold scl
  refine (list_of (by rw [List.length_map]) fun i hi => ?_).symm
  rw [List.getElem?_map, List.getElem?_eq_getElem hi]
  unfold scf
  have e : ∀ x : Int, x * (2 * L) / L = 2 * x := fun x => by
    rw [← Int.mul_assoc, Int.mul_ediv_cancel _ (by omega), Int.mul_comm]
  rw [e, e, ps_succ (List.getElem?_eq_getElem hi)]
  show some (2 * ns[i]) = _
  congr 1
  omega
theorem ps_dbl (ns : List Int) (i : Nat) : ps (ns.map (2 * ·)) i = 2 * ps ns i := by
  unfold ps
  rw [← List.map_take]
  induction ns.take i with
  | nil => rfl
  | cons a l ih =>
    rw [List.map_cons, List.sum_cons, List.sum_cons, ih]
    omega
/-- and back -/
theorem scl_back {ns : List Int} {L : Int} (hL : 0 < L) : scl (ns.map (2 * ·)) (2 * L) L = ns := by
  unfold scl
  refine (list_of (by rw [List.length_map]) fun i hi => ?_).symm
  rw [List.length_map] at hi
  unfold scf
  have e : ∀ x : Int, 2 * x * L / (2 * L) = x := fun x => by
    rw [Int.mul_assoc, Int.mul_ediv_mul_of_pos _ _ (show (0 : Int) < 2 by omega), Int.mul_ediv_cancel _ (by omega)]
  rw [ps_dbl, ps_dbl, e, e, ps_succ (List.getElem?_eq_getElem hi), List.getElem?_eq_getElem hi]
  congr 1
  omega
theorem tot_hds (rs : List RW) : tot rs = (hds rs).sum := rfl
theorem tot_wh {rs : List RW} {hs : List Int} (h : hs.length = rs.length) : tot (wh rs hs) = hs.sum := by rw [tot_hds, hds_wh h]
theorem wh_self : ∀ rs : List RW, wh rs (hds rs) = rs
  | [] => rfl
  | r :: rs => by
    show (r.1, r.2) :: wh rs (hds rs) = _
    rw [wh_self rs]
theorem wh_wh : ∀ {rs : List RW} {hs ks : List Int}, hs.length = rs.length → wh (wh rs hs) ks = wh rs ks
  | [], [], _, _ => rfl
  | [], _ :: _, _, h => by cases h
  | _ :: _, [], _, h => by cases h
  | r :: rs, h :: hs, [], e => rfl
  | r :: rs, h :: hs, k :: ks, e => by
    show (r.1, k) :: wh (wh rs hs) ks = (r.1, k) :: wh rs ks
    rw [wh_wh (by simpa using e)]
theorem wh_fst : ∀ {rs : List RW} {hs : List Int}, hs.length = rs.length → (wh rs hs).map (·.1) = rs.map (·.1)
  | [], [], _ => rfl
  | [], _ :: _, h => by cases h
  | _ :: _, [], h => by cases h
  | r :: rs, h :: hs, e => by
    show r.1 :: (wh rs hs).map (·.1) = r.1 :: rs.map (·.1)
    rw [wh_fst (by simpa using e)]
theorem wh_rows {rs : List RW} {hs : List Int} (v : VRows rs) (h : hs.length = rs.length) (b : ∀ x ∈ hs, 1 ≤ x ∧ x ≤ 24) : VRows (wh rs hs) := by
  refine ⟨by rw [wh_len h]; exact v.1, fun r hr => ?_⟩
  obtain ⟨i, hi, e⟩ := List.getElem_of_mem hr
  have hi' : i < rs.length := by rw [wh_len h] at hi; exact hi
  have e2 := wh_at (List.getElem?_eq_getElem hi') (List.getElem?_eq_getElem (show i < hs.length by omega))
  rw [List.getElem?_eq_getElem hi, e] at e2
  obtain ⟨v1, v2, _, _⟩ := v.2 _ (List.getElem_mem hi')
  obtain ⟨b1, b2⟩ := b _ (List.getElem_mem (show i < hs.length by omega))
  cases e2
  exact ⟨v1, v2, b1, b2⟩
theorem lays_dwg {rs : List RW} (v : VRows rs) {m : Int} (h : tot rs = m) : lays rs none m.toNat = (dwg rs).map V.int := by
  have dl := dwg_len v.2
  rw [← lays_of (fs := dwg rs) (n := m.toNat) (by omega) (fun i hi => dwg_at v.2 (by omega))]
  exact List.take_of_length_le (by rw [List.length_map]; omega)
theorem isTo_ok {hs : List Int} {o : TO} (h : IsTo none hs (.ok hs)) : hs ≠ [] ∧ ∀ x ∈ hs, 1 ≤ x ∧ x ≤ 24 := by
  rcases h with ⟨_, e⟩ | ⟨_, _, e⟩ | ⟨_, n, a, M, _, g, ⟨_, e⟩ | ⟨l, _⟩⟩
  · cases e
  · cases e
  · cases e
  · refine ⟨n, fun x hx => ⟨a x hx, ?_⟩⟩
    have := g x hx
    omega
theorem isTo_of {hs : List Int} (n : hs ≠ []) (b : ∀ x ∈ hs, 1 ≤ x ∧ x ≤ 24) {o : TO} (h : IsTo none hs o) : o = .ok hs := by
  rcases h with ⟨e, _⟩ | ⟨_, z, _⟩ | ⟨_, _, a, M, hM, g, ⟨l, _⟩ | ⟨l, e⟩⟩
  · exact absurd rfl e
  · rcases z with e | ⟨x, hx, l⟩
    · exact absurd e n
    · have := (b x hx).1
      omega
  · have := (b M hM).2
    omega
  · exact e

/-! ### sheets retimed -/
def mds (ms : List MV) : List Int := ms.map (·.2.2)
theorem mds_len (ms : List MV) : (mds ms).length = ms.length := List.length_map ..
def wm (ms : List MV) (ks : List Int) : List MV := List.zipWith (fun v k => (v.1, v.2.1, k)) ms ks
theorem wm_len {ms : List MV} {ks : List Int} (h : ks.length = ms.length) : (wm ms ks).length = ms.length := by
  unfold wm
  rw [List.length_zipWith, h, Nat.min_self]
theorem wm_at {ms : List MV} {ks : List Int} {i : Nat} {v : MV} {k : Int} (h1 : ms[i]? = some v) (h2 : ks[i]? = some k) : (wm ms ks)[i]? = some (v.1, v.2.1, k) := by
  unfold wm
  rw [List.getElem?_zipWith, h1, h2]
theorem mds_wm : ∀ {ms : List MV} {ks : List Int}, ks.length = ms.length → mds (wm ms ks) = ks
  | [], [], _ => rfl
  | [], _ :: _, h => by cases h
  | _ :: _, [], h => by cases h
  | v :: ms, k :: ks, e => by
    show k :: mds (wm ms ks) = _
    rw [mds_wm (by simpa using e)]
theorem wm_self : ∀ ms : List MV, wm ms (mds ms) = ms
  | [] => rfl
  | v :: ms => by
    show (v.1, v.2.1, v.2.2) :: wm ms (mds ms) = _
    rw [wm_self ms]
def lsc (L m : Int) (l : LY) : LY := (wh l.1 (scl (hds l.1) L m), l.2)
def hsc (ls : List LY) (L m : Int) : List Int := (ls.map fun l => scl (hds l.1) L m).flatten
theorem hsc_snoc {ls : List LY} {L m : Int} {i : Nat} {l : LY} (h : ls[i]? = some l) : hsc (ls.take (i + 1)) L m = hsc (ls.take i) L m ++ scl (hds l.1) L m := by
  unfold hsc
  rw [List.take_add_one, h, List.map_append, List.flatten_append]
  show _ ++ (scl (hds l.1) L m ++ []) = _
  rw [List.append_nil]
inductive SO | en | sq | mn (m : Int) | ok (L : Int)
def IsSo (ls : List LY) (ms : List MV) (m : Int) (o : SO) : Prop := ∃ r, ShLen ls (mtot ms) r ∧ ((r = none ∧ o = .en) ∨ (r = some 0 ∧ o = .sq) ∨ ∃ L, r = some L ∧ L ≠ 0 ∧ (((∃ h ∈ hsc ls L m, h < 1) ∧ o = .sq) ∨
  ((∀ h ∈ hsc ls L m, 1 ≤ h) ∧ ∃ M ∈ hsc ls L m ++ scl (mds ms) L m, (∀ x ∈ hsc ls L m ++ scl (mds ms) L m, x ≤ M) ∧ ((24 < M ∧ o = .mn M) ∨ (M ≤ 24 ∧ o = .ok L)))))
theorem IsSo.uniq {ls : List LY} {ms : List MV} {m : Int} {o o' : SO} (h : IsSo ls ms m o) (h' : IsSo ls ms m o') : o = o' := by
  obtain ⟨r, hr, h⟩ := h
  obtain ⟨r', hr', h'⟩ := h'
  obtain rfl := hr.uniq hr'
  rcases h with ⟨e1, e⟩ | ⟨e1, e⟩ | ⟨L, e1, n1, h⟩ <;> rcases h' with ⟨e2, e'⟩ | ⟨e2, e'⟩ | ⟨L', e2, n2, h'⟩
  · rw [e, e']
  · rw [e1] at e2
    cases e2
  · rw [e1] at e2
    cases e2
  · rw [e1] at e2
    cases e2
  · rw [e, e']
  · rw [e1] at e2
    exact absurd (Option.some.inj e2).symm n2
  · rw [e1] at e2
    cases e2
  · rw [e1] at e2
    exact absurd (Option.some.inj e2) n1
  · rw [e1] at e2
    cases e2
    rcases h with ⟨⟨x, hx, lx⟩, e⟩ | ⟨a, M, hM, gM, h⟩ <;> rcases h' with ⟨⟨x', hx', lx'⟩, e'⟩ | ⟨a', M', hM', gM', h'⟩
    · rw [e, e']
    · have := a' x hx
      omega
    · have := a x' hx'
      omega
    · have eM : M = M' := Int.le_antisymm (gM' M hM) (gM M' hM')
      subst eM
      rcases h with ⟨l1, e⟩ | ⟨l1, e⟩ <;> rcases h' with ⟨l2, e'⟩ | ⟨l2, e'⟩
      · rw [e, e']
      · omega
      · omega
      · rw [e, e']
def soD (ls : List LY) (x y : Int) (ms : List MV) (m : Int) : SO → PyData
  | .en => refD 8
  | .sq => refD 9
  | .mn M => manyD M 24
  | .ok L => toldD (shD (ls.map (lsc L m)) x y (wm ms (scl (mds ms) L m)))
theorem sd_so (ls : List LY) (x y : Int) (ms : List MV) (m : Int) (o : SO) : ∃ k, Sd k (soD ls x y ms m o) ∧ k ≤ 64 := by
  cases o with
  | en => exact ⟨_, sd_ref 8, by decide⟩
  | sq => exact ⟨_, sd_ref 9, by decide⟩
  | mn m => exact ⟨_, sd_many m 24, by decide⟩
  | ok L => exact ⟨_, sd_told (sd_sh _ _ _ _), by decide⟩
/-- to its own length -/
theorem scl_own {ns : List Int} {L : Int} (hL : 0 < L) : scl ns L L = ns := by
  unfold scl
  refine (list_of rfl fun i hi => ?_).symm
  unfold scf
  rw [Int.mul_ediv_cancel _ (by omega), Int.mul_ediv_cancel _ (by omega), ps_succ (List.getElem?_eq_getElem hi), List.getElem?_eq_getElem hi]
  congr 1
  omega
theorem scf_nonneg {ns : List Int} {L m : Int} {i : Nat} {h : Int} (hL : 0 < L) (hm : 0 ≤ m) (hn : ns[i]? = some h) (h0 : 0 ≤ h) : 0 ≤ scf ns L m i := by
  unfold scf
  have e : ps ns i * m ≤ ps ns (i + 1) * m := by
    rw [ps_succ hn]
    exact Int.mul_le_mul_of_nonneg_right (by omega) hm
  have := Int.ediv_le_ediv hL e
  omega
theorem wipe_in {σ : L2.St} {i : Nat} : ∀ {vs : List Nat}, i ∈ vs → (wipe σ vs)[i]? = if i < σ.length then some none else none
  | [], h => by cases h
  | v :: vs, h => by
    show ((wipe σ vs).set v none)[i]? = _
    rw [List.getElem?_set, wipe_length]
    by_cases e : v = i
    · rw [if_pos e, e]
    · rw [if_neg e]
      exact wipe_in (by
        rcases List.mem_cons.mp h with z | z
        · exact absurd z.symm e
        · exact z)
theorem wipe_set {σ : L2.St} {vs : List Nat} {i : Nat} (x : Option V) (h : i ∈ vs) : wipe (σ.set i x) vs = wipe σ vs := by
  apply List.ext_getElem?
  intro j
  by_cases hj : j ∈ vs
  · rw [wipe_in hj, wipe_in hj, List.length_set]
  · rw [wipe_out hj, wipe_out hj, List.getElem?_set_ne (show i ≠ j from fun e => hj (by rw [← e]; exact h))]
theorem wipe_wipe {σ : L2.St} {vs : List Nat} : wipe (wipe σ vs) vs = wipe σ vs := by
  apply List.ext_getElem?
  intro j
  by_cases hj : j ∈ vs
  · rw [wipe_in hj, wipe_in hj, wipe_length]
  · rw [wipe_out hj]

/-! ### texts of small numbers -/
open TL in
def tlS (x : Str) : List Nat := tl x
def nT (i : Int) : Str := Str.ofString (toString i)
def figs (z : Str) : Str := if Txt.startswith z "-" = true then cutS z (some 1) none else z
def numOk (i : Int) : Bool :=
  decide ((nT i).length ≤ 3) && (decide (intText? (nT i) = some i) && (((nT i).cps.toList.all fun c => c != 32 && (c != 44 && (c != 120 && c != 10))) && (Txt.isascii (figs (nT i)) && (Txt.isdigit (figs (nT i)) && (decide ((figs (nT i)).length ≤ 3) &&
    ((decide (nT i = "0") || (match atI (figs (nT i)).cps.toList 0 with | some c => decide ((⟨#[c]⟩ : Str) ≠ "0") | none => false)) && decide (nT i ≠ "-")))))))
theorem num_all : ∀ k : Nat, k < 45 → numOk ((k : Int) - 20) = true := by decide +kernel
structure NumF (i : Int) : Prop where
  len : (nT i).length ≤ 3
  int : intText? (nT i) = some i
  free : ∀ c ∈ TL.tl (nT i), c ≠ 32 ∧ c ≠ 44 ∧ c ≠ 120 ∧ c ≠ 10
  asc : Txt.isascii (figs (nT i)) = true
  dig : Txt.isdigit (figs (nT i)) = true
  flen : (figs (nT i)).length ≤ 3
  last : nT i = "0" ∨ ∃ c, atI (figs (nT i)).cps.toList 0 = some c ∧ (⟨#[c]⟩ : Str) ≠ "0"
  nd : nT i ≠ "-"
def Sm (i : Int) : Prop := -20 ≤ i ∧ i ≤ 24
theorem Sm.f {i : Int} (h : Sm i) : NumF i := by
  obtain ⟨h0, h1⟩ := h
  have e := num_all (i + 20).toNat (by omega)
  rw [show (((i + 20).toNat : Nat) : Int) - 20 = i by omega] at e
  unfold numOk at e
  simp only [Bool.and_eq_true, decide_eq_true_eq, List.all_eq_true, bne_iff_ne, Bool.or_eq_true] at e
  obtain ⟨e1, e2, e3, e4, e5, e6, e7, e8⟩ := e
  refine ⟨e1, e2, e3, e4, e5, e6, ?_, e8⟩
  rcases e7 with z | z
  · exact .inl z
  · right
    split at z
    · rename_i c hc
      exact ⟨c, hc, of_decide_eq_true z⟩
    · cases z
theorem log_small {i : Int} (h : Sm i) : i.natAbs.log2 < 1920 := (it_len (i := i) (by obtain ⟨a, b⟩ := h; omega)).2
/-! ### joined texts -/
def Free (c : Nat) (z : Str) : Prop := c ∉ TL.tl z
theorem mem_joinL {S : List Nat} {c : Nat} : ∀ {ps : List (List Nat)}, c ∈ TL.joinL S ps → c ∈ S ∨ ∃ p ∈ ps, c ∈ p
  | [], h => nomatch h
  | [p], h => .inr ⟨p, by simp, h⟩
  | p :: q :: r, h => by
    rcases List.mem_append.mp (show c ∈ p ++ (S ++ TL.joinL S (q :: r)) from h) with z | z
    · exact .inr ⟨p, by simp, z⟩
    · rcases List.mem_append.mp z with z | z
      · exact .inl z
      · rcases mem_joinL z with z | ⟨p', hp, hc⟩
        · exact .inl z
        · exact .inr ⟨p', List.mem_cons_of_mem _ hp, hc⟩
theorem tl_txt (y : Str) (ps : List Str) : TL.tl (Txt.join y ps) = TL.joinL (TL.tl y) (ps.map TL.tl) := by rw [TL.join_eq, TL.tl_join]
theorem free_join {c : Nat} {y : Str} {ps : List Str} (hy : Free c y) (h : ∀ p ∈ ps, Free c p) : Free c (Txt.join y ps) := fun z => by
  rw [tl_txt] at z
  rcases mem_joinL z with z | ⟨p, hp, hc⟩
  · exact hy z
  · obtain ⟨q, hq, rfl⟩ := List.mem_map.mp hp
    exact h q hq hc
theorem joinL_len {S : List Nat} : ∀ ps : List (List Nat), (TL.joinL S ps).length ≤ (ps.map (·.length)).sum + ps.length * S.length
  | [] => Nat.zero_le _
  | [p] => by
    show p.length ≤ _
    simp
  | p :: q :: r => by
    show (p ++ (S ++ TL.joinL S (q :: r))).length ≤ _
    have ih := joinL_len (S := S) (q :: r)
    rw [List.length_append, List.length_append, List.map_cons, List.sum_cons, List.length_cons, Nat.succ_mul]
    omega
theorem sum_le {B n : Nat} : ∀ {l : List Nat}, (∀ x ∈ l, x ≤ B) → l.sum ≤ l.length * B
  | [], _ => Nat.zero_le _
  | a :: t, h => by
    have ih := sum_le (B := B) (n := n) (l := t) fun x hx => h x (List.mem_cons_of_mem _ hx)
    have := h a (List.mem_cons_self ..)
    rw [List.sum_cons, List.length_cons, Nat.succ_mul]
    omega
theorem join_bound {y : Str} {ps : List Str} {B n : Nat} (hy : y.length ≤ 1) (hB : ∀ p ∈ ps, p.length ≤ B) (hn : ps.length ≤ n) : (ps.map (·.length)).sum + ps.length * y.length ≤ n * (B + 1) := by
  have s := sum_le (B := B) (n := n) (l := ps.map (·.length)) fun x hx => by
    obtain ⟨p, hp, rfl⟩ := List.mem_map.mp hx
    exact hB p hp
  rw [List.length_map] at s
  have a1 : ps.length * B ≤ n * B := Nat.mul_le_mul_right B hn
  have a2 : ps.length * y.length ≤ n * 1 := Nat.mul_le_mul hn hy
  rw [Nat.mul_add]
  omega
theorem join_len {y : Str} {ps : List Str} {B n : Nat} (hy : y.length ≤ 1) (hB : ∀ p ∈ ps, p.length ≤ B) (hn : ps.length ≤ n) : (Txt.join y ps).length ≤ n * (B + 1) := by
  refine Nat.le_trans ?_ (join_bound hy hB hn)
  rw [TL.len_tl, tl_txt]
  refine Nat.le_trans (joinL_len _) ?_
  rw [List.map_map, List.length_map, ← TL.len_tl]
  exact Nat.le_refl _
/-! ### a sheet's text -/
def mvT (m : MV) : Str := Txt.join "," [nT m.1, nT m.2.1, nT m.2.2]
def rwT (r : RW) : Str := Txt.join "x" [nT r.1, nT r.2]
def bkT : Option Int → Str
  | none => "-"
  | some b => nT b
def winW (x y : Int) (ms : List MV) : List Str := [("window" : Str), nT x, nT y] ++ ms.map mvT
def layW (l : LY) : List Str := [("layer" : Str), bkT l.2] ++ l.1.map rwT
def winT (x y : Int) (ms : List MV) : Str := Txt.join " " (winW x y ms)
def layT (l : LY) : Str := Txt.join " " (layW l)
def linT (ls : List LY) (x y : Int) (ms : List MV) : List Str := [winT x y ms] ++ ls.map layT
def shT (ls : List LY) (x y : Int) (ms : List MV) : Str := Txt.join "" ((linT ls x y ms).map fun z => z ++ "\n")
theorem vm_sm {m : MV} (h : VMove m) : Sm m.1 ∧ Sm m.2.1 ∧ Sm m.2.2 := by
  obtain ⟨⟨a, b⟩, ⟨c, d⟩, e, f⟩ := h
  exact ⟨⟨by omega, by omega⟩, ⟨by omega, by omega⟩, ⟨by omega, by omega⟩⟩
theorem vr_sm {r : RW} (h : VRow r) : Sm r.1 ∧ Sm r.2 := by
  obtain ⟨a, b, c, d⟩ := h
  exact ⟨⟨by omega, by omega⟩, ⟨by omega, by omega⟩⟩
theorem vb_sm {l : LY} (h : VLy l) {b : Int} (e : l.2 = some b) : Sm b := by
  have := h.2 b e
  have := h.1.1
  exact ⟨by omega, by omega⟩
theorem mv_parts {m : MV} (h : VMove m) : ∀ p ∈ [nT m.1, nT m.2.1, nT m.2.2], p.length ≤ 3 ∧ ∀ c ∈ TL.tl p, c ≠ 32 ∧ c ≠ 44 ∧ c ≠ 120 ∧ c ≠ 10 := fun p hp => by
  obtain ⟨a, b, c⟩ := vm_sm h
  rcases mem3 hp with rfl | rfl | rfl
  · exact ⟨a.f.len, a.f.free⟩
  · exact ⟨b.f.len, b.f.free⟩
  · exact ⟨c.f.len, c.f.free⟩
theorem rw_parts {r : RW} (h : VRow r) : ∀ p ∈ [nT r.1, nT r.2], p.length ≤ 3 ∧ ∀ c ∈ TL.tl p, c ≠ 32 ∧ c ≠ 44 ∧ c ≠ 120 ∧ c ≠ 10 := fun p hp => by
  obtain ⟨a, b⟩ := vr_sm h
  rcases mem2 hp with rfl | rfl
  · exact ⟨a.f.len, a.f.free⟩
  · exact ⟨b.f.len, b.f.free⟩
theorem free_of {z : Str} {c : Nat} (h : ∀ d ∈ TL.tl z, d ≠ 32 ∧ d ≠ 44 ∧ d ≠ 120 ∧ d ≠ 10) (hc : c = 32 ∨ c = 44 ∨ c = 120 ∨ c = 10) : Free c z := fun z => by
  obtain ⟨a, b, d, e⟩ := h c z
  omega
theorem mvT_f {m : MV} (h : VMove m) : (mvT m).length ≤ 12 ∧ Free 32 (mvT m) ∧ Free 10 (mvT m) :=
  ⟨join_len (n := 3) (B := 3) (by decide) (fun p hp => (mv_parts h p hp).1) (by show 3 ≤ 3; decide), free_join (by unfold Free; decide +kernel) fun p hp => free_of (mv_parts h p hp).2 (by omega), free_join (by unfold Free; decide +kernel) fun p hp => free_of (mv_parts h p hp).2 (by omega)⟩
theorem rwT_f {r : RW} (h : VRow r) : (rwT r).length ≤ 8 ∧ Free 32 (rwT r) ∧ Free 10 (rwT r) :=
  ⟨join_len (n := 2) (B := 3) (by decide) (fun p hp => (rw_parts h p hp).1) (by show 2 ≤ 2; decide), free_join (by unfold Free; decide +kernel) fun p hp => free_of (rw_parts h p hp).2 (by omega), free_join (by unfold Free; decide +kernel) fun p hp => free_of (rw_parts h p hp).2 (by omega)⟩
theorem bkT_f {l : LY} (h : VLy l) : (bkT l.2).length ≤ 3 ∧ Free 32 (bkT l.2) ∧ Free 10 (bkT l.2) := by
  cases e : l.2 with
  | none => exact ⟨by show ("-" : Str).length ≤ 3; decide, by show Free 32 "-"; unfold Free; decide +kernel, by show Free 10 "-"; unfold Free; decide +kernel⟩
  | some b =>
    have s := vb_sm h e
    exact ⟨s.f.len, free_of s.f.free (by omega), free_of s.f.free (by omega)⟩
theorem winW_f {x y : Int} {ms : List MV} (h : VWin x y ms) : ∀ p ∈ winW x y ms, p.length ≤ 12 ∧ Free 32 p ∧ Free 10 p := fun p hp => by
  rcases List.mem_append.mp hp with z | z
  · have sx : Sm x := ⟨by have := h.1; omega, by have := h.1; omega⟩
    have sy : Sm y := ⟨by have := h.2.1; omega, by have := h.2.1; omega⟩
    rcases mem3 z with rfl | rfl | rfl
    · exact ⟨by decide, by unfold Free; decide +kernel, by unfold Free; decide +kernel⟩
    · exact ⟨Nat.le_trans sx.f.len (by decide), free_of sx.f.free (by omega), free_of sx.f.free (by omega)⟩
    · exact ⟨Nat.le_trans sy.f.len (by decide), free_of sy.f.free (by omega), free_of sy.f.free (by omega)⟩
  · obtain ⟨m, hm, rfl⟩ := List.mem_map.mp z
    exact mvT_f (h.2.2.2 m hm)
theorem layW_f {l : LY} (h : VLy l) : ∀ p ∈ layW l, p.length ≤ 12 ∧ Free 32 p ∧ Free 10 p := fun p hp => by
  rcases List.mem_append.mp hp with z | z
  · rcases mem2 z with rfl | rfl
    · exact ⟨by decide, by unfold Free; decide +kernel, by unfold Free; decide +kernel⟩
    · exact ⟨Nat.le_trans (bkT_f h).1 (by decide), (bkT_f h).2⟩
  · obtain ⟨r, hr, rfl⟩ := List.mem_map.mp z
    have := rwT_f (h.1.2 r hr)
    exact ⟨Nat.le_trans this.1 (by decide), this.2⟩
theorem winW_len {x y : Int} {ms : List MV} (h : VWin x y ms) : (winW x y ms).length ≤ 11 := by
  unfold winW
  rw [List.length_append, List.length_map]
  have := h.2.2.1
  show 3 + ms.length ≤ 11
  omega
theorem layW_len {l : LY} (h : VLy l) : (layW l).length ≤ 11 := by
  unfold layW
  rw [List.length_append, List.length_map]
  have := h.1.1
  show 2 + l.1.length ≤ 11
  omega
theorem winT_f {x y : Int} {ms : List MV} (h : VWin x y ms) : (winT x y ms).length ≤ 143 ∧ Free 10 (winT x y ms) :=
  ⟨join_len (n := 11) (B := 12) (by decide) (fun p hp => (winW_f h p hp).1) (winW_len h), free_join (by unfold Free; decide +kernel) fun p hp => (winW_f h p hp).2.2⟩
theorem layT_f {l : LY} (h : VLy l) : (layT l).length ≤ 143 ∧ Free 10 (layT l) :=
  ⟨join_len (n := 11) (B := 12) (by decide) (fun p hp => (layW_f h p hp).1) (layW_len h), free_join (by unfold Free; decide +kernel) fun p hp => (layW_f h p hp).2.2⟩
theorem linT_f {ls : List LY} {x y : Int} {ms : List MV} (hl : VLays ls) (h : VWin x y ms) : ∀ p ∈ linT ls x y ms, p.length ≤ 143 ∧ Free 10 p := fun p hp => by
  rcases List.mem_append.mp hp with z | z
  · rw [List.mem_singleton.mp z]
    exact winT_f h
  · obtain ⟨l, hm, rfl⟩ := List.mem_map.mp z
    exact layT_f (hl.2.2 l hm)
theorem linT_len {ls : List LY} {x y : Int} {ms : List MV} (hl : VLays ls) : (linT ls x y ms).length ≤ 5 := by
  unfold linT
  rw [List.length_append, List.length_map]
  have := hl.2.1
  show 1 + ls.length ≤ 5
  omega
theorem win_split {x y : Int} {ms : List MV} (h : VWin x y ms) : Txt.split (winT x y ms) " " = winW x y ms :=
  TL.split_join (s := 32) (S := []) (by decide +kernel) (by decide +kernel) (by unfold winW; simp) fun p hp => (winW_f h p hp).2.1
theorem lay_split {l : LY} (h : VLy l) : Txt.split (layT l) " " = layW l :=
  TL.split_join (s := 32) (S := []) (by decide +kernel) (by decide +kernel) (by unfold layW; simp) fun p hp => (layW_f h p hp).2.1
theorem mv_split {m : MV} (h : VMove m) : Txt.split (mvT m) "," = [nT m.1, nT m.2.1, nT m.2.2] :=
  TL.split_join (s := 44) (S := []) (by decide +kernel) (by decide +kernel) (by simp) fun p hp => free_of (mv_parts h p hp).2 (by omega)
theorem rw_split {r : RW} (h : VRow r) : Txt.split (rwT r) "x" = [nT r.1, nT r.2] :=
  TL.split_join (s := 120) (S := []) (by decide +kernel) (by decide +kernel) (by simp) fun p hp => free_of (rw_parts h p hp).2 (by omega)
/-- each line with its end -/
theorem lines_end : ∀ {zs : List Str}, zs ≠ [] → Txt.join "" (zs.map fun z => z ++ "\n") = Txt.join "\n" zs ++ "\n" := fun {zs} hz => by
  refine TL.ext_tl ?_
  rw [tl_txt, TL.tl_append, tl_txt, List.map_map]
  have e : TL.tl ("" : Str) = [] := by decide +kernel
  have e1 : TL.tl ("\n" : Str) = [10] := by decide +kernel
  rw [e, e1]
  have f : (TL.tl ∘ fun z : Str => z ++ "\n") = fun z => TL.tl z ++ [10] := by
    funext z
    show TL.tl (z ++ "\n") = _
    rw [TL.tl_append, e1]
  rw [f]
  have go : ∀ l : List Str, l ≠ [] → TL.joinL [] (l.map fun z => TL.tl z ++ [10]) = TL.joinL [10] (l.map TL.tl) ++ [10] := fun l => by
    induction l with
    | nil => intro h; exact absurd rfl h
    | cons a t ih =>
      intro _
      cases t with
      | nil => rfl
      | cons b r =>
        have := ih (by simp)
        show (TL.tl a ++ [10]) ++ ([] ++ TL.joinL [] ((b :: r).map fun z => TL.tl z ++ [10])) = (TL.tl a ++ ([10] ++ TL.joinL [10] ((b :: r).map TL.tl))) ++ [10]
        rw [this]
        simp
  exact go zs hz
theorem ends_nl (z : Str) : Txt.endswith (z ++ "\n") "\n" = true := by
  have hl : (z ++ "\n").length = z.length + 1 := by
    rw [strLen_append]
    rfl
  have e1 : ("\n" : Str) = ⟨#[10]⟩ := by decide +kernel
  have h := (PySem.StrLaws.subAt_one (z ++ "\n") 10 z.length).mpr (by
    show (TL.tl (z ++ "\n"))[z.length]? = some 10
    rw [TL.tl_append, List.getElem?_append_right (by rw [TL.len_tl]; exact Nat.le_refl _), TL.len_tl, Nat.sub_self]
    decide +kernel)
  unfold Txt.endswith
  rw [hl, show (("\n" : Str)).length = 1 by decide, Nat.add_sub_cancel]
  rw [Bool.and_eq_true]
  refine ⟨decide_eq_true (by omega), ?_⟩
  have h2 := h.2
  rw [← e1] at h2
  exact h2
theorem cut_nl (z : Str) : cutS (z ++ "\n") none (some (-1)) = z := by
  refine TL.ext_tl ?_
  have hl : (z ++ "\n").length = z.length + 1 := by
    rw [strLen_append]
    rfl
  unfold cutS
  show ((TL.tl (z ++ "\n")).drop (HT.sIx (z ++ "\n").length 0 none)).take (HT.sIx (z ++ "\n").length (z ++ "\n").length (some (-1)) - HT.sIx (z ++ "\n").length 0 none) = TL.tl z
  rw [hl, TL.tl_append]
  have e1 : HT.sIx (z.length + 1) 0 none = 0 := rfl
  have e2 : HT.sIx (z.length + 1) (z.length + 1) (some (-1)) = z.length := by
    show (if (-1 : Int) < 0 then (-1 + ((z.length + 1 : Nat) : Int)).toNat else min (-1 : Int).toNat (z.length + 1)) = _
    rw [if_pos (by decide)]
    omega
  rw [e1, e2, List.drop_zero, Nat.sub_zero, TL.len_tl, List.take_left]
theorem shT_eq (ls : List LY) (x y : Int) (ms : List MV) : shT ls x y ms = Txt.join "\n" (linT ls x y ms) ++ "\n" := lines_end (by unfold linT; simp)
theorem lin_split {ls : List LY} {x y : Int} {ms : List MV} (hl : VLays ls) (h : VWin x y ms) : Txt.split (Txt.join "\n" (linT ls x y ms)) "\n" = linT ls x y ms :=
  TL.split_join (s := 10) (S := []) (by decide +kernel) (by decide +kernel) (by unfold linT; simp) fun p hp => (linT_f hl h p hp).2
theorem lin_len {ls : List LY} {x y : Int} {ms : List MV} (hl : VLays ls) (h : VWin x y ms) : (Txt.join "\n" (linT ls x y ms)).length ≤ 720 :=
  join_len (n := 5) (B := 143) (by decide) (fun p hp => (linT_f hl h p hp).1) (linT_len hl)

/-! ### a def held in a variable, one of two -/
def tGf (mg : Str → Option Value) (x : Str) : TE := fun _ H Q => ∀ f, mg x = some (.ref f) → Q (.ref f) H
def tCall2 (i : Nat) (mg : Str → Option Value) (x1 x2 : Str) (sp1 sp2 : Sp) (Ex : L2.St → XK) (t : TA) : TE := fun σ H Q => ∃ f, σ[i]? = some (some (.ref f)) ∧
  ((mg x1 = some (.ref f) ∧ t σ H fun vs H1 => sp1 vs H1 Q (Ex σ)) ∨ (mg x2 = some (.ref f) ∧ t σ H fun vs H1 => sp2 vs H1 Q (Ex σ)))
section
variable {X : Cx}
theorem pe_gfun {k : Nat} {x : Str} {ps : List Str} {sp : Sp} {pos : Pos} (C : ClX X.prog X.w X.K X.mg X.base k x ps sp) (hg : Gl X x) (hd : (x == ("__debug__" : Str)) = false := by decide) : PE X (.Name x pos) (tGf X.mg x) := by
  obtain ⟨f, fd, F, hk, hb, hm⟩ := C.ex
  exact ⟨fun pins s σ H Q I h => (pe_gref (pos := pos) hg hm hd).run pins s σ H Q I (h f hm)⟩
theorem pe_call2 {mg : Str → Option Value} {k1 k2 : Nat} {x1 x2 y : Str} {q1 q2 : List Str} {sp1 sp2 : Sp} {W : WX} {e : Expr} {es : List Expr} {t : TA} {p pos : Pos} (i : Nat) (C1 : ClX X.prog X.w X.K X.mg X.base k1 x1 q1 sp1) (C2 : ClX X.prog X.w X.K X.mg X.base k2 x2 q2 sp2) (r1 : Room k1 X.A) (r2 : Room k2 X.A)
    (tk : Takes X W) (ha : PA X (e :: es) t) (hmg : X.mg = mg := by rfl) (hN : X.N[i]? = some y := by rfl) (hv : Vis X.env.scope y := by first | exact Or.inl rfl | exact Or.inr (Or.inl rfl) | exact Or.inr (Or.inr rfl))
    (hdb : (y == ("__debug__" : Str)) = false := by decide) (hcd : (y == ("__classdict__" : Str)) = false := by decide)
    (he : starEach (e :: es) X.env = (false, eval e X.env) :: starEach es X.env := by rfl) (hpl : (backTo pos (starEach es X.env)).any (·.1) = false := by rfl) :
    PE X (.Call (.Name y p) (e :: es) [] pos) (tCall2 i mg x1 x2 sp1 sp2 (WE W) t) := by
  subst hmg
  obtain ⟨f1, d1, F1, hk1, hb1, hm1⟩ := C1.ex
  obtain ⟨f2, d2, F2, hk2, hb2, hm2⟩ := C2.ex
  refine ⟨fun pins s σ H Q I h => ?_⟩
  obtain ⟨f, hs, h⟩ := h
  refine wpAny_Call_Name_kw (thn ((pe_var (pos := p) hN hv hdb hcd).run pins s σ H (fun v H1 => v = .ref f ∧ H1 = H) I ⟨.ref f, hs, rfl, rfl⟩) fun u s1 ⟨v, H1, I1, rv, qv⟩ => ?_)
  obtain ⟨rfl, rfl⟩ := qv
  cases rv
  rcases h with ⟨m1, h⟩ | ⟨m2, h⟩
  · rw [hm1] at m1
    cases m1
    exact PySem.W.callWith_K (h₀ := X.base) I.ok.mod.kin hk1 (thn (ha.run pos pins s1 σ _ _ I1 h) fun us s2 ⟨vs, H2, I2, r, q⟩ => ⟨I2.kIn, run_fnS F1 r1 hb1 (passAt tk σ) I2 r q⟩) he hpl
  · rw [hm2] at m2
    cases m2
    exact PySem.W.callWith_K (h₀ := X.base) I.ok.mod.kin hk2 (thn (ha.run pos pins s1 σ _ _ I1 h) fun us s2 ⟨vs, H2, I2, r, q⟩ => ⟨I2.kIn, run_fnS F2 r2 hb2 (passAt tk σ) I2 r q⟩) he hpl
end

/-! ### the text -/
def topS (i : Nat) : Stmt := PySem.Challenge.pw_lanternrows_k59_asked_by_turns.main.body.getD i (.Pass ⟨0, 0, 0, 0⟩)
abbrev s_is_whole_from : Stmt := topS 20
theorem sc_is_whole_from : FnScope ["thing", "least"] ["thing", "least"] (defScope s_is_whole_from) := ⟨rfl, rfl, rfl, by decide +kernel, rfl, by decide +kernel, by decide +kernel⟩
abbrev s_is_whole : Stmt := topS 21
theorem sc_is_whole : FnScope ["thing", "least", "most"] ["thing", "least", "most"] (defScope s_is_whole) := ⟨rfl, rfl, rfl, by decide +kernel, rfl, by decide +kernel, by decide +kernel⟩
abbrev s_need_moment : Stmt := topS 22
theorem sc_need_moment : FnScope ["thing"] ["thing"] (defScope s_need_moment) := ⟨rfl, rfl, rfl, by decide +kernel, rfl, by decide +kernel, by decide +kernel⟩
abbrev s_need_number : Stmt := topS 23
theorem sc_need_number : FnScope ["thing", "least", "most"] ["thing", "least", "most"] (defScope s_need_number) := ⟨rfl, rfl, rfl, by decide +kernel, rfl, by decide +kernel, by decide +kernel⟩
abbrev s_need_at_most : Stmt := topS 24
theorem sc_need_at_most : FnScope ["many", "most"] ["many", "most"] (defScope s_need_at_most) := ⟨rfl, rfl, rfl, by decide +kernel, rfl, by decide +kernel, by decide +kernel⟩
abbrev s_is_tuple : Stmt := topS 33
theorem sc_is_tuple : FnScope ["thing", "least", "most"] ["thing", "least", "most"] (defScope s_is_tuple) := ⟨rfl, rfl, rfl, by decide +kernel, rfl, by decide +kernel, by decide +kernel⟩
abbrev s_is_drawing : Stmt := topS 34
theorem sc_is_drawing : FnScope ["thing"] ["thing"] (defScope s_is_drawing) := ⟨rfl, rfl, rfl, by decide +kernel, rfl, by decide +kernel, by decide +kernel⟩
abbrev s_is_hold : Stmt := topS 35
theorem sc_is_hold : FnScope ["thing"] ["thing"] (defScope s_is_hold) := ⟨rfl, rfl, rfl, by decide +kernel, rfl, by decide +kernel, by decide +kernel⟩
abbrev s_is_row : Stmt := topS 36
theorem sc_is_row : FnScope ["thing", "drawing", "hold"] ["thing"] (defScope s_is_row) := ⟨rfl, rfl, rfl, by decide +kernel, rfl, by decide +kernel, by decide +kernel⟩
abbrev s_is_layer : Stmt := topS 37
theorem sc_is_layer : FnScope ["thing", "rows", "back", "row"] ["thing"] (defScope s_is_layer) := ⟨rfl, rfl, rfl, by decide +kernel, rfl, by decide +kernel, by decide +kernel⟩
abbrev s_is_way : Stmt := topS 38
theorem sc_is_way : FnScope ["thing"] ["thing"] (defScope s_is_way) := ⟨rfl, rfl, rfl, by decide +kernel, rfl, by decide +kernel, by decide +kernel⟩
abbrev s_is_many : Stmt := topS 39
theorem sc_is_many : FnScope ["thing"] ["thing"] (defScope s_is_many) := ⟨rfl, rfl, rfl, by decide +kernel, rfl, by decide +kernel, by decide +kernel⟩
abbrev s_is_move : Stmt := topS 40
theorem sc_is_move : FnScope ["thing", "x", "y", "many"] ["thing"] (defScope s_is_move) := ⟨rfl, rfl, rfl, by decide +kernel, rfl, by decide +kernel, by decide +kernel⟩
abbrev s_is_window : Stmt := topS 41
theorem sc_is_window : FnScope ["thing", "x", "y", "moves", "move"] ["thing"] (defScope s_is_window) := ⟨rfl, rfl, rfl, by decide +kernel, rfl, by decide +kernel, by decide +kernel⟩
abbrev s_is_sheet : Stmt := topS 42
theorem sc_is_sheet : FnScope ["thing", "layers", "window", "layer"] ["thing"] (defScope s_is_sheet) := ⟨rfl, rfl, rfl, by decide +kernel, rfl, by decide +kernel, by decide +kernel⟩
abbrev s_need_layer : Stmt := topS 43
theorem sc_need_layer : FnScope ["thing"] ["thing"] (defScope s_need_layer) := ⟨rfl, rfl, rfl, by decide +kernel, rfl, by decide +kernel, by decide +kernel⟩
abbrev s_need_sheet : Stmt := topS 44
theorem sc_need_sheet : FnScope ["thing"] ["thing"] (defScope s_need_sheet) := ⟨rfl, rfl, rfl, by decide +kernel, rfl, by decide +kernel, by decide +kernel⟩
abbrev s_need_as_many_layers : Stmt := topS 45
theorem sc_need_as_many_layers : FnScope ["one", "other"] ["one", "other"] (defScope s_need_as_many_layers) := ⟨rfl, rfl, rfl, by decide +kernel, rfl, by decide +kernel, by decide +kernel⟩
abbrev s_need_length : Stmt := topS 46
theorem sc_need_length : FnScope ["length"] ["length"] (defScope s_need_length) := ⟨rfl, rfl, rfl, by decide +kernel, rfl, by decide +kernel, by decide +kernel⟩
abbrev s_held : Stmt := topS 47
theorem sc_held : FnScope ["rows", "drawing", "hold"] ["rows"] (defScope s_held) := ⟨rfl, rfl, rfl, by decide +kernel, rfl, by decide +kernel, by decide +kernel⟩
abbrev s_length_of : Stmt := topS 48
theorem sc_length_of : FnScope ["layer", "rows", "back"] ["layer"] (defScope s_length_of) := ⟨rfl, rfl, rfl, by decide +kernel, rfl, by decide +kernel, by decide +kernel⟩
abbrev s_moved : Stmt := topS 49
theorem sc_moved : FnScope ["window", "x", "y", "moves", "goal_x", "goal_y", "many"] ["window"] (defScope s_moved) := ⟨rfl, rfl, rfl, by decide +kernel, rfl, by decide +kernel, by decide +kernel⟩
abbrev s_full_length : Stmt := topS 50
theorem sc_full_length : FnScope ["sheet", "layers", "window", "lengths", "layer"] ["sheet"] (defScope s_full_length) := ⟨rfl, rfl, rfl, by decide +kernel, rfl, by decide +kernel, by decide +kernel⟩
abbrev s_first_time : Stmt := topS 53
theorem sc_first_time : FnScope ["rows", "back", "moment", "ahead", "around"] ["rows", "back", "moment"] (defScope s_first_time) := ⟨rfl, rfl, rfl, by decide +kernel, rfl, by decide +kernel, by decide +kernel⟩
abbrev s_drawing_of : Stmt := topS 54
theorem sc_drawing_of : FnScope ["layer", "moment", "rows", "back", "left", "drawing", "hold"] ["layer", "moment"] (defScope s_drawing_of) := ⟨rfl, rfl, rfl, by decide +kernel, rfl, by decide +kernel, by decide +kernel⟩
abbrev s_common_divisor : Stmt := topS 55
theorem sc_common_divisor : FnScope ["one", "other"] ["one", "other"] (defScope s_common_divisor) := ⟨rfl, rfl, rfl, by decide +kernel, rfl, by decide +kernel, by decide +kernel⟩
abbrev s_lowest : Stmt := topS 56
theorem sc_lowest : FnScope ["top", "bottom", "divisor"] ["top", "bottom"] (defScope s_lowest) := ⟨rfl, rfl, rfl, by decide +kernel, rfl, by decide +kernel, by decide +kernel⟩
abbrev s_on_the_way : Stmt := topS 57
theorem sc_on_the_way : FnScope ["start", "goal", "step", "many"] ["start", "goal", "step", "many"] (defScope s_on_the_way) := ⟨rfl, rfl, rfl, by decide +kernel, rfl, by decide +kernel, by decide +kernel⟩
abbrev s_place_of : Stmt := topS 58
theorem sc_place_of : FnScope ["window", "moment", "x", "y", "moves", "left", "goal_x", "goal_y", "many", "step"] ["window", "moment"] (defScope s_place_of) := ⟨rfl, rfl, rfl, by decide +kernel, rfl, by decide +kernel, by decide +kernel⟩
abbrev s_picture_of : Stmt := topS 59
theorem sc_picture_of : FnScope ["sheet", "moment", "layers", "window", "drawings", "layer"] ["sheet", "moment"] (defScope s_picture_of) := ⟨rfl, rfl, rfl, by decide +kernel, rfl, by decide +kernel, by decide +kernel⟩
abbrev s_pictures_of : Stmt := topS 60
theorem sc_pictures_of : FnScope ["sheet", "moment", "many", "ahead"] ["sheet", "moment", "many"] (defScope s_pictures_of) := ⟨rfl, rfl, rfl, by decide +kernel, rfl, by decide +kernel, by decide +kernel⟩
abbrev s_pictures_from : Stmt := topS 61
theorem sc_pictures_from : FnScope ["sheet", "moment", "many"] ["sheet", "moment", "many"] (defScope s_pictures_from) := ⟨rfl, rfl, rfl, by decide +kernel, rfl, by decide +kernel, by decide +kernel⟩
abbrev s_plates : Stmt := topS 63
theorem sc_plates : FnScope ["sheet", "many"] ["sheet", "many"] (defScope s_plates) := ⟨rfl, rfl, rfl, by decide +kernel, rfl, by decide +kernel, by decide +kernel⟩
abbrev s_need_pair : Stmt := topS 64
theorem sc_need_pair : FnScope ["one", "other", "many"] ["one", "other", "many"] (defScope s_need_pair) := ⟨rfl, rfl, rfl, by decide +kernel, rfl, by decide +kernel, by decide +kernel⟩
abbrev s_least_paper : Stmt := topS 65
theorem sc_least_paper : FnScope ["one", "other", "many", "first_moments", "moment", "picture", "made", "paper"] ["one", "other", "many"] (defScope s_least_paper) := ⟨rfl, rfl, rfl, by decide +kernel, rfl, by decide +kernel, by decide +kernel⟩
abbrev s_filling : Stmt := topS 67
theorem sc_filling : FnScope ["many", "most", "full", "rest"] ["many", "most"] (defScope s_filling) := ⟨rfl, rfl, rfl, by decide +kernel, rfl, by decide +kernel, by decide +kernel⟩
abbrev s_rows_for : Stmt := topS 68
theorem sc_rows_for : FnScope ["rows", "length", "hold"] ["rows", "length"] (defScope s_rows_for) := ⟨rfl, rfl, rfl, by decide +kernel, rfl, by decide +kernel, by decide +kernel⟩
abbrev s_layer_behind : Stmt := topS 69
theorem sc_layer_behind : FnScope ["one", "other", "length", "rows", "back", "ahead"] ["one", "other", "length"] (defScope s_layer_behind) := ⟨rfl, rfl, rfl, by decide +kernel, rfl, by decide +kernel, by decide +kernel⟩
abbrev s_moves_for : Stmt := topS 70
theorem sc_moves_for : FnScope ["window", "length", "x", "y", "moves", "many"] ["window", "length"] (defScope s_moves_for) := ⟨rfl, rfl, rfl, by decide +kernel, rfl, by decide +kernel, by decide +kernel⟩
abbrev s_window_behind : Stmt := topS 71
theorem sc_window_behind : FnScope ["one", "other", "length", "x", "y", "moves"] ["one", "other", "length"] (defScope s_window_behind) := ⟨rfl, rfl, rfl, by decide +kernel, rfl, by decide +kernel, by decide +kernel⟩
abbrev s_behind : Stmt := topS 72
theorem sc_behind : FnScope ["one", "other", "length", "layers", "window", "rows", "back", "first", "second"] ["one", "other"] (defScope s_behind) := ⟨rfl, rfl, rfl, by decide +kernel, rfl, by decide +kernel, by decide +kernel⟩
abbrev s_beside : Stmt := topS 73
theorem sc_beside : FnScope ["one", "other", "layers"] ["one", "other"] (defScope s_beside) := ⟨rfl, rfl, rfl, by decide +kernel, rfl, by decide +kernel, by decide +kernel⟩
abbrev s_writes_number : Stmt := topS 76
theorem sc_writes_number : FnScope ["word", "figures"] ["word"] (defScope s_writes_number) := ⟨rfl, rfl, rfl, by decide +kernel, rfl, by decide +kernel, by decide +kernel⟩
abbrev s_number_in : Stmt := topS 77
theorem sc_number_in : FnScope ["word"] ["word"] (defScope s_number_in) := ⟨rfl, rfl, rfl, by decide +kernel, rfl, by decide +kernel, by decide +kernel⟩
abbrev s_numbers_in : Stmt := topS 78
theorem sc_numbers_in : FnScope ["word", "between", "part"] ["word", "between"] (defScope s_numbers_in) := ⟨rfl, rfl, rfl, by decide +kernel, rfl, by decide +kernel, by decide +kernel⟩
abbrev s_move_text : Stmt := topS 79
theorem sc_move_text : FnScope ["move", "number"] ["move"] (defScope s_move_text) := ⟨rfl, rfl, rfl, by decide +kernel, rfl, by decide +kernel, by decide +kernel⟩
abbrev s_row_text : Stmt := topS 80
theorem sc_row_text : FnScope ["row", "number"] ["row"] (defScope s_row_text) := ⟨rfl, rfl, rfl, by decide +kernel, rfl, by decide +kernel, by decide +kernel⟩
abbrev s_window_text : Stmt := topS 81
theorem sc_window_text : FnScope ["window", "x", "y", "moves", "move"] ["window"] (defScope s_window_text) := ⟨rfl, rfl, rfl, by decide +kernel, rfl, by decide +kernel, by decide +kernel⟩
abbrev s_layer_text : Stmt := topS 82
theorem sc_layer_text : FnScope ["layer", "rows", "back", "row"] ["layer"] (defScope s_layer_text) := ⟨rfl, rfl, rfl, by decide +kernel, rfl, by decide +kernel, by decide +kernel⟩
abbrev s_text_of : Stmt := topS 83
theorem sc_text_of : FnScope ["sheet", "layers", "window", "lines", "layer", "line"] ["sheet"] (defScope s_text_of) := ⟨rfl, rfl, rfl, by decide +kernel, rfl, by decide +kernel, by decide +kernel⟩
abbrev s_sheet_text : Stmt := topS 84
theorem sc_sheet_text : FnScope ["sheet"] ["sheet"] (defScope s_sheet_text) := ⟨rfl, rfl, rfl, by decide +kernel, rfl, by decide +kernel, by decide +kernel⟩
abbrev s_window_in : Stmt := topS 85
theorem sc_window_in : FnScope ["line", "words", "moves", "word"] ["line"] (defScope s_window_in) := ⟨rfl, rfl, rfl, by decide +kernel, rfl, by decide +kernel, by decide +kernel⟩
abbrev s_layer_in : Stmt := topS 86
theorem sc_layer_in : FnScope ["line", "words", "rows", "word"] ["line"] (defScope s_layer_in) := ⟨rfl, rfl, rfl, by decide +kernel, rfl, by decide +kernel, by decide +kernel⟩
abbrev s_sheet_in : Stmt := topS 87
theorem sc_sheet_in : FnScope ["text", "lines", "line"] ["text"] (defScope s_sheet_in) := ⟨rfl, rfl, rfl, by decide +kernel, rfl, by decide +kernel, by decide +kernel⟩
abbrev s_read_sheet : Stmt := topS 88
theorem sc_read_sheet : FnScope ["text", "sheet"] ["text"] (defScope s_read_sheet) := ⟨rfl, rfl, rfl, by decide +kernel, rfl, by decide +kernel, by decide +kernel⟩
abbrev s_need_time : Stmt := topS 90
theorem sc_need_time : FnScope ["length", "many"] ["length", "many"] (defScope s_need_time) := ⟨rfl, rfl, rfl, by decide +kernel, rfl, by decide +kernel, by decide +kernel⟩
abbrev s_need_fitting : Stmt := topS 91
theorem sc_need_fitting : FnScope ["layers", "moves", "holds", "rows", "back", "drawing", "hold", "x", "y", "pictures"] ["layers", "moves"] (defScope s_need_fitting) := ⟨rfl, rfl, rfl, by decide +kernel, rfl, by decide +kernel, by decide +kernel⟩
abbrev s_even_holds : Stmt := topS 92
theorem sc_even_holds : FnScope ["parts", "many", "at"] ["parts", "many"] (defScope s_even_holds) := ⟨rfl, rfl, rfl, by decide +kernel, rfl, by decide +kernel, by decide +kernel⟩
abbrev s_scaled : Stmt := topS 93
theorem sc_scaled : FnScope ["numbers", "length", "many", "told", "end", "last", "number", "new"] ["numbers", "length", "many"] (defScope s_scaled) := ⟨rfl, rfl, rfl, by decide +kernel, rfl, by decide +kernel, by decide +kernel⟩
abbrev s_layer_with : Stmt := topS 94
theorem sc_layer_with : FnScope ["layer", "holds", "rows", "back", "drawing", "hold"] ["layer", "holds"] (defScope s_layer_with) := ⟨rfl, rfl, rfl, by decide +kernel, rfl, by decide +kernel, by decide +kernel⟩
abbrev s_scaled_layer : Stmt := topS 95
theorem sc_scaled_layer : FnScope ["layer", "length", "many", "drawing", "hold"] ["layer", "length", "many"] (defScope s_scaled_layer) := ⟨rfl, rfl, rfl, by decide +kernel, rfl, by decide +kernel, by decide +kernel⟩
abbrev s_scaled_window : Stmt := topS 96
theorem sc_scaled_window : FnScope ["window", "length", "many", "x", "y", "moves", "numbers", "new", "goal_x", "goal_y", "pictures", "number"] ["window", "length", "many"] (defScope s_scaled_window) := ⟨rfl, rfl, rfl, by decide +kernel, rfl, by decide +kernel, by decide +kernel⟩
abbrev s_evened : Stmt := topS 97
theorem sc_evened : FnScope ["layer", "many", "told"] ["layer", "many"] (defScope s_evened) := ⟨rfl, rfl, rfl, by decide +kernel, rfl, by decide +kernel, by decide +kernel⟩
abbrev s_retimed : Stmt := topS 98
theorem sc_retimed : FnScope ["layer", "many", "length", "told"] ["layer", "many"] (defScope s_retimed) := ⟨rfl, rfl, rfl, by decide +kernel, rfl, by decide +kernel, by decide +kernel⟩
abbrev s_sheet_retimed : Stmt := topS 99
theorem sc_sheet_retimed : FnScope ["sheet", "many", "length", "layers", "window", "layer"] ["sheet", "many"] (defScope s_sheet_retimed) := ⟨rfl, rfl, rfl, by decide +kernel, rfl, by decide +kernel, by decide +kernel⟩
abbrev s__law_cell_at : Stmt := topS 101
theorem sc__law_cell_at : FnScope ["_law_script", "_law_k"] ["_law_script", "_law_k"] (defScope s__law_cell_at) := ⟨rfl, rfl, rfl, by decide +kernel, rfl, by decide +kernel, by decide +kernel⟩
abbrev s__law_state : Stmt := topS 102
theorem sc__law_state : FnScope ["_law_script", "_law_k", "_law_cell"] ["_law_script", "_law_k"] (defScope s__law_state) := ⟨rfl, rfl, rfl, by decide +kernel, rfl, by decide +kernel, by decide +kernel⟩
abbrev s__law_take : Stmt := topS 103
theorem sc__law_take : FnScope ["_law_state_here", "_law_many", "_law_found", "_law_mixed"] ["_law_state_here", "_law_many"] (defScope s__law_take) := ⟨rfl, rfl, rfl, by decide +kernel, rfl, by decide +kernel, by decide +kernel⟩
abbrev s__law_row : Stmt := topS 104
theorem sc__law_row : FnScope ["_law_state_here", "_law_drawing_here"] ["_law_state_here"] (defScope s__law_row) := ⟨rfl, rfl, rfl, by decide +kernel, rfl, by decide +kernel, by decide +kernel⟩
abbrev s__law_layer : Stmt := topS 105
theorem sc__law_layer : FnScope ["_law_state_here", "_law_most", "_law_ended", "_law_rows", "_law_way", "_law_back", "_law_turn"] ["_law_state_here", "_law_most", "_law_ended"] (defScope s__law_layer) := ⟨rfl, rfl, rfl, by decide +kernel, rfl, by decide +kernel, by decide +kernel⟩
abbrev s__law_window : Stmt := topS 106
theorem sc__law_window : FnScope ["_law_state_here", "_law_most", "_law_moves", "_law_turn", "_law_many"] ["_law_state_here", "_law_most"] (defScope s__law_window) := ⟨rfl, rfl, rfl, by decide +kernel, rfl, by decide +kernel, by decide +kernel⟩
abbrev s__law_sheet : Stmt := topS 107
theorem sc__law_sheet : FnScope ["_law_state_here", "_law_layers", "_law_most", "_law_ended", "_law_turn"] ["_law_state_here", "_law_layers", "_law_most", "_law_ended"] (defScope s__law_sheet) := ⟨rfl, rfl, rfl, by decide +kernel, rfl, by decide +kernel, by decide +kernel⟩
abbrev s__law_length : Stmt := topS 108
theorem sc__law_length : FnScope ["_law_rows", "_law_drawing_here", "_law_hold"] ["_law_rows"] (defScope s__law_length) := ⟨rfl, rfl, rfl, by decide +kernel, rfl, by decide +kernel, by decide +kernel⟩
abbrev s__law_drawing : Stmt := topS 109
theorem sc__law_drawing : FnScope ["_law_layer_here", "_law_moment", "_law_rows", "_law_back", "_law_row_here", "_law_drawing_here", "_law_hold", "_law_ahead"] ["_law_layer_here", "_law_moment"] (defScope s__law_drawing) := ⟨rfl, rfl, rfl, by decide +kernel, rfl, by decide +kernel, by decide +kernel⟩
abbrev s__law_fraction : Stmt := topS 110
theorem sc__law_fraction : FnScope ["_law_top", "_law_bottom", "_law_one", "_law_other"] ["_law_top", "_law_bottom"] (defScope s__law_fraction) := ⟨rfl, rfl, rfl, by decide +kernel, rfl, by decide +kernel, by decide +kernel⟩
abbrev s__law_stands : Stmt := topS 111
theorem sc__law_stands : FnScope ["_law_window_here", "_law_moment", "_law_x", "_law_y", "_law_left", "_law_goal", "_law_level", "_law_many", "_law_step", "_law_across"] ["_law_window_here", "_law_moment"] (defScope s__law_stands) := ⟨rfl, rfl, rfl, by decide +kernel, rfl, by decide +kernel, by decide +kernel⟩
abbrev s__law_picture : Stmt := topS 112
theorem sc__law_picture : FnScope ["_law_sheet_here", "_law_moment", "_law_drawn", "_law_layer_here"] ["_law_sheet_here", "_law_moment"] (defScope s__law_picture) := ⟨rfl, rfl, rfl, by decide +kernel, rfl, by decide +kernel, by decide +kernel⟩
abbrev s__law_classes : Stmt := topS 113
theorem sc__law_classes : FnScope ["_law_e", "_law_found"] ["_law_e"] (defScope s__law_classes) := ⟨rfl, rfl, rfl, by decide +kernel, rfl, by decide +kernel, by decide +kernel⟩
abbrev s__law_met : Stmt := topS 114
theorem sc__law_met : FnScope ["_law_call", "_law_e", "_law_some"] ["_law_call"] (defScope s__law_met) := ⟨rfl, rfl, rfl, by decide +kernel, rfl, by decide +kernel, by decide +kernel⟩
abbrev s__law_marked : Stmt := topS 115
theorem sc__law_marked : FnScope ["_law_told", "_law_k", "_law_one"] ["_law_told"] (defScope s__law_marked) := ⟨rfl, rfl, rfl, by decide +kernel, rfl, by decide +kernel, by decide +kernel⟩
abbrev s__law_round : Stmt := topS 116
theorem sc__law_round : FnScope ["_law_sheets", "_law_layers", "_law_many", "_law_lists", "_law_found", "_law_one", "_law_other", "_law_call", "_law_layer_here", "_law_sheet_here"] ["_law_sheets", "_law_layers", "_law_many"] (defScope s__law_round) := ⟨rfl, rfl, rfl, by decide +kernel, rfl, by decide +kernel, by decide +kernel⟩
abbrev s_law : Stmt := topS 117
theorem sc_law : FnScope ["_law_script", "_law_state_here", "_law_count", "_law_sheets", "_law_layers", "_law_many", "_law_kept", "_law_sheet_here", "_law_one", "_law_shown", "_law_two", "_law_turn", "_law_moment"] ["_law_script"] (defScope s_law) := ⟨rfl, rfl, rfl, by decide +kernel, rfl, by decide +kernel, by decide +kernel⟩
abbrev s_TooMany_init : Stmt := clsB (topS 16) 0
theorem sc_TooMany_init : FnScope ["self", "many", "most"] ["self", "many", "most"] (defScope s_TooMany_init) := ⟨rfl, rfl, rfl, by decide +kernel, rfl, by decide +kernel, by decide +kernel⟩
abbrev s_Leaned_init : Stmt := clsB (topS 17) 0
theorem sc_Leaned_init : FnScope ["self", "numbers"] ["self", "numbers"] (defScope s_Leaned_init) := ⟨rfl, rfl, rfl, by decide +kernel, rfl, by decide +kernel, by decide +kernel⟩
structure Txt (K : PySem.W.Frag) (mg : Str → Option Value) : Prop where
  b_ValueError : mg "ValueError" = none
  b_len : mg "len" = none
  b_isinstance : mg "isinstance" = none
  b_max : mg "max" = none
  b_sum : mg "sum" = none
  b_all : mg "all" = none
  b_any : mg "any" = none
  b_tuple : mg "tuple" = none
  b_abs : mg "abs" = none
  b_range : mg "range" = none
  b_zip : mg "zip" = none
  b_enumerate : mg "enumerate" = none
  b_bool : mg "bool" = none
  b_int : mg "int" = none
  b_repr : mg "repr" = none
  b_sorted : mg "sorted" = none
  b_divmod : mg "divmod" = none
  b_set : mg "set" = none
  b_str : mg "str" = none
  c_LAST_MOMENT : ∃ t, mg "LAST_MOMENT" = some (Value.int 1000000000 t)
  c_MOST_DRAWING : ∃ t, mg "MOST_DRAWING" = some (Value.int 9 t)
  c_MOST_HOLD : ∃ t, mg "MOST_HOLD" = some (Value.int 24 t)
  c_MOST_ROWS : ∃ t, mg "MOST_ROWS" = some (Value.int 8 t)
  c_MOST_WAY : ∃ t, mg "MOST_WAY" = some (Value.int 20 t)
  c_MOST_MANY : ∃ t, mg "MOST_MANY" = some (Value.int 24 t)
  c_MOST_MOVES : ∃ t, mg "MOST_MOVES" = some (Value.int 8 t)
  c_MOST_LAYERS : ∃ t, mg "MOST_LAYERS" = some (Value.int 4 t)
  c_MOST_PICTURES : ∃ t, mg "MOST_PICTURES" = some (Value.int 200 t)
  c_MOST_FIGURES : ∃ t, mg "MOST_FIGURES" = some (Value.int 30 t)

/-! ### a written dict of text keys: what is no key of it; tuples of texts -/
theorem dicN {K : PySem.W.Frag} {w : World} {a : Addr} {ks : List Str} (h : He.dicW K a = some (He.keysIn w.params ks)) {z : Str} (hz : z ∉ ks) : PySem.W.nsIn K a z = some none := by
  unfold He.dicW at h
  unfold PySem.W.nsIn
  split at h
  · rename_i c es n sl q
    rw [q]
    split at h
    · have e := Option.some.inj h
      have all : ∀ (l : List DictEntry) (ks : List Str), l.map He.keyOf = He.keysIn w.params ks → z ∉ ks → l.find? (fun e => e.key.isStr z) = none ∧ l.any (fun e => e.refKey) = false := by
        intro l
        induction l with
        | nil => exact fun _ _ _ => ⟨rfl, rfl⟩
        | cons d r ih =>
          intro ks e hz
          cases ks with
          | nil => cases e
          | cons k ks =>
            have h1 : He.keyOf d :: r.map He.keyOf = some (k, PyData.keyHash w.params k) :: He.keysIn w.params ks := e
            injection h1 with h2 h3
            obtain ⟨i1, i2⟩ := ih ks h3 (fun m => hz (List.mem_cons_of_mem _ m))
            unfold He.keyOf at h2
            split at h2
            · rename_i x t q2
              have h5 : x = k := (Prod.mk.inj (Option.some.inj h2)).1
              have nk : (x == z) = false := beq_eq_false_iff_ne.mpr fun e => hz (e ▸ h5 ▸ List.mem_cons_self ..)
              have e3 : d.key.isStr z = false := by rw [q2]; exact nk
              have e4 : d.refKey = false := by
                unfold DictEntry.refKey
                rw [q2]
              rw [List.find?_cons, List.any_cons]
              exact ⟨by rw [e3]; exact i1, by rw [e4, i2]; rfl⟩
            · cases h2
      obtain ⟨a1, a2⟩ := all _ _ e hz
      show (match es.toList.find? (fun e => e.key.isStr z) with
        | some e => some (some e.val)
        | none => if es.toList.any (fun e => e.refKey) then none else some none) = some none
      rw [a1, a2]
      rfl
    · cases h
  · cases h
def strO : Value → Option Str
  | .str x _ => some x
  | _ => none
def tupW (K : PySem.W.Frag) (t : Addr) : Option (List (Option Str)) := match K.lookup t with
  | some ⟨.type c, _, .seq its _, _⟩ => (match decide (c = "tuple") with
    | true => some (its.toList.map strO)
    | false => none)
  | _ => none
theorem tupW_ok {K : PySem.W.Frag} {t : Addr} {ps : List Str} (h : tupW K t = some (ps.map some)) (hl : ps.length ≤ 1000) (H : Hp) : SqT K H t (ps.map V.str) := by
  unfold tupW at h
  split at h
  · rename_i c dd its n sl q
    split at h
    · rename_i hc
      have e := Option.some.inj h
      have vals : ∀ (l : List Value) (ps : List Str), l.map strO = ps.map some → Vals (ps.map V.str) l := by
        intro l
        induction l with
        | nil => intro ps e; cases ps with
          | nil => exact .nil
          | cons _ _ => cases e
        | cons d r ih => intro ps e; cases ps with
          | nil => cases e
          | cons p ps =>
            injection e with e1 e2
            refine .cons ?_ (ih ps e2)
            cases d <;> first | cases e1 | skip
            rename_i tk
            exact ⟨tk, rfl⟩
      have v := vals _ _ e
      refine .inr ⟨_, its, n, q, ?_, rfl, ?_, v⟩
      · show Value.type c = _
        rw [of_decide_eq_true hc]
      · have e5 : its.toList.length = ps.length := by
          have := congrArg List.length e
          simpa using this
        rw [← Array.length_toList, e5]
        exact Nat.le_trans hl (by decide)
    · cases h
  · cases h

/-! ### facts of the head: a def's lookup, an error class with an own __init__, what a name of a dict stands for -/
def nsR (K : PySem.W.Frag) (a : Addr) (x : Str) : Addr := match PySem.W.nsIn K a x with
  | some (some (.ref b)) => b
  | _ => 0
def tkR (K : PySem.W.Frag) (a : Addr) (x : Str) : Tok := match PySem.W.nsIn K a x with
  | some (some (.int _ t)) => t
  | some (some (.str _ t)) => t
  | _ => 0
theorem tabW {fa : List He.Fa} {fn : List He.DefD} {ts : List He.Tab} {w : World} {K : PySem.W.Frag} (c : He.SaysT fa fn ts w K) (i : Nat) {t : He.Tab} (h : ts[i]? = some t) : He.dicW K (t.1 K) = some (He.keysIn w.params t.2) := by
  have both := congrArg (fun z : He.AlT => z.2[i]?) c
  have both : (ts.map fun t => He.dicW K (t.1 K))[i]? = (ts.map fun t => some (He.keysIn w.params t.2))[i]? := both
  simp only [List.getElem?_map, h, Option.map_some, Option.some.injEq] at both
  exact both
theorem fnl {fa : List He.Fa} {fn : List He.DefD} {K : PySem.W.Frag} (c : He.SaysD fa fn K) (i : Nat) {at_ : Str × Option Str} {x q : Str} {ps : Arguments} {b : List Stmt} {sc : Scope} (h : fn[i]? = some ⟨at_, x, q, ps, b, sc, [], []⟩) :
    ∃ oc od sl kV dc pm an cd ct, K.lookup (He.fAd K at_) = some ⟨oc, od, .func (PySem.W.fnOf x q ps b sc .none kV dc pm an cd ct), sl⟩ ∧ PySem.W.codeIn K cd q = true ∧ PySem.W.keepIn K (.ref (He.fAd K at_)) = true := by
  obtain ⟨fd, F⟩ := c.def_ i h
  obtain ⟨oc, od, dV, kV, dc, pm, an, cd, ct, sl, rfl, lk, hc, dv, _⟩ := F.ex
  rcases dv with ⟨_, rfl⟩ | ⟨no, _⟩
  · exact ⟨oc, od, sl, kV, dc, pm, an, cd, ct, lk, hc, F.kp⟩
  · exact absurd rfl no
theorem fnlC {fa : List He.Fa} {fn : List He.DefD} {K : PySem.W.Frag} (c : He.SaysD fa fn K) (i : Nat) {at_ : Str × Option Str} {x q : Str} {ps : Arguments} {b : List Stmt} {sc : Scope} (h : fn[i]? = some ⟨at_, x, q, ps, b, sc, [], []⟩) :
    ∃ oc od sl kV dc pm an ct, K.lookup (He.fAd K at_) = some ⟨oc, od, .func (PySem.W.fnOf x q ps b sc .none kV dc pm an (.ref (He.cT K at_).1) ct), sl⟩ ∧ PySem.W.codeIn K (.ref (He.cT K at_).1) q = true ∧ PySem.W.keepIn K (.ref (He.fAd K at_)) = true := by
  obtain ⟨oc, od, sl, kV, dc, pm, an, cd, ct, lk, hc, kp⟩ := fnl c i h
  obtain ⟨cc, rfl⟩ := He.codeIn_ref hc
  have e : (He.cT K at_).1 = cc := He.codeOf_eq lk rfl
  rw [e]
  exact ⟨oc, od, sl, kV, dc, pm, an, ct, lk, hc, kp⟩
def oexB (K : PySem.W.Frag) (C : Addr) : Bool := match K.lookup C with
  | some ⟨.type c, _, .cls cd, sl⟩ => decide (c = "type") && match cd.mro, sl.toList with
    | .ref D :: up, [_, _, _, _, some (.builtin n), _] => decide (D = C) && (decide (n = "ValueError.__new__") && (cd.hasDict && (!cd.hasDel && PySem.HandSPX.refsVE up)))
    | _, _ => false
  | _ => false
theorem oexB_ok {K : PySem.W.Frag} {C : Addr} (h : oexB K C = true) : ∃ nm qn N bs bm sn su ab co dd m0 m1 m2 m3 m5, K.lookup C = some (excClassObj nm qn C N bs bm true sn su ab co dd m0 m1 m2 m3 m5 "ValueError.__new__") ∧ PySem.HandSPX.refsVE bm = true := by
  unfold oexB at h
  split at h
  · next c dd cd sl lk =>
    rw [Bool.and_eq_true, decide_eq_true_eq] at h
    obtain ⟨ht, h⟩ := h
    split at h
    · next D up m0 m1 m2 m3 n m5 e1 e2 =>
      simp only [Bool.and_eq_true, decide_eq_true_eq, Bool.not_eq_true'] at h
      obtain ⟨hD, hn, hh, hd, hr⟩ := h
      obtain ⟨nm, bs, mro, ns, qn, hasD, sn, su, ab, co, del⟩ := cd
      obtain ⟨sl⟩ := sl
      cases e1; cases e2; cases hh; cases hd; cases hD; cases hn; cases ht
      exact ⟨nm, qn, ns, bs, up, sn, su, ab, co, dd, m0, m1, m2, m3, m5, lk, hr⟩
    · cases h
  · cases h

/-! ### a hook that looks at what the top made -/
/-- the module's names and so many objects from the lo-th on -/
def asO (lo cnt : Nat) : List Addr := mainGlobals :: (List.range cnt).map fun i => lo + i
def kO (lo cnt : Nat) (g : Addr → Option Obj) : PySem.W.Frag := He.frT g (asO lo cnt)
def seeO (lo cnt : Nat) (fn : List He.DefD) (ts : List He.Tab) (tf : List He.Defn) (ex : PySem.W.Frag → Bool) (g : Addr → Option Obj) : He.AlX :=
  (He.obsT [] fn ts (kO lo cnt g), ex (kO lo cnt g) && He.tabsB g tf (kO lo cnt g))
theorem seeO_says {lo cnt : Nat} {fn : List He.DefD} {ts : List He.Tab} {tf : List He.Defn} {ex : PySem.W.Frag → Bool} {w : World} {h : Heap} (e : seeO lo cnt fn ts tf ex h.get? = He.valX fn ts w) : He.SaysX [] fn ts tf ex w h (kO lo cnt h.get?) := by
  unfold seeO He.valX at e
  rw [Prod.mk.injEq, Bool.and_eq_true] at e
  obtain ⟨told, other, tabs⟩ := e
  have one : ∀ p, p ∈ tf → PySem.W.codeHdIn (kO lo cnt h.get?) (He.cT (kO lo cnt h.get?) p).1 (He.cT (kO lo cnt h.get?) p).2 = true ∧ ∃ o, h.get? (He.cT (kO lo cnt h.get?) p).2 = some o ∧ He.emptyTab o = true := by
    intro p m
    have both := List.all_eq_true.mp tabs p m
    rw [Bool.and_eq_true] at both
    refine ⟨both.1, ?_⟩
    have right := both.2
    split at right
    · next o eo => exact ⟨o, eo, right⟩
    · cases right
  refine ⟨told, other, fun p m => (one p m).1, fun p m => ?_, fun p m => ?_⟩
  · obtain ⟨_, o, eo, empty⟩ := one p m
    exact He.frT_none eo empty
  · obtain ⟨_, o, eo, empty⟩ := one p m
    exact eo.trans (congrArg some (He.emptyTab_eq empty))
def hookO (lo cnt : Nat) (fn : List He.DefD) (ts : List He.Tab) (tf : List He.Defn) (ex : PySem.W.Frag → Bool) : PySem.W.Hook where
  α := He.AlX
  val := fun w => He.valX fn ts w
  obs := fun s => seeO lo cnt fn ts tf ex s.heap.get?
  says := fun w h => ∃ K : PySem.W.Frag, K.In h ∧ He.SaysX [] fn ts tf ex w h K
  of := fun w s e => ⟨kO lo cnt s.heap.get?, He.frT_in, seeO_says e⟩
  keeps := by
    rintro w h h' ⟨K, inn, says⟩ kept
    exact ⟨K, PySem.W.Frag.In.keeps inn kept, says.t, says.more, says.hd, says.out, fun p m => kept _ _ (says.empty p m)⟩
theorem seeO_eq {lo cnt : Nat} {fn : List He.DefD} {ts : List He.Tab} {tf : List He.Defn} {ex : PySem.W.Frag → Bool} {g : Addr → Option Obj} {s : Shared} (h : ∀ a, g a = s.heap.get? a) : seeO lo cnt fn ts tf ex g = (hookO lo cnt fn ts tf ex).obs s := by
  cases (funext h : g = s.heap.get?)
  rfl

/-! ### the head, by facts -/
def hd0 : List He.DefD := [⟨("_law_met", none), "_law_met", "_law_met", defArgs s__law_met, defBody s__law_met, defScope s__law_met, [], []⟩, ⟨("_law_classes", none), "_law_classes", "_law_classes", defArgs s__law_classes, defBody s__law_classes, defScope s__law_classes, [], []⟩, ⟨("is_whole_from", none), "is_whole_from", "is_whole_from", defArgs s_is_whole_from, defBody s_is_whole_from, defScope s_is_whole_from, [], []⟩, ⟨("is_whole", none), "is_whole", "is_whole", defArgs s_is_whole, defBody s_is_whole, defScope s_is_whole, [], []⟩, ⟨("need_moment", none), "need_moment", "need_moment", defArgs s_need_moment, defBody s_need_moment, defScope s_need_moment, [], []⟩, ⟨("need_number", none), "need_number", "need_number", defArgs s_need_number, defBody s_need_number, defScope s_need_number, [], []⟩, ⟨("need_at_most", none), "need_at_most", "need_at_most", defArgs s_need_at_most, defBody s_need_at_most, defScope s_need_at_most, [], []⟩, ⟨("is_tuple", none), "is_tuple", "is_tuple", defArgs s_is_tuple, defBody s_is_tuple, defScope s_is_tuple, [], []⟩, ⟨("is_drawing", none), "is_drawing", "is_drawing", defArgs s_is_drawing, defBody s_is_drawing, defScope s_is_drawing, [], []⟩, ⟨("is_hold", none), "is_hold", "is_hold", defArgs s_is_hold, defBody s_is_hold, defScope s_is_hold, [], []⟩, ⟨("is_row", none), "is_row", "is_row", defArgs s_is_row, defBody s_is_row, defScope s_is_row, [], []⟩, ⟨("is_layer", none), "is_layer", "is_layer", defArgs s_is_layer, defBody s_is_layer, defScope s_is_layer, [], []⟩]
def hd1 : List He.DefD := [⟨("is_way", none), "is_way", "is_way", defArgs s_is_way, defBody s_is_way, defScope s_is_way, [], []⟩, ⟨("is_many", none), "is_many", "is_many", defArgs s_is_many, defBody s_is_many, defScope s_is_many, [], []⟩, ⟨("is_move", none), "is_move", "is_move", defArgs s_is_move, defBody s_is_move, defScope s_is_move, [], []⟩, ⟨("is_window", none), "is_window", "is_window", defArgs s_is_window, defBody s_is_window, defScope s_is_window, [], []⟩, ⟨("is_sheet", none), "is_sheet", "is_sheet", defArgs s_is_sheet, defBody s_is_sheet, defScope s_is_sheet, [], []⟩, ⟨("need_layer", none), "need_layer", "need_layer", defArgs s_need_layer, defBody s_need_layer, defScope s_need_layer, [], []⟩, ⟨("need_sheet", none), "need_sheet", "need_sheet", defArgs s_need_sheet, defBody s_need_sheet, defScope s_need_sheet, [], []⟩, ⟨("need_as_many_layers", none), "need_as_many_layers", "need_as_many_layers", defArgs s_need_as_many_layers, defBody s_need_as_many_layers, defScope s_need_as_many_layers, [], []⟩, ⟨("need_length", none), "need_length", "need_length", defArgs s_need_length, defBody s_need_length, defScope s_need_length, [], []⟩, ⟨("held", none), "held", "held", defArgs s_held, defBody s_held, defScope s_held, [], []⟩, ⟨("length_of", none), "length_of", "length_of", defArgs s_length_of, defBody s_length_of, defScope s_length_of, [], []⟩, ⟨("moved", none), "moved", "moved", defArgs s_moved, defBody s_moved, defScope s_moved, [], []⟩]
def hd2 : List He.DefD := [⟨("full_length", none), "full_length", "full_length", defArgs s_full_length, defBody s_full_length, defScope s_full_length, [], []⟩, ⟨("first_time", none), "first_time", "first_time", defArgs s_first_time, defBody s_first_time, defScope s_first_time, [], []⟩, ⟨("drawing_of", none), "drawing_of", "drawing_of", defArgs s_drawing_of, defBody s_drawing_of, defScope s_drawing_of, [], []⟩, ⟨("common_divisor", none), "common_divisor", "common_divisor", defArgs s_common_divisor, defBody s_common_divisor, defScope s_common_divisor, [], []⟩, ⟨("lowest", none), "lowest", "lowest", defArgs s_lowest, defBody s_lowest, defScope s_lowest, [], []⟩, ⟨("on_the_way", none), "on_the_way", "on_the_way", defArgs s_on_the_way, defBody s_on_the_way, defScope s_on_the_way, [], []⟩, ⟨("place_of", none), "place_of", "place_of", defArgs s_place_of, defBody s_place_of, defScope s_place_of, [], []⟩, ⟨("picture_of", none), "picture_of", "picture_of", defArgs s_picture_of, defBody s_picture_of, defScope s_picture_of, [], []⟩, ⟨("pictures_of", none), "pictures_of", "pictures_of", defArgs s_pictures_of, defBody s_pictures_of, defScope s_pictures_of, [], []⟩, ⟨("pictures_from", none), "pictures_from", "pictures_from", defArgs s_pictures_from, defBody s_pictures_from, defScope s_pictures_from, [], []⟩, ⟨("plates", none), "plates", "plates", defArgs s_plates, defBody s_plates, defScope s_plates, [], []⟩, ⟨("need_pair", none), "need_pair", "need_pair", defArgs s_need_pair, defBody s_need_pair, defScope s_need_pair, [], []⟩]
def hd3 : List He.DefD := [⟨("least_paper", none), "least_paper", "least_paper", defArgs s_least_paper, defBody s_least_paper, defScope s_least_paper, [], []⟩, ⟨("filling", none), "filling", "filling", defArgs s_filling, defBody s_filling, defScope s_filling, [], []⟩, ⟨("rows_for", none), "rows_for", "rows_for", defArgs s_rows_for, defBody s_rows_for, defScope s_rows_for, [], []⟩, ⟨("layer_behind", none), "layer_behind", "layer_behind", defArgs s_layer_behind, defBody s_layer_behind, defScope s_layer_behind, [], []⟩, ⟨("moves_for", none), "moves_for", "moves_for", defArgs s_moves_for, defBody s_moves_for, defScope s_moves_for, [], []⟩, ⟨("window_behind", none), "window_behind", "window_behind", defArgs s_window_behind, defBody s_window_behind, defScope s_window_behind, [], []⟩, ⟨("behind", none), "behind", "behind", defArgs s_behind, defBody s_behind, defScope s_behind, [], []⟩, ⟨("beside", none), "beside", "beside", defArgs s_beside, defBody s_beside, defScope s_beside, [], []⟩, ⟨("writes_number", none), "writes_number", "writes_number", defArgs s_writes_number, defBody s_writes_number, defScope s_writes_number, [], []⟩, ⟨("number_in", none), "number_in", "number_in", defArgs s_number_in, defBody s_number_in, defScope s_number_in, [], []⟩, ⟨("numbers_in", none), "numbers_in", "numbers_in", defArgs s_numbers_in, defBody s_numbers_in, defScope s_numbers_in, [], []⟩, ⟨("move_text", none), "move_text", "move_text", defArgs s_move_text, defBody s_move_text, defScope s_move_text, [], []⟩]
def hd4 : List He.DefD := [⟨("row_text", none), "row_text", "row_text", defArgs s_row_text, defBody s_row_text, defScope s_row_text, [], []⟩, ⟨("window_text", none), "window_text", "window_text", defArgs s_window_text, defBody s_window_text, defScope s_window_text, [], []⟩, ⟨("layer_text", none), "layer_text", "layer_text", defArgs s_layer_text, defBody s_layer_text, defScope s_layer_text, [], []⟩, ⟨("text_of", none), "text_of", "text_of", defArgs s_text_of, defBody s_text_of, defScope s_text_of, [], []⟩, ⟨("sheet_text", none), "sheet_text", "sheet_text", defArgs s_sheet_text, defBody s_sheet_text, defScope s_sheet_text, [], []⟩, ⟨("window_in", none), "window_in", "window_in", defArgs s_window_in, defBody s_window_in, defScope s_window_in, [], []⟩, ⟨("layer_in", none), "layer_in", "layer_in", defArgs s_layer_in, defBody s_layer_in, defScope s_layer_in, [], []⟩, ⟨("sheet_in", none), "sheet_in", "sheet_in", defArgs s_sheet_in, defBody s_sheet_in, defScope s_sheet_in, [], []⟩, ⟨("read_sheet", none), "read_sheet", "read_sheet", defArgs s_read_sheet, defBody s_read_sheet, defScope s_read_sheet, [], []⟩, ⟨("need_time", none), "need_time", "need_time", defArgs s_need_time, defBody s_need_time, defScope s_need_time, [], []⟩, ⟨("need_fitting", none), "need_fitting", "need_fitting", defArgs s_need_fitting, defBody s_need_fitting, defScope s_need_fitting, [], []⟩, ⟨("even_holds", none), "even_holds", "even_holds", defArgs s_even_holds, defBody s_even_holds, defScope s_even_holds, [], []⟩]
def hd5 : List He.DefD := [⟨("scaled", none), "scaled", "scaled", defArgs s_scaled, defBody s_scaled, defScope s_scaled, [], []⟩, ⟨("layer_with", none), "layer_with", "layer_with", defArgs s_layer_with, defBody s_layer_with, defScope s_layer_with, [], []⟩, ⟨("scaled_layer", none), "scaled_layer", "scaled_layer", defArgs s_scaled_layer, defBody s_scaled_layer, defScope s_scaled_layer, [], []⟩, ⟨("scaled_window", none), "scaled_window", "scaled_window", defArgs s_scaled_window, defBody s_scaled_window, defScope s_scaled_window, [], []⟩, ⟨("evened", none), "evened", "evened", defArgs s_evened, defBody s_evened, defScope s_evened, [], []⟩, ⟨("retimed", none), "retimed", "retimed", defArgs s_retimed, defBody s_retimed, defScope s_retimed, [], []⟩, ⟨("sheet_retimed", none), "sheet_retimed", "sheet_retimed", defArgs s_sheet_retimed, defBody s_sheet_retimed, defScope s_sheet_retimed, [], []⟩, ⟨("_law_cell_at", none), "_law_cell_at", "_law_cell_at", defArgs s__law_cell_at, defBody s__law_cell_at, defScope s__law_cell_at, [], []⟩, ⟨("_law_state", none), "_law_state", "_law_state", defArgs s__law_state, defBody s__law_state, defScope s__law_state, [], []⟩, ⟨("_law_take", none), "_law_take", "_law_take", defArgs s__law_take, defBody s__law_take, defScope s__law_take, [], []⟩, ⟨("_law_row", none), "_law_row", "_law_row", defArgs s__law_row, defBody s__law_row, defScope s__law_row, [], []⟩, ⟨("_law_layer", none), "_law_layer", "_law_layer", defArgs s__law_layer, defBody s__law_layer, defScope s__law_layer, [], []⟩]
def hd6 : List He.DefD := [⟨("_law_window", none), "_law_window", "_law_window", defArgs s__law_window, defBody s__law_window, defScope s__law_window, [], []⟩, ⟨("_law_sheet", none), "_law_sheet", "_law_sheet", defArgs s__law_sheet, defBody s__law_sheet, defScope s__law_sheet, [], []⟩, ⟨("_law_length", none), "_law_length", "_law_length", defArgs s__law_length, defBody s__law_length, defScope s__law_length, [], []⟩, ⟨("_law_drawing", none), "_law_drawing", "_law_drawing", defArgs s__law_drawing, defBody s__law_drawing, defScope s__law_drawing, [], []⟩, ⟨("_law_fraction", none), "_law_fraction", "_law_fraction", defArgs s__law_fraction, defBody s__law_fraction, defScope s__law_fraction, [], []⟩, ⟨("_law_stands", none), "_law_stands", "_law_stands", defArgs s__law_stands, defBody s__law_stands, defScope s__law_stands, [], []⟩, ⟨("_law_picture", none), "_law_picture", "_law_picture", defArgs s__law_picture, defBody s__law_picture, defScope s__law_picture, [], []⟩, ⟨("_law_marked", none), "_law_marked", "_law_marked", defArgs s__law_marked, defBody s__law_marked, defScope s__law_marked, [], []⟩, ⟨("_law_round", none), "_law_round", "_law_round", defArgs s__law_round, defBody s__law_round, defScope s__law_round, [], []⟩, ⟨("law", none), "law", "law", defArgs s_law, defBody s_law, defScope s_law, [], []⟩, ⟨("TooMany", some "__init__"), "__init__", "TooMany.__init__", defArgs s_TooMany_init, defBody s_TooMany_init, defScope s_TooMany_init, [], []⟩]
def hg0 : List He.DefD := hd0 ++ hd1 ++ hd2 ++ hd3
def hg1 : List He.DefD := hd4 ++ hd5 ++ hd6
def hfn : List He.DefD := hg0 ++ (hg1)
def hts : List He.Tab := []
def htf : List He.Defn := [("_law_round", none)]
def hz0 (K : PySem.W.Frag) : List Bool := [
  decide (PySem.W.nsIn K mainGlobals "_law_met" = some (some (.ref (He.fAd K ("_law_met", none))))),
  decide (PySem.W.nsIn K mainGlobals "_law_classes" = some (some (.ref (He.fAd K ("_law_classes", none))))),
  decide (PySem.W.nsIn K mainGlobals "is_whole_from" = some (some (.ref (He.fAd K ("is_whole_from", none))))),
  decide (PySem.W.nsIn K mainGlobals "is_whole" = some (some (.ref (He.fAd K ("is_whole", none))))),
  decide (PySem.W.nsIn K mainGlobals "need_moment" = some (some (.ref (He.fAd K ("need_moment", none))))),
  decide (PySem.W.nsIn K mainGlobals "need_number" = some (some (.ref (He.fAd K ("need_number", none))))),
  decide (PySem.W.nsIn K mainGlobals "need_at_most" = some (some (.ref (He.fAd K ("need_at_most", none))))),
  decide (PySem.W.nsIn K mainGlobals "is_tuple" = some (some (.ref (He.fAd K ("is_tuple", none))))),
  decide (PySem.W.nsIn K mainGlobals "is_drawing" = some (some (.ref (He.fAd K ("is_drawing", none))))),
  decide (PySem.W.nsIn K mainGlobals "is_hold" = some (some (.ref (He.fAd K ("is_hold", none))))),
  decide (PySem.W.nsIn K mainGlobals "is_row" = some (some (.ref (He.fAd K ("is_row", none))))),
  decide (PySem.W.nsIn K mainGlobals "is_layer" = some (some (.ref (He.fAd K ("is_layer", none))))),
  decide (PySem.W.nsIn K mainGlobals "is_way" = some (some (.ref (He.fAd K ("is_way", none))))),
  decide (PySem.W.nsIn K mainGlobals "is_many" = some (some (.ref (He.fAd K ("is_many", none))))),
  decide (PySem.W.nsIn K mainGlobals "is_move" = some (some (.ref (He.fAd K ("is_move", none))))),
  decide (PySem.W.nsIn K mainGlobals "is_window" = some (some (.ref (He.fAd K ("is_window", none))))),
  decide (PySem.W.nsIn K mainGlobals "is_sheet" = some (some (.ref (He.fAd K ("is_sheet", none))))),
  decide (PySem.W.nsIn K mainGlobals "need_layer" = some (some (.ref (He.fAd K ("need_layer", none))))),
  decide (PySem.W.nsIn K mainGlobals "need_sheet" = some (some (.ref (He.fAd K ("need_sheet", none))))),
  decide (PySem.W.nsIn K mainGlobals "need_as_many_layers" = some (some (.ref (He.fAd K ("need_as_many_layers", none)))))]
def hz1 (K : PySem.W.Frag) : List Bool := [
  decide (PySem.W.nsIn K mainGlobals "need_length" = some (some (.ref (He.fAd K ("need_length", none))))),
  decide (PySem.W.nsIn K mainGlobals "held" = some (some (.ref (He.fAd K ("held", none))))),
  decide (PySem.W.nsIn K mainGlobals "length_of" = some (some (.ref (He.fAd K ("length_of", none))))),
  decide (PySem.W.nsIn K mainGlobals "moved" = some (some (.ref (He.fAd K ("moved", none))))),
  decide (PySem.W.nsIn K mainGlobals "full_length" = some (some (.ref (He.fAd K ("full_length", none))))),
  decide (PySem.W.nsIn K mainGlobals "first_time" = some (some (.ref (He.fAd K ("first_time", none))))),
  decide (PySem.W.nsIn K mainGlobals "drawing_of" = some (some (.ref (He.fAd K ("drawing_of", none))))),
  decide (PySem.W.nsIn K mainGlobals "common_divisor" = some (some (.ref (He.fAd K ("common_divisor", none))))),
  decide (PySem.W.nsIn K mainGlobals "lowest" = some (some (.ref (He.fAd K ("lowest", none))))),
  decide (PySem.W.nsIn K mainGlobals "on_the_way" = some (some (.ref (He.fAd K ("on_the_way", none))))),
  decide (PySem.W.nsIn K mainGlobals "place_of" = some (some (.ref (He.fAd K ("place_of", none))))),
  decide (PySem.W.nsIn K mainGlobals "picture_of" = some (some (.ref (He.fAd K ("picture_of", none))))),
  decide (PySem.W.nsIn K mainGlobals "pictures_of" = some (some (.ref (He.fAd K ("pictures_of", none))))),
  decide (PySem.W.nsIn K mainGlobals "pictures_from" = some (some (.ref (He.fAd K ("pictures_from", none))))),
  decide (PySem.W.nsIn K mainGlobals "plates" = some (some (.ref (He.fAd K ("plates", none))))),
  decide (PySem.W.nsIn K mainGlobals "need_pair" = some (some (.ref (He.fAd K ("need_pair", none))))),
  decide (PySem.W.nsIn K mainGlobals "least_paper" = some (some (.ref (He.fAd K ("least_paper", none))))),
  decide (PySem.W.nsIn K mainGlobals "filling" = some (some (.ref (He.fAd K ("filling", none))))),
  decide (PySem.W.nsIn K mainGlobals "rows_for" = some (some (.ref (He.fAd K ("rows_for", none))))),
  decide (PySem.W.nsIn K mainGlobals "layer_behind" = some (some (.ref (He.fAd K ("layer_behind", none)))))]
def hz2 (K : PySem.W.Frag) : List Bool := [
  decide (PySem.W.nsIn K mainGlobals "moves_for" = some (some (.ref (He.fAd K ("moves_for", none))))),
  decide (PySem.W.nsIn K mainGlobals "window_behind" = some (some (.ref (He.fAd K ("window_behind", none))))),
  decide (PySem.W.nsIn K mainGlobals "behind" = some (some (.ref (He.fAd K ("behind", none))))),
  decide (PySem.W.nsIn K mainGlobals "beside" = some (some (.ref (He.fAd K ("beside", none))))),
  decide (PySem.W.nsIn K mainGlobals "writes_number" = some (some (.ref (He.fAd K ("writes_number", none))))),
  decide (PySem.W.nsIn K mainGlobals "number_in" = some (some (.ref (He.fAd K ("number_in", none))))),
  decide (PySem.W.nsIn K mainGlobals "numbers_in" = some (some (.ref (He.fAd K ("numbers_in", none))))),
  decide (PySem.W.nsIn K mainGlobals "move_text" = some (some (.ref (He.fAd K ("move_text", none))))),
  decide (PySem.W.nsIn K mainGlobals "row_text" = some (some (.ref (He.fAd K ("row_text", none))))),
  decide (PySem.W.nsIn K mainGlobals "window_text" = some (some (.ref (He.fAd K ("window_text", none))))),
  decide (PySem.W.nsIn K mainGlobals "layer_text" = some (some (.ref (He.fAd K ("layer_text", none))))),
  decide (PySem.W.nsIn K mainGlobals "text_of" = some (some (.ref (He.fAd K ("text_of", none))))),
  decide (PySem.W.nsIn K mainGlobals "sheet_text" = some (some (.ref (He.fAd K ("sheet_text", none))))),
  decide (PySem.W.nsIn K mainGlobals "window_in" = some (some (.ref (He.fAd K ("window_in", none))))),
  decide (PySem.W.nsIn K mainGlobals "layer_in" = some (some (.ref (He.fAd K ("layer_in", none))))),
  decide (PySem.W.nsIn K mainGlobals "sheet_in" = some (some (.ref (He.fAd K ("sheet_in", none))))),
  decide (PySem.W.nsIn K mainGlobals "read_sheet" = some (some (.ref (He.fAd K ("read_sheet", none))))),
  decide (PySem.W.nsIn K mainGlobals "need_time" = some (some (.ref (He.fAd K ("need_time", none))))),
  decide (PySem.W.nsIn K mainGlobals "need_fitting" = some (some (.ref (He.fAd K ("need_fitting", none))))),
  decide (PySem.W.nsIn K mainGlobals "even_holds" = some (some (.ref (He.fAd K ("even_holds", none)))))]
def hz3 (K : PySem.W.Frag) : List Bool := [
  decide (PySem.W.nsIn K mainGlobals "scaled" = some (some (.ref (He.fAd K ("scaled", none))))),
  decide (PySem.W.nsIn K mainGlobals "layer_with" = some (some (.ref (He.fAd K ("layer_with", none))))),
  decide (PySem.W.nsIn K mainGlobals "scaled_layer" = some (some (.ref (He.fAd K ("scaled_layer", none))))),
  decide (PySem.W.nsIn K mainGlobals "scaled_window" = some (some (.ref (He.fAd K ("scaled_window", none))))),
  decide (PySem.W.nsIn K mainGlobals "evened" = some (some (.ref (He.fAd K ("evened", none))))),
  decide (PySem.W.nsIn K mainGlobals "retimed" = some (some (.ref (He.fAd K ("retimed", none))))),
  decide (PySem.W.nsIn K mainGlobals "sheet_retimed" = some (some (.ref (He.fAd K ("sheet_retimed", none))))),
  decide (PySem.W.nsIn K mainGlobals "_law_cell_at" = some (some (.ref (He.fAd K ("_law_cell_at", none))))),
  decide (PySem.W.nsIn K mainGlobals "_law_state" = some (some (.ref (He.fAd K ("_law_state", none))))),
  decide (PySem.W.nsIn K mainGlobals "_law_take" = some (some (.ref (He.fAd K ("_law_take", none))))),
  decide (PySem.W.nsIn K mainGlobals "_law_row" = some (some (.ref (He.fAd K ("_law_row", none))))),
  decide (PySem.W.nsIn K mainGlobals "_law_layer" = some (some (.ref (He.fAd K ("_law_layer", none))))),
  decide (PySem.W.nsIn K mainGlobals "_law_window" = some (some (.ref (He.fAd K ("_law_window", none))))),
  decide (PySem.W.nsIn K mainGlobals "_law_sheet" = some (some (.ref (He.fAd K ("_law_sheet", none))))),
  decide (PySem.W.nsIn K mainGlobals "_law_length" = some (some (.ref (He.fAd K ("_law_length", none))))),
  decide (PySem.W.nsIn K mainGlobals "_law_drawing" = some (some (.ref (He.fAd K ("_law_drawing", none))))),
  decide (PySem.W.nsIn K mainGlobals "_law_fraction" = some (some (.ref (He.fAd K ("_law_fraction", none))))),
  decide (PySem.W.nsIn K mainGlobals "_law_stands" = some (some (.ref (He.fAd K ("_law_stands", none))))),
  decide (PySem.W.nsIn K mainGlobals "_law_picture" = some (some (.ref (He.fAd K ("_law_picture", none))))),
  decide (PySem.W.nsIn K mainGlobals "_law_marked" = some (some (.ref (He.fAd K ("_law_marked", none)))))]
def hz4 (K : PySem.W.Frag) : List Bool := [
  decide (PySem.W.nsIn K mainGlobals "_law_round" = some (some (.ref (He.fAd K ("_law_round", none))))),
  decide (PySem.W.nsIn K mainGlobals "law" = some (some (.ref (He.fAd K ("law", none))))),
  decide (PySem.W.nsIn K mainGlobals "ValueError" = some none),
  decide (PySem.W.nsIn K mainGlobals "len" = some none),
  decide (PySem.W.nsIn K mainGlobals "isinstance" = some none),
  decide (PySem.W.nsIn K mainGlobals "max" = some none),
  decide (PySem.W.nsIn K mainGlobals "sum" = some none),
  decide (PySem.W.nsIn K mainGlobals "all" = some none),
  decide (PySem.W.nsIn K mainGlobals "any" = some none),
  decide (PySem.W.nsIn K mainGlobals "tuple" = some none),
  decide (PySem.W.nsIn K mainGlobals "abs" = some none),
  decide (PySem.W.nsIn K mainGlobals "range" = some none),
  decide (PySem.W.nsIn K mainGlobals "zip" = some none),
  decide (PySem.W.nsIn K mainGlobals "enumerate" = some none),
  decide (PySem.W.nsIn K mainGlobals "bool" = some none),
  decide (PySem.W.nsIn K mainGlobals "int" = some none),
  decide (PySem.W.nsIn K mainGlobals "repr" = some none),
  decide (PySem.W.nsIn K mainGlobals "sorted" = some none),
  decide (PySem.W.nsIn K mainGlobals "divmod" = some none),
  decide (PySem.W.nsIn K mainGlobals "set" = some none)]
def hz5 (K : PySem.W.Frag) : List Bool := [
  decide (PySem.W.nsIn K mainGlobals "str" = some none),
  decide (PySem.W.nsIn K mainGlobals "LAST_MOMENT" = some (some (.int 1000000000 (tkR K mainGlobals "LAST_MOMENT")))),
  decide (PySem.W.nsIn K mainGlobals "MOST_DRAWING" = some (some (.int 9 (tkR K mainGlobals "MOST_DRAWING")))),
  decide (PySem.W.nsIn K mainGlobals "MOST_HOLD" = some (some (.int 24 (tkR K mainGlobals "MOST_HOLD")))),
  decide (PySem.W.nsIn K mainGlobals "MOST_ROWS" = some (some (.int 8 (tkR K mainGlobals "MOST_ROWS")))),
  decide (PySem.W.nsIn K mainGlobals "MOST_WAY" = some (some (.int 20 (tkR K mainGlobals "MOST_WAY")))),
  decide (PySem.W.nsIn K mainGlobals "MOST_MANY" = some (some (.int 24 (tkR K mainGlobals "MOST_MANY")))),
  decide (PySem.W.nsIn K mainGlobals "MOST_MOVES" = some (some (.int 8 (tkR K mainGlobals "MOST_MOVES")))),
  decide (PySem.W.nsIn K mainGlobals "MOST_LAYERS" = some (some (.int 4 (tkR K mainGlobals "MOST_LAYERS")))),
  decide (PySem.W.nsIn K mainGlobals "MOST_PICTURES" = some (some (.int 200 (tkR K mainGlobals "MOST_PICTURES")))),
  decide (PySem.W.nsIn K mainGlobals "MOST_FIGURES" = some (some (.int 30 (tkR K mainGlobals "MOST_FIGURES")))),
  decide (PySem.W.nsIn K mainGlobals "NoLayer" = some (some (.ref (He.ga K "NoLayer")))),
  decide (PySem.W.nsIn K mainGlobals "NoWindow" = some (some (.ref (He.ga K "NoWindow")))),
  decide (PySem.W.nsIn K mainGlobals "NoSheet" = some (some (.ref (He.ga K "NoSheet")))),
  decide (PySem.W.nsIn K mainGlobals "NoMoment" = some (some (.ref (He.ga K "NoMoment")))),
  decide (PySem.W.nsIn K mainGlobals "NoRow" = some (some (.ref (He.ga K "NoRow")))),
  decide (PySem.W.nsIn K mainGlobals "NoNumber" = some (some (.ref (He.ga K "NoNumber")))),
  decide (PySem.W.nsIn K mainGlobals "NoDrawings" = some (some (.ref (He.ga K "NoDrawings")))),
  decide (PySem.W.nsIn K mainGlobals "Unlike" = some (some (.ref (He.ga K "Unlike")))),
  decide (PySem.W.nsIn K mainGlobals "Endless" = some (some (.ref (He.ga K "Endless"))))]
def hz6 (K : PySem.W.Frag) : List Bool := [
  decide (PySem.W.nsIn K mainGlobals "Squeezed" = some (some (.ref (He.ga K "Squeezed")))),
  decide (PySem.W.nsIn K mainGlobals "NoPaper" = some (some (.ref (He.ga K "NoPaper")))),
  decide (PySem.W.nsIn K mainGlobals "NoDeed" = some (some (.ref (He.ga K "NoDeed")))),
  decide (PySem.W.nsIn K mainGlobals "NoText" = some (some (.ref (He.ga K "NoText")))),
  decide (PySem.W.nsIn K mainGlobals "NoWords" = some (some (.ref (He.ga K "NoWords")))),
  decide (PySem.W.nsIn K mainGlobals "TooMany" = some (some (.ref (He.ga K "TooMany")))),
  decide (PySem.W.nsIn K mainGlobals "Leaned" = some (some (.ref (He.ga K "Leaned")))),
  decide (PySem.W.nsIn K mainGlobals "LanternError" = some (some (.ref (He.ga K "LanternError")))),
  excTB K (fun i => [He.ga K "NoLayer", He.ga K "NoWindow", He.ga K "NoSheet", He.ga K "NoMoment", He.ga K "NoRow", He.ga K "NoNumber", He.ga K "NoDrawings", He.ga K "Unlike", He.ga K "Endless", He.ga K "Squeezed", He.ga K "NoPaper", He.ga K "NoDeed", He.ga K "NoText", He.ga K "NoWords", He.ga K "TooMany", He.ga K "Leaned"].getD i 0) (He.ga K "LanternError"),
  decide (PySem.W.findIn K (.ref (He.ga K "TooMany")) "many" = some none),
  decide (PySem.W.findIn K (.ref (He.ga K "TooMany")) "most" = some none),
  decide (PySem.W.findIn K (.ref (He.ga K "Leaned")) "numbers" = some none),
  oexB K (He.ga K "TooMany"),
  decide (PySem.W.findIn K (.ref (He.ga K "TooMany")) "__setattr__" = some (some (.builtin "object.__setattr__"))),
  decide (PySem.W.findIn K (.ref (He.ga K "TooMany")) "__init__" = some (some (.ref (He.fAd K ("TooMany", some "__init__"))))),
  decide (PySem.W.typeIn K (.ref (He.fAd K ("TooMany", some "__init__"))) = some (.type "function"))]
def hy0 (K : PySem.W.Frag) : List Bool := hz0 K ++ (hz1 K ++ (hz2 K ++ (hz3 K ++ (hz4 K ++ (hz5 K ++ (hz6 K))))))
def hzs (K : PySem.W.Frag) : List Bool := hy0 K
def hex (K : PySem.W.Frag) : Bool := (hzs K).all id
def hl0 : List Str := ["LanternError", "NoLayer", "NoWindow", "NoSheet", "NoMoment", "NoRow", "NoNumber", "NoDrawings", "Unlike", "Endless", "Squeezed", "NoPaper", "NoDeed", "NoText", "NoWords", "TooMany", "Leaned", "LAST_MOMENT", "is_whole_from", "is_whole", "need_moment", "need_number", "need_at_most", "MOST_DRAWING", "MOST_HOLD", "MOST_ROWS", "MOST_WAY", "MOST_MANY", "MOST_MOVES", "MOST_LAYERS"]
def hl1 : List Str := ["is_tuple", "is_drawing", "is_hold", "is_row", "is_layer", "is_way", "is_many", "is_move", "is_window", "is_sheet", "need_layer", "need_sheet", "need_as_many_layers", "need_length", "held", "length_of", "moved", "full_length", "MOST_PICTURES", "first_time", "drawing_of", "common_divisor", "lowest", "on_the_way", "place_of", "picture_of", "pictures_of", "pictures_from", "plates", "need_pair"]
def hl2 : List Str := ["least_paper", "filling", "rows_for", "layer_behind", "moves_for", "window_behind", "behind", "beside", "MOST_FIGURES", "writes_number", "number_in", "numbers_in", "move_text", "row_text", "window_text", "layer_text", "text_of", "sheet_text", "window_in", "layer_in", "sheet_in", "read_sheet", "need_time", "need_fitting", "even_holds", "scaled", "layer_with", "scaled_layer", "scaled_window", "evened"]
def hl3 : List Str := ["retimed", "sheet_retimed", "_law_cell_at", "_law_state", "_law_take", "_law_row", "_law_layer", "_law_window", "_law_sheet", "_law_length", "_law_drawing", "_law_fraction", "_law_stands", "_law_picture", "_law_classes", "_law_met", "_law_marked", "_law_round"]
def hlo : List Str := hl0 ++ (hl1 ++ (hl2 ++ (hl3)))
abbrev hR : PySem.W.OpenRow := PySem.W.OpenLaw.row PySem.Challenge.rw_lanternrows_k59_asked_by_turns
abbrev hqv : Program := PySem.W.view hR.prog [117]
abbrev hk : PySem.W.Hook := hookO 11 800 hfn hts htf hex
def hob (s : PySem.W.SharedT) : He.AlX := seeO 11 800 hfn hts htf hex (HandSHeadRun.getT s)
theorem hob_eq (s : PySem.W.SharedT) : hob s = hk.obs s.abs := seeO_eq (HandSHeadRun.getT_eq s)
/-! ### the top's run, looked at part by part: each look is a run of its own, so that none has to hold all -/
def hK (s : PySem.W.SharedT) : PySem.W.Frag := kO 11 800 (HandSHeadRun.getT s)
noncomputable def htop (w : World) (os : OsState) : Option PySem.W.SharedT := HandSHeadRun.endF (HandSHeadRun.stepQ (HandSHeadRun.denQ HandSHeadRun.tabQ) hR.prog w) 20000 hR.prog w os
/-- behind the top, F is v -/
def Tops {α : Type} (F : PySem.W.SharedT → α) (v : α) (w : World) (os : OsState) : Prop := (htop w os).map F = some v
def is_see (w : World) (os : OsState) : Prop := Tops (fun s => (HandSHeadRun.looksF hR.prog (PySem.W.boot_heap w.params) s.abs, HandSHeadRun.seenQ hqv hlo (PySem.importedModules hR.prog.main.body) (fun s => PySem.W.xlAt hqv [] s && PySem.W.recOk hR.toRowW.records s) s.abs)) (true, PySem.W.openGood hqv hlo) w os
def is_fn0 (w : World) (os : OsState) : Prop := Tops (fun s => He.obsD [] hg0 (hK s)) (He.valD hg0) w os
def is_fn1 (w : World) (os : OsState) : Prop := Tops (fun s => (He.obsD [] hg1 (hK s), hts.map fun t => He.dicW (hK s) (t.1 (hK s)))) (He.valD hg1, hts.map fun t => some (He.keysIn w.params t.2)) w os
def is_ex0 (w : World) (os : OsState) : Prop := Tops (fun s => (hy0 (hK s)).all id && He.tabsB (HandSHeadRun.getT s) htf (hK s)) true w os
set_option maxHeartbeats 0 in
theorem top_see0 (w : World) (os : OsState) : is_see (w.withFollow "special-get-raises" false) os := by
  unfold is_see Tops htop; kernel_rfl
set_option maxHeartbeats 0 in
theorem top_see1 (w : World) (os : OsState) : is_see (w.withFollow "special-get-raises" true) os := by
  unfold is_see Tops htop; kernel_rfl
set_option maxHeartbeats 0 in
theorem top_fn00 (w : World) (os : OsState) : is_fn0 (w.withFollow "special-get-raises" false) os := by
  unfold is_fn0 Tops htop; kernel_rfl
set_option maxHeartbeats 0 in
theorem top_fn01 (w : World) (os : OsState) : is_fn0 (w.withFollow "special-get-raises" true) os := by
  unfold is_fn0 Tops htop; kernel_rfl
set_option maxHeartbeats 0 in
theorem top_fn10 (w : World) (os : OsState) : is_fn1 (w.withFollow "special-get-raises" false) os := by
  unfold is_fn1 Tops htop; kernel_rfl
set_option maxHeartbeats 0 in
theorem top_fn11 (w : World) (os : OsState) : is_fn1 (w.withFollow "special-get-raises" true) os := by
  unfold is_fn1 Tops htop; kernel_rfl
set_option maxHeartbeats 0 in
theorem top_ex00 (w : World) (os : OsState) : is_ex0 (w.withFollow "special-get-raises" false) os := by
  unfold is_ex0 Tops htop; kernel_rfl
set_option maxHeartbeats 0 in
theorem top_ex01 (w : World) (os : OsState) : is_ex0 (w.withFollow "special-get-raises" true) os := by
  unfold is_ex0 Tops htop; kernel_rfl
theorem obsD_app {a b : List He.DefD} {K : PySem.W.Frag} (x : He.obsD [] a K = He.valD a) (y : He.obsD [] b K = He.valD b) : He.obsD [] (a ++ b) K = He.valD (a ++ b) := by
  unfold He.obsD He.valD at *
  rw [Prod.mk.injEq, List.all_nil, Bool.true_and] at *
  rw [List.all_append, List.map_append, List.map_append, x.1, y.1, x.2, y.2]
  exact ⟨rfl, rfl⟩
theorem tops_all {w : World} {os : OsState} (z_see : is_see w os) (z_fn0 : is_fn0 w os) (z_fn1 : is_fn1 w os) (z_ex0 : is_ex0 w os) : (htop w os).map (fun s =>
    (HandSHeadRun.looksF hR.prog (PySem.W.boot_heap w.params) s.abs, HandSHeadRun.seenQ hqv hlo (PySem.importedModules hR.prog.main.body) (fun s => PySem.W.xlAt hqv [] s && PySem.W.recOk hR.toRowW.records s) s.abs, hob s)) = some (true, PySem.W.openGood hqv hlo, hk.val w) := by
  obtain ⟨s, es, both⟩ := Option.map_eq_some_iff.mp z_see
  have on : ∀ {α : Type} {F : PySem.W.SharedT → α} {v : α}, Tops F v w os → F s = v := fun {α F v} z => by
    have z : (htop w os).map F = some v := z
    rw [es] at z
    exact Option.some.inj z
  obtain ⟨looks, seen⟩ := Prod.mk.inj both
  have pair := on z_fn1
  obtain ⟨d1, tabs⟩ := Prod.mk.inj pair
  have d0 := on z_fn0
  have last := on z_ex0
  rw [Bool.and_eq_true] at last
  have x0 : (hy0 (hK s)).all id = true := last.1
  have defs : He.obsD [] hfn (hK s) = He.valD hfn := (obsD_app d0 d1)
  have facts : hex (hK s) = true := by
    show (hy0 (hK s)).all id = true
    simp only [List.all_append, x0, Bool.and_self]
  have whole : hob s = hk.val w := Prod.ext (Prod.ext defs tabs) (Bool.and_eq_true_iff.mpr ⟨facts, last.2⟩)
  rw [es]
  exact congrArg some (Prod.ext looks (Prod.ext seen whole))
theorem hrun (w : World) : HandSHeadRun.RunEq hR hqv hk hob 20000 hlo w :=
  PySem.W.byRow2 "special-get-raises" (P := fun w => HandSHeadRun.RunEq hR hqv hk hob 20000 hlo w) (fun w os => tops_all (top_see0 w os) (top_fn00 w os) (top_fn10 w os) (top_ex00 w os)) (fun w os => tops_all (top_see1 w os) (top_fn01 w os) (top_fn11 w os) (top_ex01 w os)) w

section
variable {P : Program} {w : World} {K : PySem.W.Frag} {mg : Str → Option Value} {base : Heap}
theorem ok__law_classes {f : Addr} {fd : FuncData} {c : Nat → Addr} {LE : Addr} (F : Fun K "_law_classes" "_law_classes" s__law_classes f fd) (T : Txt K mg) (TX : ExcN K mg c LE) : FnE P w K mg base 1 f fd ["_law_e"] (spCls c) := by
  refine fun_okE F sc__law_classes (fun a cls d vs H Q E h => ?_) (fun cdv A outer s H vs Q E a oe cls d hz hfs hr h => ?_)
  · obtain ⟨i, _, rfl, _⟩ := h
    rfl
  · obtain ⟨i, hi, rfl, rfl, hx, q⟩ := h
    refine ⟨_, (pss_cons (ps_set (i := 1) sc__law_classes.nd rfl (Or.inl rfl) (pe_lst (pa_cons (pe_callB (call_isQ TX.toExcT List.mem_cons_self hz hfs) (by rfl) T.b_isinstance (by decide +kernel) (pa_cons (pv 0) (pa_cons (pe_gref (by rfl) (TX.g 0 "NoLayer" rfl)) pa_nil))) (pa_cons (pe_callB (call_isQ TX.toExcT List.mem_cons_self hz hfs) (by rfl) T.b_isinstance (by decide +kernel) (pa_cons (pv 0) (pa_cons (pe_gref (by rfl) (TX.g 1 "NoWindow" rfl)) pa_nil))) (pa_cons (pe_callB (call_isQ TX.toExcT List.mem_cons_self hz hfs) (by rfl) T.b_isinstance (by decide +kernel) (pa_cons (pv 0) (pa_cons (pe_gref (by rfl) (TX.g 2 "NoSheet" rfl)) pa_nil))) (pa_cons (pe_callB (call_isQ TX.toExcT List.mem_cons_self hz hfs) (by rfl) T.b_isinstance (by decide +kernel) (pa_cons (pv 0) (pa_cons (pe_gref (by rfl) (TX.g 3 "NoMoment" rfl)) pa_nil))) pa_nil))))))
      (pss_cons (ps_set (i := 1) sc__law_classes.nd rfl (Or.inl rfl) (pe_op op_cat (pv 1) (pe_lst (pa_cons (pe_callB (call_isQ TX.toExcT List.mem_cons_self hz hfs) (by rfl) T.b_isinstance (by decide +kernel) (pa_cons (pv 0) (pa_cons (pe_gref (by rfl) (TX.g 4 "NoRow" rfl)) pa_nil))) (pa_cons (pe_callB (call_isQ TX.toExcT List.mem_cons_self hz hfs) (by rfl) T.b_isinstance (by decide +kernel) (pa_cons (pv 0) (pa_cons (pe_gref (by rfl) (TX.g 5 "NoNumber" rfl)) pa_nil))) (pa_cons (pe_callB (call_isQ TX.toExcT List.mem_cons_self hz hfs) (by rfl) T.b_isinstance (by decide +kernel) (pa_cons (pv 0) (pa_cons (pe_gref (by rfl) (TX.g 6 "NoDrawings" rfl)) pa_nil))) (pa_cons (pe_callB (call_isQ TX.toExcT List.mem_cons_self hz hfs) (by rfl) T.b_isinstance (by decide +kernel) (pa_cons (pv 0) (pa_cons (pe_gref (by rfl) (TX.g 7 "Unlike" rfl)) pa_nil))) pa_nil)))))))
      (pss_cons (ps_set (i := 1) sc__law_classes.nd rfl (Or.inl rfl) (pe_op op_cat (pv 1) (pe_lst (pa_cons (pe_callB (call_isQ TX.toExcT List.mem_cons_self hz hfs) (by rfl) T.b_isinstance (by decide +kernel) (pa_cons (pv 0) (pa_cons (pe_gref (by rfl) (TX.g 8 "Endless" rfl)) pa_nil))) (pa_cons (pe_callB (call_isQ TX.toExcT List.mem_cons_self hz hfs) (by rfl) T.b_isinstance (by decide +kernel) (pa_cons (pv 0) (pa_cons (pe_gref (by rfl) (TX.g 9 "Squeezed" rfl)) pa_nil))) (pa_cons (pe_callB (call_isQ TX.toExcT List.mem_cons_self hz hfs) (by rfl) T.b_isinstance (by decide +kernel) (pa_cons (pv 0) (pa_cons (pe_gref (by rfl) (TX.g 10 "NoPaper" rfl)) pa_nil))) (pa_cons (pe_callB (call_isQ TX.toExcT List.mem_cons_self hz hfs) (by rfl) T.b_isinstance (by decide +kernel) (pa_cons (pv 0) (pa_cons (pe_gref (by rfl) (TX.g 11 "NoDeed" rfl)) pa_nil))) pa_nil)))))))
      (pss_one (ps_ret (pe_op op_cat (pv 1) (pe_lst (pa_cons (pe_callB (call_isQ TX.toExcT List.mem_cons_self hz hfs) (by rfl) T.b_isinstance (by decide +kernel) (pa_cons (pv 0) (pa_cons (pe_gref (by rfl) (TX.g 12 "NoText" rfl)) pa_nil))) (pa_cons (pe_callB (call_isQ TX.toExcT List.mem_cons_self hz hfs) (by rfl) T.b_isinstance (by decide +kernel) (pa_cons (pv 0) (pa_cons (pe_gref (by rfl) (TX.g 13 "NoWords" rfl)) pa_nil))) (pa_cons (pe_callB (call_isQ TX.toExcT List.mem_cons_self hz hfs) (by rfl) T.b_isinstance (by decide +kernel) (pa_cons (pv 0) (pa_cons (pe_gref (by rfl) (TX.g 14 "TooMany" rfl)) pa_nil))) (pa_cons (pe_callB (call_isQ TX.toExcT List.mem_cons_self hz hfs) (by rfl) T.b_isinstance (by decide +kernel) (pa_cons (pv 0) (pa_cons (pe_gref (by rfl) (TX.g 15 "Leaned" rfl)) pa_nil))) pa_nil))))))))))), ?_⟩
    have k := TX.ko i hi
    refine ⟨_, rfl, i, hi, rfl, _, _, _, rfl, fun u z => z, k 0 (by decide), hx, _, rfl, i, hi, rfl, _, _, _, rfl, fun u z => z, k 1 (by decide), hx, _, rfl, i, hi, rfl, _, _, _, rfl, fun u z => z, k 2 (by decide), hx, _, rfl, i, hi, rfl, _, _, _, rfl, fun u z => z, k 3 (by decide), hx, (by show 4 ≤ sizeLine; decide), fun p1 n1 => ?_⟩
    obtain ⟨s1, e1⟩ := new_at (.lst [.bl (decide (i = 0)), .bl (decide (i = 1)), .bl (decide (i = 2)), .bl (decide (i = 3))]) n1
    generalize upd H p1 (.lst [.bl (decide (i = 0)), .bl (decide (i = 1)), .bl (decide (i = 2)), .bl (decide (i = 3))]) = H1 at s1 e1 ⊢
    have hx1 := hx.sm s1
    refine ⟨_, rfl, _, rfl, i, hi, rfl, _, _, _, rfl, fun u z => z, k 4 (by decide), hx1, _, rfl, i, hi, rfl, _, _, _, rfl, fun u z => z, k 5 (by decide), hx1, _, rfl, i, hi, rfl, _, _, _, rfl, fun u z => z, k 6 (by decide), hx1, _, rfl, i, hi, rfl, _, _, _, rfl, fun u z => z, k 7 (by decide), hx1, (by show 4 ≤ sizeLine; decide), fun p2 n2 => ?_⟩
    obtain ⟨s2, e2⟩ := new_at (.lst [.bl (decide (i = 4)), .bl (decide (i = 5)), .bl (decide (i = 6)), .bl (decide (i = 7))]) n2
    generalize upd H1 p2 (.lst [.bl (decide (i = 4)), .bl (decide (i = 5)), .bl (decide (i = 6)), .bl (decide (i = 7))]) = H2 at s2 e2 ⊢
    refine ⟨p1, p2, _, _, rfl, rfl, s2 _ _ e1, e2, (by show 8 ≤ sizeLine; decide), fun p3 n3 => ?_⟩
    obtain ⟨s3, e3⟩ := new_at (.lst ([.bl (decide (i = 0)), .bl (decide (i = 1)), .bl (decide (i = 2)), .bl (decide (i = 3))] ++ [.bl (decide (i = 4)), .bl (decide (i = 5)), .bl (decide (i = 6)), .bl (decide (i = 7))])) n3
    generalize upd H2 p3 (.lst ([.bl (decide (i = 0)), .bl (decide (i = 1)), .bl (decide (i = 2)), .bl (decide (i = 3))] ++ [.bl (decide (i = 4)), .bl (decide (i = 5)), .bl (decide (i = 6)), .bl (decide (i = 7))])) = H3 at s3 e3 ⊢
    have s13 := (s1.trans s2).trans s3
    have hx3 := hx.sm s13
    refine ⟨_, rfl, _, rfl, i, hi, rfl, _, _, _, rfl, fun u z => z, k 8 (by decide), hx3, _, rfl, i, hi, rfl, _, _, _, rfl, fun u z => z, k 9 (by decide), hx3, _, rfl, i, hi, rfl, _, _, _, rfl, fun u z => z, k 10 (by decide), hx3, _, rfl, i, hi, rfl, _, _, _, rfl, fun u z => z, k 11 (by decide), hx3, (by show 4 ≤ sizeLine; decide), fun p4 n4 => ?_⟩
    obtain ⟨s4, e4⟩ := new_at (.lst [.bl (decide (i = 8)), .bl (decide (i = 9)), .bl (decide (i = 10)), .bl (decide (i = 11))]) n4
    generalize upd H3 p4 (.lst [.bl (decide (i = 8)), .bl (decide (i = 9)), .bl (decide (i = 10)), .bl (decide (i = 11))]) = H4 at s4 e4 ⊢
    refine ⟨p3, p4, _, _, rfl, rfl, s4 _ _ e3, e4, (by show 12 ≤ sizeLine; decide), fun p5 n5 => ?_⟩
    obtain ⟨s5, e5⟩ := new_at (.lst (([.bl (decide (i = 0)), .bl (decide (i = 1)), .bl (decide (i = 2)), .bl (decide (i = 3))] ++ [.bl (decide (i = 4)), .bl (decide (i = 5)), .bl (decide (i = 6)), .bl (decide (i = 7))]) ++ [.bl (decide (i = 8)), .bl (decide (i = 9)), .bl (decide (i = 10)), .bl (decide (i = 11))])) n5
    generalize upd H4 p5 (.lst (([.bl (decide (i = 0)), .bl (decide (i = 1)), .bl (decide (i = 2)), .bl (decide (i = 3))] ++ [.bl (decide (i = 4)), .bl (decide (i = 5)), .bl (decide (i = 6)), .bl (decide (i = 7))]) ++ [.bl (decide (i = 8)), .bl (decide (i = 9)), .bl (decide (i = 10)), .bl (decide (i = 11))])) = H5 at s5 e5 ⊢
    have s15 := (s13.trans s4).trans s5
    have hx5 := hx.sm s15
    refine ⟨_, rfl, _, rfl, i, hi, rfl, _, _, _, rfl, fun u z => z, k 12 (by decide), hx5, _, rfl, i, hi, rfl, _, _, _, rfl, fun u z => z, k 13 (by decide), hx5, _, rfl, i, hi, rfl, _, _, _, rfl, fun u z => z, k 14 (by decide), hx5, _, rfl, i, hi, rfl, _, _, _, rfl, fun u z => z, k 15 (by decide), hx5, (by show 4 ≤ sizeLine; decide), fun p6 n6 => ?_⟩
    obtain ⟨s6, e6⟩ := new_at (.lst [.bl (decide (i = 12)), .bl (decide (i = 13)), .bl (decide (i = 14)), .bl (decide (i = 15))]) n6
    generalize upd H5 p6 (.lst [.bl (decide (i = 12)), .bl (decide (i = 13)), .bl (decide (i = 14)), .bl (decide (i = 15))]) = H6 at s6 e6 ⊢
    refine ⟨p5, p6, _, _, rfl, rfl, s6 _ _ e5, e6, (by show 16 ≤ sizeLine; decide), fun p7 n7 => ?_⟩
    exact q _ p7 ((s15.trans s6).trans (same_upd n7)) ((s15.trans s6).free n7) upd_same
end
section
variable {X : Cx}
theorem met_mk {c : Nat → Addr} {LE g : Addr} {fd : FuncData} (Fm : Fun X.K "_law_met" "_law_met" s__law_met g fd) (mm : X.mg "_law_met" = some (.ref g)) (bm : Binds X.K fd ["_law_call"] []) (T : Txt X.K X.mg) (TX : ExcN X.K X.mg c LE)
    (DE : ClE X.prog X.w X.K X.mg X.base 1 "_law_classes" ["_law_e"] (spCls c)) (hr : Room 3 X.A) : MetF X "_law_met" "_law_call" (TMet c) := by
  obtain ⟨oc, od, kV, doc, pm, an, cdv, ct, osl, rfl, lk, hcd⟩ := Fm.ex
  refine ⟨g, _, _, _, kV, doc, pm, cdv, ct, oc, an, od, osl, _, mm, Fm.kp, lk, hcd, bm, sc__law_met, rfl, .inl rfl, ?_⟩
  intro f c' s H Q tl act hc h
  have hrE : L2H.RoomH 1 ((X.A.deeper (envOfC "_law_met" (defScope s__law_met) s.heap.objs.size g cdv))) := L2H.roomH_of ((hr.mono (show 2 ≤ 3 by omega)).deeper _)
  refine ⟨_, pss_one (ps_try_as (X := (cxOf C8.CX0 X.prog X.w X.K X.mg X.base _ "_law_met" (defScope s__law_met) g cdv X.A X.stack s H C8.E0).nox) (c := .ref LE) (i := 1) (Wout := fun _ _ _ _ => False)
      (tb := fun W D σ H => ∃ Ech : XK, (∀ cls d (σ' : L2.St) H', σ'.length = 3 → Ech cls d H' → W cls d σ' H') ∧ σ[0]? = some (some (.ref f)) ∧ H c' = some (LamX.CodeO c' (X.env.qual ++ "<lambda>")) ∧ tl Ech H fun v H1 => 2 ≤ sizeLine ∧ ∀ p, H1 p = none → D.rt (.ref p) (upd H1 p (.tup [.str "told", v])))
      rfl rfl sc__law_met.nd rfl rfl ⟨rfl, by decide, .inl TX.gL⟩ takes0 (fun W pn xe tk _ => ?_) (fun a oe cls d pn hz hfs =>
        (pss_cons (ps_set (i := 2) sc__law_met.nd rfl (Or.inl rfl) (pe_ownE DE ⟨hrE.dp, hrE.un⟩ List.mem_cons_self hz hfs (by rfl) (pa_cons (pv 1) pa_nil)))
      (pss_cons (ps_if (PW.pt (pw_or (pt_not (pt_val (pe_callB (call_isQ TX.toExcT List.mem_cons_self hz hfs) (by rfl) T.b_isinstance (by decide +kernel) (pa_cons (pv 1) (pa_cons (pe_bltn (v := .ty "ValueError") (by rfl) T.b_ValueError (by decide +kernel) rfl) pa_nil))))) (pw_or1 (pt_cmpR op_ne (pe_bmK (K := X.K) (r := rCntB X.K) PySem.F.plainAttrs_list PySem.F.slot_list_count PySem.F.type_list_count mt_bcount (pv 2) (pa_cons pe_bl pa_nil)) pe_int (nomark _))))) (pss_one (ps_ret (pe_tup (pa_cons pe_str (pa_cons pe_non pa_nil))))) pss_nil)
      (pss_cons (ps_if (pt_val (pe_ix (r := rIxL X.K) ix_list (pv 2) pe_int (fun _ _ => rfl))) (pss_one (ps_ret (pe_tup (pa_cons pe_str (pa_cons (pe_tup (pa_cons (pe_xf (TX.xf (i := 14) (by decide)) TX.n1 hz hfs (pv 1)) (pa_cons (pe_xf (TX.xf (i := 14) (by decide)) TX.n2 hz hfs (pv 1)) pa_nil))) pa_nil))))) pss_nil)
      (pss_cons (ps_if (pt_val (pe_ix (r := rIxL X.K) ix_list (pv 2) pe_int (fun _ _ => rfl))) (pss_one (ps_ret (pe_tup (pa_cons pe_str (pa_cons (pe_xf (TX.xf (i := 15) (by decide)) TX.n3 hz hfs (pv 1)) pa_nil))))) pss_nil)
      (pss_one (ps_ret (pe_tup (pa_cons pe_str (pa_cons (pe_bmK (K := X.K) (r := rIndex X.K) PySem.F.plainAttrs_list PySem.F.slot_list_index PySem.F.type_list_index mt_index (pv 2) (pa_cons pe_bl pa_nil)) pa_nil))))))))))), ?_⟩
  · refine ⟨fun pins s' σ H' D I h' => ?_⟩
    obtain ⟨Ech, hW, h1, h2, h3⟩ := h'
    refine run_ex (X := (cxOf C8.CX0 X.prog X.w X.K X.mg X.base ["_law_call", "_law_e", "_law_some"] "_law_met" (defScope s__law_met) g cdv X.A X.stack s H C8.E0).tr pn xe) ⟨_, pss_one (ps_ret (pe_tup (pa_cons pe_str (pa_cons (act _ pn xe Ech _ _ (takes_len tk) (fun cls d σ' H' he hl => hW cls d σ' H' hl he)) pa_nil)))), ?_⟩ I
    exact ⟨h1, h2, h3⟩
  · refine ⟨EMet c Q, fun cls d σ' H' hl hE => ?_, rfl, hc, h⟩
    obtain ⟨i, hi, rfl, hx, h13, hM, hL⟩ := hE
    obtain ⟨x0, x1, x2, rfl⟩ : ∃ x0 x1 x2, σ' = [x0, x1, x2] := by
      match σ', hl with
      | [a, b, c], _ => exact ⟨a, b, c, rfl⟩
    refine ⟨true, TX.ex i hi, fun _ a na => ?_, fun z => Bool.noConfusion z⟩
    refine ⟨_, rfl, i, hi, rfl, rfl, hx, fun H1 p1 s1 n1 e1 => ?_⟩
    have hx1 := hx.sm s1
    refine ⟨_, rfl, i, hi, rfl, _, _, _, rfl, fun u z => z, TX.kv i hi, hx1, true, rfl, iteF ?_⟩
    refine ⟨_, rfl, .inl ⟨rfl, _, .inl (.inl e1)⟩, p1, bits i, rfl, rfl, .inl (.inl e1), ?_⟩
    rw [bits_count i hi]
    refine ⟨rfl, _, rfl, iteF ?_⟩
    refine ⟨_, rfl, p1, _, 14, _, rfl, rfl, .inl (.inl e1), bits_at i 14 (by decide), _, rfl, ite2 (fun e => ?_) (fun e14 => ?_)⟩
    · obtain ⟨dd, fs, m, n, rfl, hd, lm, ln, hq⟩ := hM (of_decide_eq_true e)
      have ec : c i = c 14 := by rw [of_decide_eq_true e]
      have hd1 := s1 _ _ hd
      refine ⟨_, rfl, rfl, by rw [ec], dd, fs, m, rfl, hd1, lm, _, rfl, rfl, by rw [ec], dd, fs, n, rfl, hd1, ln, (by show 2 ≤ sizeLine; decide), fun q2 n2 => ?_⟩
      refine ⟨(by show 2 ≤ sizeLine; decide), fun p3 n3 => ?_⟩
      obtain ⟨s2, e2⟩ := new_at (.tup [m, n]) n2
      exact hq _ p3 q2 ((s1.trans s2).trans (same_upd n3)) ((s1.trans s2).free n3) ((same_upd n3) _ _ e2) upd_same
    refine ⟨_, rfl, p1, _, 15, _, rfl, rfl, .inl (.inl e1), bits_at i 15 (by decide), _, rfl, ite2 (fun e => ?_) (fun e15 => ?_)⟩
    · obtain ⟨dd, fs, m, rfl, hd, lm, hq⟩ := hL (of_decide_eq_true e)
      have ec : c i = c 15 := by rw [of_decide_eq_true e]
      refine ⟨_, rfl, rfl, by rw [ec], dd, fs, m, rfl, s1 _ _ hd, lm, (by show 2 ≤ sizeLine; decide), fun p3 n3 => ?_⟩
      exact hq _ p3 (s1.trans (same_upd n3)) (s1.free n3) upd_same
    have i14 : i < 14 := by
      have a1 : ¬ i = 14 := fun z => e14 (decide_eq_true z)
      have a2 : ¬ i = 15 := fun z => e15 (decide_eq_true z)
      omega
    refine ⟨_, rfl, .inl ⟨rfl, _, .inl (.inl e1)⟩, p1, _, .bl true, i, .bl true, rfl, rfl, .inl (.inl e1), rfl, bl_flat _, ?_, rfl, fun m z hm hz => ?_, ?_⟩
    · rw [bits_at i i hi, decide_eq_true rfl]
    · rw [bits_at i m (by omega), decide_eq_false (by omega)] at hz
      cases hz
      rfl
    · refine ⟨(by show 2 ≤ sizeLine; decide), fun p3 n3 => ?_⟩
      exact h13 i14 _ p3 (s1.trans (same_upd n3)) (s1.free n3) upd_same
end

section
variable {P : Program} {w : World} {K : PySem.W.Frag} {mg : Str → Option Value} {base : Heap}
def sp_is_whole_from (K : PySem.W.Frag) : Sp := fun vs H Q _ => ∃ n l : Int, vs = [.int n, .int l] ∧ Q (.bl (decide (l ≤ n))) H
theorem ok_is_whole_from {f : Addr} {fd : FuncData} (F : Fun K "is_whole_from" "is_whole_from" s_is_whole_from f fd) (T : Txt K mg) : FnOk P w K mg base CX0 1 f fd ["thing", "least"] (sp_is_whole_from K) := by
  refine F.ok sc_is_whole_from (fun vs H Q E h => ?_) (fun cdv A outer s H vs Q E hr h => ?_)
  · obtain ⟨n, l, rfl, q⟩ := h
    rfl
  · obtain ⟨n, l, rfl, q⟩ := h
    refine ⟨_, (pss_cons (ps_if (PW.pt (pw_or (pt_val (pe_callB call_isi (by rfl) T.b_isinstance (by decide +kernel) (pa_cons (pv 0) (pa_cons (pe_bltn (v := .ty "bool") (by rfl) T.b_bool (by decide +kernel) rfl) pa_nil)))) (pw_or1 (pt_not (pt_val (pe_callB call_isi (by rfl) T.b_isinstance (by decide +kernel) (pa_cons (pv 0) (pa_cons (pe_bltn (v := .ty "int") (by rfl) T.b_int (by decide +kernel) rfl) pa_nil)))))))) (pss_one (ps_ret pe_bl)) pss_nil)
      (pss_one (ps_ret (pe_cmpR op_le (pv 1) (pv 0) (nomark _))))), ?_⟩
    refine ⟨_, rfl, _, _, _, _, false, rfl, .ty _, .base (.int n), kit_ty (by decide +kernel), _, rfl, iteF ?_⟩
    refine ⟨_, rfl, _, _, _, _, true, rfl, .ty _, .base (.int n), kit_ty (by decide +kernel), _, rfl, iteF ?_⟩
    exact ⟨_, rfl, _, rfl, l, n, rfl, rfl, q⟩
def sp_is_whole (K : PySem.W.Frag) : Sp := fun vs H Q _ => ∃ n l m : Int, vs = [.int n, .int l, .int m] ∧ Q (.bl (decide (l ≤ n ∧ n ≤ m))) H
theorem ok_is_whole {f : Addr} {fd : FuncData} (F : Fun K "is_whole" "is_whole" s_is_whole f fd) (T : Txt K mg) (D_is_whole_from : Cl P w K mg base 1 "is_whole_from" ["thing", "least"] (sp_is_whole_from K)) : FnOk P w K mg base CX0 2 f fd ["thing", "least", "most"] (sp_is_whole K) := by
  refine F.ok sc_is_whole (fun vs H Q E h => ?_) (fun cdv A outer s H vs Q E hr h => ?_)
  · obtain ⟨n, l, m, rfl, q⟩ := h
    rfl
  · obtain ⟨n, l, m, rfl, q⟩ := h
    refine ⟨_, (pss_one (ps_ret (pe_and (pe_own D_is_whole_from (hr.mono (by omega)) (by rfl) (pa_cons (pv 0) (pa_cons (pv 1) pa_nil))) (pe_one (pe_cmpR op_le (pv 0) (pv 2) (nomark _)))))), ?_⟩
    refine ⟨_, rfl, _, rfl, n, l, rfl, _, rfl, ite2 (fun e => ?_) (fun e => ?_)⟩
    · refine ⟨_, rfl, _, rfl, n, m, rfl, rfl, ?_⟩
      have e1 : l ≤ n := of_decide_eq_true e
      rw [show decide (l ≤ n ∧ n ≤ m) = decide (n ≤ m) by simp [e1]] at q
      exact q
    · have e1 : ¬ l ≤ n := fun z => e (decide_eq_true z)
      rw [show decide (l ≤ n ∧ n ≤ m) = false by simp [e1]] at q
      exact q
def sp_is_tuple (K : PySem.W.Frag) : Sp := fun vs H Q _ => ∃ (a : Addr) (xs : List V) (l m : Int), vs = [.ref a, .int l, .int m] ∧ SqT K H a xs ∧ Q (.bl (decide (l ≤ (xs.length : Int) ∧ (xs.length : Int) ≤ m))) H
theorem ok_is_tuple {f : Addr} {fd : FuncData} (F : Fun K "is_tuple" "is_tuple" s_is_tuple f fd) (T : Txt K mg) : FnOk P w K mg base CX0 1 f fd ["thing", "least", "most"] (sp_is_tuple K) := by
  refine F.ok sc_is_tuple (fun vs H Q E h => ?_) (fun cdv A outer s H vs Q E hr h => ?_)
  · obtain ⟨a, xs, l, m, rfl, _⟩ := h
    rfl
  · obtain ⟨a, xs, l, m, rfl, ha, q⟩ := h
    refine ⟨_, (pss_one (ps_ret (pe_and (pe_callB call_isi (by rfl) T.b_isinstance (by decide +kernel) (pa_cons (pv 0) (pa_cons (pe_bltn (v := .ty "tuple") (by rfl) T.b_tuple (by decide +kernel) rfl) pa_nil))) (pe_one (pe_chain op_le op_le (pv 1) (pe_callB call_len_seq (by rfl) T.b_len (by decide +kernel) (pa_cons (pv 0) pa_nil)) (pv 2)))))), ?_⟩
    refine ⟨_, rfl, _, _, _, _, true, rfl, .ty _, tyT ha, kit_ty (by decide +kernel), _, rfl, iteT ?_⟩
    refine ⟨_, rfl, _, rfl, a, xs, rfl, .inr ha, l, _, rfl, rfl, _, rfl, ite2 (fun e => ?_) (fun e => ?_)⟩
    · refine ⟨_, rfl, _, m, rfl, rfl, ?_⟩
      have e1 : l ≤ (xs.length : Int) := of_decide_eq_true e
      rw [show decide (l ≤ (xs.length : Int) ∧ (xs.length : Int) ≤ m) = decide ((xs.length : Int) ≤ m) by simp [e1]] at q
      exact q
    · have e1 : ¬ l ≤ (xs.length : Int) := fun z => e (decide_eq_true z)
      rw [show decide (l ≤ (xs.length : Int) ∧ (xs.length : Int) ≤ m) = false by simp [e1]] at q
      exact q
def sp_is_drawing (K : PySem.W.Frag) : Sp := fun vs H Q _ => ∃ n : Int, vs = [.int n] ∧ Q (.bl (decide (0 ≤ n ∧ n ≤ 9))) H
theorem ok_is_drawing {f : Addr} {fd : FuncData} (F : Fun K "is_drawing" "is_drawing" s_is_drawing f fd) (T : Txt K mg) (D_is_whole : Cl P w K mg base 2 "is_whole" ["thing", "least", "most"] (sp_is_whole K)) : FnOk P w K mg base CX0 3 f fd ["thing"] (sp_is_drawing K) := by
  refine F.ok sc_is_drawing (fun vs H Q E h => ?_) (fun cdv A outer s H vs Q E hr h => ?_)
  · obtain ⟨n, rfl, q⟩ := h
    rfl
  · obtain ⟨n, rfl, q⟩ := h
    refine ⟨_, (pss_one (ps_ret (pe_own D_is_whole (hr.mono (by omega)) (by rfl) (pa_cons (pv 0) (pa_cons pe_int (pa_cons (pe_gint (by rfl) T.c_MOST_DRAWING) pa_nil)))))), ?_⟩
    exact ⟨_, rfl, n, 0, 9, rfl, q⟩
def sp_is_hold (K : PySem.W.Frag) : Sp := fun vs H Q _ => ∃ n : Int, vs = [.int n] ∧ Q (.bl (decide (1 ≤ n ∧ n ≤ 24))) H
theorem ok_is_hold {f : Addr} {fd : FuncData} (F : Fun K "is_hold" "is_hold" s_is_hold f fd) (T : Txt K mg) (D_is_whole : Cl P w K mg base 2 "is_whole" ["thing", "least", "most"] (sp_is_whole K)) : FnOk P w K mg base CX0 3 f fd ["thing"] (sp_is_hold K) := by
  refine F.ok sc_is_hold (fun vs H Q E h => ?_) (fun cdv A outer s H vs Q E hr h => ?_)
  · obtain ⟨n, rfl, q⟩ := h
    rfl
  · obtain ⟨n, rfl, q⟩ := h
    refine ⟨_, (pss_one (ps_ret (pe_own D_is_whole (hr.mono (by omega)) (by rfl) (pa_cons (pv 0) (pa_cons pe_int (pa_cons (pe_gint (by rfl) T.c_MOST_HOLD) pa_nil)))))), ?_⟩
    exact ⟨_, rfl, n, 1, 24, rfl, q⟩
def sp_is_row (K : PySem.W.Frag) : Sp := fun vs H Q _ => ∃ (v : V) (r : RW), vs = [v] ∧ RowAt K H v r ∧ VRow r ∧ Q (.bl true) H
theorem ok_is_row {f : Addr} {fd : FuncData} (F : Fun K "is_row" "is_row" s_is_row f fd) (T : Txt K mg) (D_is_tuple : Cl P w K mg base 1 "is_tuple" ["thing", "least", "most"] (sp_is_tuple K)) (D_is_drawing : Cl P w K mg base 3 "is_drawing" ["thing"] (sp_is_drawing K)) (D_is_hold : Cl P w K mg base 3 "is_hold" ["thing"] (sp_is_hold K)) : FnOk P w K mg base CX0 4 f fd ["thing"] (sp_is_row K) := by
  refine F.ok sc_is_row (fun vs H Q E h => ?_) (fun cdv A outer s H vs Q E hr h => ?_)
  · obtain ⟨v, r, rfl, _⟩ := h
    rfl
  · obtain ⟨v, ⟨d, n⟩, rfl, ⟨p, rfl, hp⟩, ⟨v1, v2, v3, v4⟩, q⟩ := h
    refine ⟨_, (pss_cons (ps_if (pt_not (pt_val (pe_own D_is_tuple (hr.mono (by omega)) (by rfl) (pa_cons (pv 0) (pa_cons pe_int (pa_cons pe_int pa_nil)))))) (pss_one (ps_ret pe_bl)) pss_nil)
      (pss_cons (ps_asg (pv 0) (pg_tup (by rfl) (pgs_cons (pg_name (i := 1) sc_is_row.nd rfl (Or.inl rfl)) (pgs_cons (pg_name (i := 2) sc_is_row.nd rfl (Or.inl rfl)) pgs_nil))))
      (pss_one (ps_ret (pe_and (pe_own D_is_drawing (hr.mono (by omega)) (by rfl) (pa_cons (pv 1) pa_nil)) (pe_one (pe_own D_is_hold (hr.mono (by omega)) (by rfl) (pa_cons (pv 2) pa_nil)))))))), ?_⟩
    refine ⟨_, rfl, p, _, 2, 2, rfl, hp, _, rfl, iteF ?_⟩
    refine ⟨_, rfl, p, _, rfl, hp, rfl, _, _, rfl, _, _, rfl, rfl, ?_⟩
    refine ⟨_, rfl, d, rfl, true, ?_, iteT ?_⟩
    · rw [show decide ((0 : Int) ≤ d ∧ d ≤ 9) = true from decide_eq_true ⟨v1, v2⟩]
    · refine ⟨_, rfl, n, rfl, ?_⟩
      rw [show decide ((1 : Int) ≤ n ∧ n ≤ 24) = true from decide_eq_true ⟨v3, v4⟩]
      exact q
end

section
variable {P : Program} {w : World} {K : PySem.W.Frag} {mg : Str → Option Value} {base : Heap}
def sp_need_moment (K : PySem.W.Frag) : Sp := fun vs H Q _ => ∃ m : Int, vs = [.int m] ∧ 0 ≤ m ∧ m ≤ 1000000000 ∧ Q .non H
theorem ok_need_moment {f : Addr} {fd : FuncData} (F : Fun K "need_moment" "need_moment" s_need_moment f fd) (T : Txt K mg) (D_is_whole : Cl P w K mg base 2 "is_whole" ["thing", "least", "most"] (sp_is_whole K)) : FnOk P w K mg base CX0 3 f fd ["thing"] (sp_need_moment K) := by
  refine F.ok sc_need_moment (fun vs H Q E h => ?_) (fun cdv A outer s H vs Q E hr h => ?_)
  · obtain ⟨m, rfl, _⟩ := h
    rfl
  · obtain ⟨m, rfl, h0, h1, q⟩ := h
    refine ⟨_, (pss_one (ps_if (pt_not (pt_val (pe_own D_is_whole (hr.mono (by omega)) (by rfl) (pa_cons (pv 0) (pa_cons pe_int (pa_cons (pe_gint (by rfl) T.c_LAST_MOMENT) pa_nil)))))) (pss_one ps_never) pss_nil)), ?_⟩
    refine ⟨_, rfl, m, 0, 1000000000, rfl, _, rfl, ?_⟩
    rw [show decide ((0 : Int) ≤ m ∧ m ≤ 1000000000) = true from decide_eq_true ⟨h0, h1⟩]
    exact iteF q
end

section
variable {P : Program} {w : World} {K : PySem.W.Frag} {mg : Str → Option Value} {base : Heap}
def sp_is_layer (K : PySem.W.Frag) : Sp := fun vs H Q _ => ∃ (v : V) (rs : List RW) (bk : Option Int), vs = [v] ∧ LayAt K H v rs bk ∧ VRows rs ∧ VBack rs bk ∧ ∀ H', Same H H' → Q (.bl true) H'
theorem ok_is_layer {f : Addr} {fd : FuncData} (F : Fun K "is_layer" "is_layer" s_is_layer f fd) (T : Txt K mg) (D_is_tuple : Cl P w K mg base 1 "is_tuple" ["thing", "least", "most"] (sp_is_tuple K)) (D_is_row : Cl P w K mg base 4 "is_row" ["thing"] (sp_is_row K)) (D_is_whole : Cl P w K mg base 2 "is_whole" ["thing", "least", "most"] (sp_is_whole K)) : FnOk P w K mg base CX0 5 f fd ["thing"] (sp_is_layer K) := by
  refine F.ok sc_is_layer (fun vs H Q E h => ?_) (fun cdv A outer s H vs Q E hr h => ?_)
  · obtain ⟨v, rs, bk, rfl, _⟩ := h
    rfl
  · obtain ⟨v, rs, bk, rfl, ⟨p, rv, rfl, hp, pr, vs, rfl, hq, pd⟩, ⟨v8, vr⟩, vb, q⟩ := h
    have hl : vs.length = rs.length := Paired.length pd
    refine ⟨_, (pss_cons (ps_if (pt_not (pt_val (pe_own D_is_tuple (hr.mono (by omega)) (by rfl) (pa_cons (pv 0) (pa_cons pe_int (pa_cons pe_int pa_nil)))))) (pss_one (ps_ret pe_bl)) pss_nil)
      (pss_cons (ps_asg (pv 0) (pg_tup (by rfl) (pgs_cons (pg_name (i := 1) sc_is_layer.nd rfl (Or.inl rfl)) (pgs_cons (pg_name (i := 2) sc_is_layer.nd rfl (Or.inl rfl)) pgs_nil))))
      (pss_cons (ps_if (PW.pt (pw_or (pt_not (pt_val (pe_own D_is_tuple (hr.mono (by omega)) (by rfl) (pa_cons (pv 1) (pa_cons pe_int (pa_cons (pe_gint (by rfl) T.c_MOST_ROWS) pa_nil)))))) (pw_or1 (pt_not (pt_val (pe_callB (cr_all rfl) (by rfl) T.b_all (by decide +kernel) (pa_cons (pe_lc (own := [("row", 3)]) (g := (gName 3)) (tt := tYes) (by rfl) sc_is_layer.nd (pi_tup (pv 1)) (blkOk_by (own := [("row", 3)]) (N := ["thing", "rows", "back", "row"]) (sc := defScope s_is_layer) (by decide +kernel)) (fun _ _ _ _ _ => (pg_name (i := 3) sc_is_layer.nd rfl (Or.inl rfl))) (fun _ _ _ _ _ => pts_nil) (fun _ _ _ _ _ => (pe_own D_is_row (hr.mono (by omega)) (by rfl) (pa_cons (pv 3) pa_nil)))) pa_nil))))))) (pss_one (ps_ret pe_bl)) pss_nil)
      (pss_one (ps_ret (pe_or (pe_cmpR op_isN (pv 2) pe_non (nomark _)) (pe_one (pe_own D_is_whole (hr.mono (by omega)) (by rfl) (pa_cons (pv 2) (pa_cons pe_int (pa_cons (pe_op op_sub (pe_callB call_len_seq (by rfl) T.b_len (by decide +kernel) (pa_cons (pv 1) pa_nil)) pe_int) pa_nil))))))))))), ?_⟩
    refine ⟨_, rfl, p, _, 2, 2, rfl, hp, _, rfl, iteF ?_⟩
    refine ⟨_, rfl, p, _, rfl, hp, rfl, _, _, rfl, _, _, rfl, rfl, ?_⟩
    refine ⟨_, rfl, pr, vs, 0, 8, rfl, hq, _, rfl, ?_⟩
    rw [show decide ((0 : Int) ≤ (vs.length : Int) ∧ (vs.length : Int) ≤ 8) = true from decide_eq_true ⟨by omega, by omega⟩]
    refine iteF ?_
    refine ⟨_, rfl, pr, rfl, ⟨_, hq⟩, fun D hD => ?_⟩
    refine lcmap_tup ((vs.map fun _ => true).map V.bl) (by simp) (by omega) hq hD (fun i x y H2 R Z hx hy s2 hR => ?_) (fun H2 s2 hL => ?_)
    · obtain ⟨r, hr1, hrow⟩ := Paired.at pd hx
      have ey : y = .bl true := by
        rw [List.map_map, List.getElem?_map, hx] at hy
        exact (Option.some.inj hy).symm
      subst ey
      exact ⟨rfl, yes_ok ⟨_, rfl, x, r, rfl, hrow.keep (Same.tk s2), vr r (List.mem_of_getElem? hr1), hR _ (Same.refl _)⟩⟩
    · refine ⟨D, _, rfl, .inl (.inl hL), _, rfl, ?_⟩
      rw [show ((vs.map fun _ => true).all id) = true by simp]
      refine iteF ?_
      refine ⟨_, rfl, rfl, _, rfl, ?_⟩
      cases bk with
      | none => exact ite2 (fun _ => q _ s2) (fun e => absurd (decide_eq_true rfl) e)
      | some b =>
        refine ite2 (fun e => nomatch (of_decide_eq_true e)) (fun _ => ?_)
        have hb := vb b rfl
        refine ⟨_, rfl, _, rfl, pr, vs, rfl, .inr (Same.sqT s2 hq), _, _, rfl, rfl, b, 0, _, rfl, ?_⟩
        rw [show decide ((0 : Int) ≤ b ∧ b ≤ (vs.length : Int) - 1) = true from decide_eq_true ⟨by omega, by omega⟩]
        exact q _ s2
def sp_need_layer (K : PySem.W.Frag) : Sp := fun vs H Q _ => ∃ (v : V) (rs : List RW) (bk : Option Int), vs = [v] ∧ LayAt K H v rs bk ∧ VRows rs ∧ VBack rs bk ∧ ∀ H', Same H H' → Q .non H'
theorem ok_need_layer {f : Addr} {fd : FuncData} (F : Fun K "need_layer" "need_layer" s_need_layer f fd) (T : Txt K mg) (D_is_layer : Cl P w K mg base 5 "is_layer" ["thing"] (sp_is_layer K)) : FnOk P w K mg base CX0 6 f fd ["thing"] (sp_need_layer K) := by
  refine F.ok sc_need_layer (fun vs H Q E h => ?_) (fun cdv A outer s H vs Q E hr h => ?_)
  · obtain ⟨v, rs, bk, rfl, _⟩ := h
    rfl
  · obtain ⟨v, rs, bk, rfl, hl, v8, vb, q⟩ := h
    refine ⟨_, (pss_one (ps_if (pt_not (pt_val (pe_own D_is_layer (hr.mono (by omega)) (by rfl) (pa_cons (pv 0) pa_nil)))) (pss_one ps_never) pss_nil)), ?_⟩
    exact ⟨_, rfl, v, rs, bk, rfl, hl, v8, vb, fun H' s' => ⟨_, rfl, iteF (q _ s')⟩⟩
end

section
variable {P : Program} {w : World} {K : PySem.W.Frag} {mg : Str → Option Value} {base : Heap}
def sp_need_number (K : PySem.W.Frag) : Sp := fun vs H Q _ => ∃ n l m : Int, vs = [.int n, .int l, .int m] ∧ l ≤ n ∧ n ≤ m ∧ Q .non H
theorem ok_need_number {f : Addr} {fd : FuncData} (F : Fun K "need_number" "need_number" s_need_number f fd) (T : Txt K mg) (D_is_whole : Cl P w K mg base 2 "is_whole" ["thing", "least", "most"] (sp_is_whole K)) : FnOk P w K mg base CX0 3 f fd ["thing", "least", "most"] (sp_need_number K) := by
  refine F.ok sc_need_number (fun vs H Q E h => ?_) (fun cdv A outer s H vs Q E hr h => ?_)
  · obtain ⟨n, l, m, rfl, _⟩ := h
    rfl
  · obtain ⟨n, l, m, rfl, h0, h1, q⟩ := h
    refine ⟨_, (pss_one (ps_if (pt_not (pt_val (pe_own D_is_whole (hr.mono (by omega)) (by rfl) (pa_cons (pv 0) (pa_cons (pv 1) (pa_cons (pv 2) pa_nil)))))) (pss_one ps_never) pss_nil)), ?_⟩
    refine ⟨_, rfl, _, rfl, _, rfl, n, l, m, rfl, _, rfl, ?_⟩
    rw [show decide (l ≤ n ∧ n ≤ m) = true from decide_eq_true ⟨h0, h1⟩]
    exact iteF q
end

section
variable {P : Program} {w : World} {K : PySem.W.Frag} {mg : Str → Option Value} {base : Heap}
def sp_held (K : PySem.W.Frag) : Sp := fun vs H Q _ => ∃ (v : V) (rs : List RW), vs = [v] ∧ RowsAt K H v rs ∧ rs.length ≤ 1000 ∧ ∀ H', Same H H' → Q (.int (tot rs)) H'
theorem ok_held {f : Addr} {fd : FuncData} (F : Fun K "held" "held" s_held f fd) (T : Txt K mg) : FnOk P w K mg base CX0 1 f fd ["rows"] (sp_held K) := by
  refine F.ok sc_held (fun vs H Q E h => ?_) (fun cdv A outer s H vs Q E hr h => ?_)
  · obtain ⟨v, rs, rfl, _⟩ := h
    rfl
  · obtain ⟨v, rs, rfl, ⟨pr, vs, rfl, hq, pd⟩, hz, q⟩ := h
    have hl : vs.length = rs.length := Paired.length pd
    refine ⟨_, (pss_one (ps_ret (pe_callB (cr_sum rfl) (by rfl) T.b_sum (by decide +kernel) (pa_cons (pe_lc (own := [("drawing", 1), ("hold", 2)]) (g := (gTup _ 2 (gCons (gName 1) (gCons (gName 2) gNil)))) (tt := tYes) (by rfl) sc_held.nd (pi_tup (pv 0)) (blkOk_by (own := [("drawing", 1), ("hold", 2)]) (N := ["rows", "drawing", "hold"]) (sc := defScope s_held) (by decide +kernel)) (fun _ _ _ _ _ => (pg_tup (by rfl) (pgs_cons (pg_name (i := 1) sc_held.nd rfl (Or.inl rfl)) (pgs_cons (pg_name (i := 2) sc_held.nd rfl (Or.inl rfl)) pgs_nil)))) (fun _ _ _ _ _ => pts_nil) (fun _ _ _ _ _ => (pv 2))) pa_nil)))), ?_⟩
    refine ⟨_, rfl, pr, rfl, ⟨_, hq⟩, fun D hD => ?_⟩
    refine lcmap_tup ((rs.map (·.2)).map V.int) (by simp [hl]) (by omega) hq hD (fun i x y H2 R Z hx hy s2 hR => ?_) (fun H2 s2 hL => ?_)
    · obtain ⟨r, hr1, p, rfl, hrow⟩ := Paired.at pd hx
      have ey : y = .int r.2 := by
        rw [List.map_map, List.getElem?_map, hr1] at hy
        exact (Option.some.inj hy).symm
      subst ey
      exact ⟨p, _, rfl, Same.sqT s2 hrow, rfl, _, _, rfl, _, _, rfl, rfl, rfl, yes_ok ⟨_, rfl, hR _ (Same.refl _)⟩⟩
    · exact ⟨D, _, rfl, .inl (.inl hL), q _ s2⟩
end

section
variable {P : Program} {w : World} {K : PySem.W.Frag} {mg : Str → Option Value} {base : Heap}
def sp_first_time (K : PySem.W.Frag) : Sp := fun vs H Q _ => ∃ (v : V) (rs : List RW) (b m : Int), vs = [v, .int b, .int m] ∧ RowsAt K H v rs ∧ VRows rs ∧ VBack rs (some b) ∧ ∀ H', Same H H' → Q (.int (near rs (some b) m)) H'
theorem ok_first_time {f : Addr} {fd : FuncData} (F : Fun K "first_time" "first_time" s_first_time f fd) (T : Txt K mg) (D_held : Cl P w K mg base 1 "held" ["rows"] (sp_held K)) : FnOk P w K mg base CX0 2 f fd ["rows", "back", "moment"] (sp_first_time K) := by
  refine F.ok sc_first_time (fun vs H Q E h => ?_) (fun cdv A outer s H vs Q E hr h => ?_)
  · obtain ⟨v, rs, b, m, rfl, _⟩ := h
    rfl
  · obtain ⟨v, rs, b, m, rfl, ⟨pr, vs, rfl, hq, pd⟩, ⟨v8, vr⟩, vb, q⟩ := h
    have hb := vb b rfl
    obtain ⟨k, rfl⟩ : ∃ k : Nat, b = (k : Int) := ⟨b.toNat, by omega⟩
    refine ⟨_, (pss_cons (ps_set (i := 3) sc_first_time.nd rfl (Or.inl rfl) (pe_own D_held (hr.mono (by omega)) (by rfl) (pa_cons (pe_slice sl_tupA (pv 0) po_none (po_some (pv 1))) pa_nil)))
      (pss_cons (ps_set (i := 4) sc_first_time.nd rfl (Or.inl rfl) (pe_own D_held (hr.mono (by omega)) (by rfl) (pa_cons (pe_slice sl_tupA (pv 0) (po_some (pv 1)) po_none) pa_nil)))
      (pss_one (ps_ret (pe_ifExp (pt_cmpR op_lt (pv 2) (pv 3) (nomark _)) (pv 2) (pe_op op_add (pv 3) (pe_op op_modN (pe_op op_sub (pv 2) (pv 3)) (pv 4)))))))), ?_⟩
    refine ⟨_, rfl, _, rfl, _, rfl, sl_rows (rs.take k) hq (by rw [cut_to]; exact Paired.takeP k pd) (fun H1 v1 s1 h1 => ?_)⟩
    refine ⟨v1, rs.take k, rfl, h1, by rw [List.length_take]; omega, fun H2 s2 => ?_⟩
    have pd2 : Paired (RowAt K H2) vs rs := Paired.mono pd fun _ _ => RowAt.keep (Same.tk (s1.trans s2))
    have hq2 := Same.sqT (s1.trans s2) hq
    refine ⟨_, rfl, _, rfl, _, rfl, ?_⟩
    dsimp only [tNoPart]
    refine sl_rows (rs.drop k) hq2 (by rw [cut_from]; exact Paired.dropP k pd2) (fun H3 v3 s3 h3 => ?_)
    refine ⟨v3, rs.drop k, rfl, h3, by rw [List.length_drop]; omega, fun H4 s4 => ?_⟩
    have q' := q H4 (((s1.trans s2).trans s3).trans s4)
    unfold near at q'
    dsimp only at q'
    rw [Int.toNat_natCast] at q'
    have cpos : 0 < tot (rs.drop k) := by
      have := (tot_nonneg (rs := rs.drop k) fun q hq => vr q (List.mem_of_mem_drop hq)).1
      rw [List.length_drop] at this
      omega
    refine ⟨_, rfl, _, rfl, m, _, rfl, rfl, _, rfl, ite2 (fun e => ?_) (fun e => ?_)⟩
    · rw [if_pos (of_decide_eq_true e)] at q'
      exact ⟨_, rfl, q'⟩
    · rw [if_neg (fun z => e (decide_eq_true z))] at q'
      refine ⟨_, rfl, _, rfl, _, rfl, _, _, rfl, rfl, _, rfl, _, _, rfl, rfl, by omega, _, _, rfl, rfl, ?_⟩
      rw [Int.fmod_eq_emod_of_nonneg _ (by omega)]
      exact q'
def sp_drawing_of (K : PySem.W.Frag) : Sp := fun vs H Q _ => ∃ (v : V) (rs : List RW) (bk : Option Int) (m : Int), vs = [v, .int m] ∧ LayAt K H v rs bk ∧ VRows rs ∧ VBack rs bk ∧ ∀ H', Same H H' → Q (.int (shown rs bk m)) H'
theorem ok_drawing_of {f : Addr} {fd : FuncData} (F : Fun K "drawing_of" "drawing_of" s_drawing_of f fd) (T : Txt K mg) (D_first_time : Cl P w K mg base 2 "first_time" ["rows", "back", "moment"] (sp_first_time K)) : FnOk P w K mg base CX0 3 f fd ["layer", "moment"] (sp_drawing_of K) := by
  refine F.ok sc_drawing_of (fun vs H Q E h => ?_) (fun cdv A outer s H vs Q E hr h => ?_)
  · obtain ⟨v, rs, bk, m, rfl, _⟩ := h
    rfl
  · obtain ⟨v, rs, bk, m, rfl, ⟨p, rv, rfl, hp, pr, vs, rfl, hq, pd⟩, ⟨v8, vr⟩, vb, q⟩ := h
    have hl : vs.length = rs.length := Paired.length pd
    have key : ∀ R : VK, (∀ H', Same H H' → R (.int (near rs bk m)) H') → tIf (tTest (tOp (fun x y H Q => y = .non ∧ Q (.bl (decide (x = .non))) H) (tVar 3) (tC .non))) (tVar 1) (tCall (sp_first_time K) [] E0 (tCons (tVar 2) (tCons (tVar 3) (tCons (tVar 1) tNil)))) [some (.ref p), some (.int m), some (.ref pr), some (bkV bk), none, none, none] H R := by
      intro R hR
      refine ⟨_, rfl, rfl, _, rfl, ?_⟩
      cases bk with
      | none => exact ite2 (fun _ => ⟨_, rfl, hR _ (Same.refl _)⟩) (fun e => absurd (decide_eq_true rfl) e)
      | some b =>
        refine ite2 (fun e => nomatch (of_decide_eq_true e)) (fun _ => ?_)
        exact ⟨_, rfl, _, rfl, _, rfl, _, rs, b, m, rfl, ⟨pr, vs, rfl, hq, pd⟩, ⟨v8, vr⟩, vb, hR⟩
    refine ⟨_, (pss_cons (ps_asg (pv 0) (pg_tup (by rfl) (pgs_cons (pg_name (i := 2) sc_drawing_of.nd rfl (Or.inl rfl)) (pgs_cons (pg_name (i := 3) sc_drawing_of.nd rfl (Or.inl rfl)) pgs_nil))))
      (pss_cons (ps_set (i := 4) sc_drawing_of.nd rfl (Or.inl rfl) (pe_ifExp (pt_cmpR op_isN (pv 3) pe_non (nomark _)) (pv 1) (pe_own D_first_time (hr.mono (by omega)) (by rfl) (pa_cons (pv 2) (pa_cons (pv 3) (pa_cons (pv 1) pa_nil))))))
      (pss_cons (ps_for PassesOwn.never rfl (pi_tup (pv 2)) (pg_tup (by rfl) (pgs_cons (pg_name (i := 5) sc_drawing_of.nd rfl (Or.inl rfl)) (pgs_cons (pg_name (i := 6) sc_drawing_of.nd rfl (Or.inl rfl)) pgs_nil)))
        (pss_cons (ps_if (pt_cmpR op_lt (pv 4) (pv 6) (nomark _)) (pss_one (ps_ret (pv 5))) pss_nil)
      (pss_one (ps_aug (i := 4) sc_drawing_of.nd rfl (Or.inl rfl) (pv 6) ip_sub))))
      (pss_one (ps_ret pe_int))))), ?_⟩
    refine ⟨_, rfl, p, _, rfl, hp, rfl, _, _, rfl, _, _, rfl, rfl, ?_⟩
    refine key _ (fun H1 s1 => ?_)
    refine ⟨_, rfl, pr, rfl, ⟨_, Same.sqT s1 hq⟩, for_tup (K := K) (a := pr) (xs := vs) (fun i σ H2 => ∃ (n : Int) (x y : Option V), σ = [some (.ref p), some (.int m), some (.ref pr), some (bkV bk), some (.int n), x, y] ∧ Same H H2 ∧ walk (rs.drop i) n = shown rs bk m)
      ⟨_, none, none, rfl, s1, rfl⟩ (fun i σ H2 _ ⟨_, _, _, _, s2, _⟩ => Same.sqT s2 hq) ?_ ?_⟩
    · rintro i x σ H2 hx ⟨n, y1, y2, rfl, s2, e⟩
      obtain ⟨r, hr1, pw, rfl, hrow⟩ := Paired.at pd hx
      have hi : i < rs.length := (List.getElem?_eq_some_iff.mp hr1).1
      have ed : rs.drop i = r :: rs.drop (i + 1) := by
        rw [List.drop_eq_getElem_cons hi]
        congr 1
        rw [List.getElem?_eq_getElem hi] at hr1
        exact Option.some.inj hr1
      rw [ed] at e
      unfold walk at e
      refine ⟨pw, _, rfl, Same.sqT s2 hrow, rfl, _, _, rfl, _, _, rfl, rfl, ?_⟩
      refine ⟨_, rfl, _, rfl, n, r.2, rfl, rfl, _, rfl, ite2 (fun c => ?_) (fun c => ?_)⟩
      · rw [if_pos (of_decide_eq_true c)] at e
        refine ⟨_, rfl, ?_⟩
        show Q (.int r.1) H2
        rw [e]
        exact q _ s2
      · rw [if_neg (fun z => c (decide_eq_true z))] at e
        exact ⟨_, rfl, _, rfl, n, r.2, rfl, rfl, n - r.2, _, _, rfl, s2, e⟩
    · rintro σ H2 ⟨n, y1, y2, rfl, s2, e⟩
      rw [List.drop_of_length_le (by omega)] at e
      show Q (.int 0) H2
      rw [show (0 : Int) = shown rs bk m from e]
      exact q _ s2
end

section
variable {P : Program} {w : World} {K : PySem.W.Frag} {mg : Str → Option Value} {base : Heap}
def sp_is_way (K : PySem.W.Frag) : Sp := fun vs H Q _ => ∃ n : Int, vs = [.int n] ∧ Q (.bl (decide (-20 ≤ n ∧ n ≤ 20))) H
theorem ok_is_way {f : Addr} {fd : FuncData} (F : Fun K "is_way" "is_way" s_is_way f fd) (T : Txt K mg) (D_is_whole : Cl P w K mg base 2 "is_whole" ["thing", "least", "most"] (sp_is_whole K)) : FnOk P w K mg base CX0 3 f fd ["thing"] (sp_is_way K) := by
  refine F.ok sc_is_way (fun vs H Q E h => ?_) (fun cdv A outer s H vs Q E hr h => ?_)
  · obtain ⟨n, rfl, q⟩ := h
    rfl
  · obtain ⟨n, rfl, q⟩ := h
    refine ⟨_, (pss_one (ps_ret (pe_own D_is_whole (hr.mono (by omega)) (by rfl) (pa_cons (pv 0) (pa_cons (pe_un un_neg (pe_gint (by rfl) T.c_MOST_WAY)) (pa_cons (pe_gint (by rfl) T.c_MOST_WAY) pa_nil)))))), ?_⟩
    exact ⟨_, rfl, 20, rfl, n, -20, 20, rfl, q⟩
def sp_is_many (K : PySem.W.Frag) : Sp := fun vs H Q _ => ∃ n : Int, vs = [.int n] ∧ Q (.bl (decide (0 ≤ n ∧ n ≤ 24))) H
theorem ok_is_many {f : Addr} {fd : FuncData} (F : Fun K "is_many" "is_many" s_is_many f fd) (T : Txt K mg) (D_is_whole : Cl P w K mg base 2 "is_whole" ["thing", "least", "most"] (sp_is_whole K)) : FnOk P w K mg base CX0 3 f fd ["thing"] (sp_is_many K) := by
  refine F.ok sc_is_many (fun vs H Q E h => ?_) (fun cdv A outer s H vs Q E hr h => ?_)
  · obtain ⟨n, rfl, q⟩ := h
    rfl
  · obtain ⟨n, rfl, q⟩ := h
    refine ⟨_, (pss_one (ps_ret (pe_own D_is_whole (hr.mono (by omega)) (by rfl) (pa_cons (pv 0) (pa_cons pe_int (pa_cons (pe_gint (by rfl) T.c_MOST_MANY) pa_nil)))))), ?_⟩
    exact ⟨_, rfl, n, 0, 24, rfl, q⟩
def sp_is_move (K : PySem.W.Frag) : Sp := fun vs H Q _ => ∃ (v : V) (m : MV), vs = [v] ∧ MoveAt K H v m ∧ VMove m ∧ Q (.bl true) H
theorem ok_is_move {f : Addr} {fd : FuncData} (F : Fun K "is_move" "is_move" s_is_move f fd) (T : Txt K mg) (D_is_tuple : Cl P w K mg base 1 "is_tuple" ["thing", "least", "most"] (sp_is_tuple K)) (D_is_way : Cl P w K mg base 3 "is_way" ["thing"] (sp_is_way K)) (D_is_many : Cl P w K mg base 3 "is_many" ["thing"] (sp_is_many K)) : FnOk P w K mg base CX0 4 f fd ["thing"] (sp_is_move K) := by
  refine F.ok sc_is_move (fun vs H Q E h => ?_) (fun cdv A outer s H vs Q E hr h => ?_)
  · obtain ⟨v, m, rfl, _⟩ := h
    rfl
  · obtain ⟨v, ⟨x, y, n⟩, rfl, ⟨p, rfl, hp⟩, ⟨vx, vy, v3, v4⟩, q⟩ := h
    refine ⟨_, (pss_cons (ps_if (pt_not (pt_val (pe_own D_is_tuple (hr.mono (by omega)) (by rfl) (pa_cons (pv 0) (pa_cons pe_int (pa_cons pe_int pa_nil)))))) (pss_one (ps_ret pe_bl)) pss_nil)
      (pss_cons (ps_asg (pv 0) (pg_tup (by rfl) (pgs_cons (pg_name (i := 1) sc_is_move.nd rfl (Or.inl rfl)) (pgs_cons (pg_name (i := 2) sc_is_move.nd rfl (Or.inl rfl)) (pgs_cons (pg_name (i := 3) sc_is_move.nd rfl (Or.inl rfl)) pgs_nil)))))
      (pss_one (ps_ret (pe_and (pe_own D_is_way (hr.mono (by omega)) (by rfl) (pa_cons (pv 1) pa_nil)) (pe_and (pe_own D_is_way (hr.mono (by omega)) (by rfl) (pa_cons (pv 2) pa_nil)) (pe_one (pe_own D_is_many (hr.mono (by omega)) (by rfl) (pa_cons (pv 3) pa_nil))))))))), ?_⟩
    refine ⟨_, rfl, p, _, 3, 3, rfl, hp, _, rfl, iteF ?_⟩
    refine ⟨_, rfl, p, _, rfl, hp, rfl, _, _, rfl, _, _, rfl, _, _, rfl, rfl, ?_⟩
    refine ⟨_, rfl, x, rfl, true, ?_, iteT ?_⟩
    · rw [show decide ((-20 : Int) ≤ x ∧ x ≤ 20) = true from decide_eq_true vx]
    refine ⟨_, rfl, y, rfl, true, ?_, iteT ?_⟩
    · rw [show decide ((-20 : Int) ≤ y ∧ y ≤ 20) = true from decide_eq_true vy]
    refine ⟨_, rfl, n, rfl, ?_⟩
    rw [show decide ((0 : Int) ≤ n ∧ n ≤ 24) = true from decide_eq_true ⟨v3, v4⟩]
    exact q
def sp_is_window (K : PySem.W.Frag) : Sp := fun vs H Q _ => ∃ (v : V) (x y : Int) (ms : List MV), vs = [v] ∧ WinAt K H v x y ms ∧ VWin x y ms ∧ ∀ H', Same H H' → Q (.bl true) H'
theorem ok_is_window {f : Addr} {fd : FuncData} (F : Fun K "is_window" "is_window" s_is_window f fd) (T : Txt K mg) (D_is_tuple : Cl P w K mg base 1 "is_tuple" ["thing", "least", "most"] (sp_is_tuple K)) (D_is_way : Cl P w K mg base 3 "is_way" ["thing"] (sp_is_way K)) (D_is_move : Cl P w K mg base 4 "is_move" ["thing"] (sp_is_move K)) : FnOk P w K mg base CX0 5 f fd ["thing"] (sp_is_window K) := by
  refine F.ok sc_is_window (fun vs H Q E h => ?_) (fun cdv A outer s H vs Q E hr h => ?_)
  · obtain ⟨v, x, y, ms, rfl, _⟩ := h
    rfl
  · obtain ⟨v, x, y, ms, rfl, ⟨p, mv, rfl, hp, pm, vs, rfl, hq, pd⟩, ⟨vx, vy, v8, vm⟩, q⟩ := h
    have hl : vs.length = ms.length := Paired.length pd
    refine ⟨_, (pss_cons (ps_if (pt_not (pt_val (pe_own D_is_tuple (hr.mono (by omega)) (by rfl) (pa_cons (pv 0) (pa_cons pe_int (pa_cons pe_int pa_nil)))))) (pss_one (ps_ret pe_bl)) pss_nil)
      (pss_cons (ps_asg (pv 0) (pg_tup (by rfl) (pgs_cons (pg_name (i := 1) sc_is_window.nd rfl (Or.inl rfl)) (pgs_cons (pg_name (i := 2) sc_is_window.nd rfl (Or.inl rfl)) (pgs_cons (pg_name (i := 3) sc_is_window.nd rfl (Or.inl rfl)) pgs_nil)))))
      (pss_cons (ps_if (PW.pt (pw_or (pt_not (pt_val (pe_own D_is_way (hr.mono (by omega)) (by rfl) (pa_cons (pv 1) pa_nil)))) (pw_or (pt_not (pt_val (pe_own D_is_way (hr.mono (by omega)) (by rfl) (pa_cons (pv 2) pa_nil)))) (pw_or1 (pt_not (pt_val (pe_own D_is_tuple (hr.mono (by omega)) (by rfl) (pa_cons (pv 3) (pa_cons pe_int (pa_cons (pe_gint (by rfl) T.c_MOST_MOVES) pa_nil)))))))))) (pss_one (ps_ret pe_bl)) pss_nil)
      (pss_one (ps_ret (pe_callB (cr_all rfl) (by rfl) T.b_all (by decide +kernel) (pa_cons (pe_lc (own := [("move", 4)]) (g := (gName 4)) (tt := tYes) (by rfl) sc_is_window.nd (pi_tup (pv 3)) (blkOk_by (own := [("move", 4)]) (N := ["thing", "x", "y", "moves", "move"]) (sc := defScope s_is_window) (by decide +kernel)) (fun _ _ _ _ _ => (pg_name (i := 4) sc_is_window.nd rfl (Or.inl rfl))) (fun _ _ _ _ _ => pts_nil) (fun _ _ _ _ _ => (pe_own D_is_move (hr.mono (by omega)) (by rfl) (pa_cons (pv 4) pa_nil)))) pa_nil))))))), ?_⟩
    refine ⟨_, rfl, p, _, 3, 3, rfl, hp, _, rfl, iteF ?_⟩
    refine ⟨_, rfl, p, _, rfl, hp, rfl, _, _, rfl, _, _, rfl, _, _, rfl, rfl, ?_⟩
    refine ⟨_, rfl, x, rfl, _, rfl, ?_⟩
    rw [show decide ((-20 : Int) ≤ x ∧ x ≤ 20) = true from decide_eq_true vx]
    refine iteF ?_
    refine ⟨_, rfl, y, rfl, _, rfl, ?_⟩
    rw [show decide ((-20 : Int) ≤ y ∧ y ≤ 20) = true from decide_eq_true vy]
    refine iteF ?_
    refine ⟨_, rfl, pm, vs, 0, 8, rfl, hq, _, rfl, ?_⟩
    rw [show decide ((0 : Int) ≤ (vs.length : Int) ∧ (vs.length : Int) ≤ 8) = true from decide_eq_true ⟨by omega, by omega⟩]
    refine iteF ?_
    refine ⟨_, rfl, pm, rfl, ⟨_, hq⟩, fun D hD => ?_⟩
    refine lcmap_tup ((vs.map fun _ => true).map V.bl) (by simp) (by omega) hq hD (fun i x y H2 R Z hx hy s2 hR => ?_) (fun H2 s2 hL => ?_)
    · obtain ⟨m, hm1, hm⟩ := Paired.at pd hx
      have ey : y = .bl true := by
        rw [List.map_map, List.getElem?_map, hx] at hy
        exact (Option.some.inj hy).symm
      subst ey
      exact ⟨rfl, yes_ok ⟨_, rfl, x, m, rfl, hm.keep (Same.tk s2), vm m (List.mem_of_getElem? hm1), hR _ (Same.refl _)⟩⟩
    · refine ⟨D, _, rfl, .inl (.inl hL), ?_⟩
      rw [show ((vs.map fun _ => true).all id) = true by simp]
      exact q _ s2
end

section
variable {P : Program} {w : World} {K : PySem.W.Frag} {mg : Str → Option Value} {base : Heap}
def sp_moved (K : PySem.W.Frag) : Sp := fun vs H Q _ => ∃ (v : V) (x y : Int) (ms : List MV), vs = [v] ∧ WinAt K H v x y ms ∧ ms.length ≤ 8 ∧ ∀ H', Same H H' → Q (.int (mtot ms)) H'
theorem ok_moved {f : Addr} {fd : FuncData} (F : Fun K "moved" "moved" s_moved f fd) (T : Txt K mg) : FnOk P w K mg base CX0 1 f fd ["window"] (sp_moved K) := by
  refine F.ok sc_moved (fun vs H Q E h => ?_) (fun cdv A outer s H vs Q E hr h => ?_)
  · obtain ⟨v, x, y, ms, rfl, _⟩ := h
    rfl
  · obtain ⟨v, x, y, ms, rfl, ⟨p, mv, rfl, hp, pm, vs, rfl, hq, pd⟩, hz, q⟩ := h
    have hl : vs.length = ms.length := Paired.length pd
    refine ⟨_, (pss_cons (ps_asg (pv 0) (pg_tup (by rfl) (pgs_cons (pg_name (i := 1) sc_moved.nd rfl (Or.inl rfl)) (pgs_cons (pg_name (i := 2) sc_moved.nd rfl (Or.inl rfl)) (pgs_cons (pg_name (i := 3) sc_moved.nd rfl (Or.inl rfl)) pgs_nil)))))
      (pss_one (ps_ret (pe_callB (cr_sum rfl) (by rfl) T.b_sum (by decide +kernel) (pa_cons (pe_lc (own := [("goal_x", 4), ("goal_y", 5), ("many", 6)]) (g := (gTup _ 3 (gCons (gName 4) (gCons (gName 5) (gCons (gName 6) gNil))))) (tt := tYes) (by rfl) sc_moved.nd (pi_tup (pv 3)) (blkOk_by (own := [("goal_x", 4), ("goal_y", 5), ("many", 6)]) (N := ["window", "x", "y", "moves", "goal_x", "goal_y", "many"]) (sc := defScope s_moved) (by decide +kernel)) (fun _ _ _ _ _ => (pg_tup (by rfl) (pgs_cons (pg_name (i := 4) sc_moved.nd rfl (Or.inl rfl)) (pgs_cons (pg_name (i := 5) sc_moved.nd rfl (Or.inl rfl)) (pgs_cons (pg_name (i := 6) sc_moved.nd rfl (Or.inl rfl)) pgs_nil))))) (fun _ _ _ _ _ => pts_nil) (fun _ _ _ _ _ => (pv 6))) pa_nil))))), ?_⟩
    refine ⟨_, rfl, p, _, rfl, hp, rfl, _, _, rfl, _, _, rfl, _, _, rfl, rfl, ?_⟩
    refine ⟨_, rfl, pm, rfl, ⟨_, hq⟩, fun D hD => ?_⟩
    refine lcmap_tup ((ms.map (·.2.2)).map V.int) (by simp [hl]) (by omega) hq hD (fun i x y H2 R Z hx hy s2 hR => ?_) (fun H2 s2 hL => ?_)
    · obtain ⟨m, hm1, pw, rfl, hrow⟩ := Paired.at pd hx
      have ey : y = .int m.2.2 := by
        rw [List.map_map, List.getElem?_map, hm1] at hy
        exact (Option.some.inj hy).symm
      subst ey
      exact ⟨pw, _, rfl, Same.sqT s2 hrow, rfl, _, _, rfl, _, _, rfl, _, _, rfl, rfl, rfl, yes_ok ⟨_, rfl, hR _ (Same.refl _)⟩⟩
    · exact ⟨D, _, rfl, .inl (.inl hL), q _ s2⟩
end

section
variable {P : Program} {w : World} {K : PySem.W.Frag} {mg : Str → Option Value} {base : Heap}
def sp_is_sheet (K : PySem.W.Frag) : Sp := fun vs H Q _ => ∃ (v : V) (ls : List LY) (x y : Int) (ms : List MV), vs = [v] ∧ ShAt K H v ls x y ms ∧ VLays ls ∧ VWin x y ms ∧ ∀ H', Same H H' → Q (.bl true) H'
theorem ok_is_sheet {f : Addr} {fd : FuncData} (F : Fun K "is_sheet" "is_sheet" s_is_sheet f fd) (T : Txt K mg) (D_is_tuple : Cl P w K mg base 1 "is_tuple" ["thing", "least", "most"] (sp_is_tuple K)) (D_is_window : Cl P w K mg base 5 "is_window" ["thing"] (sp_is_window K)) (D_is_layer : Cl P w K mg base 5 "is_layer" ["thing"] (sp_is_layer K)) : FnOk P w K mg base CX0 6 f fd ["thing"] (sp_is_sheet K) := by
  refine F.ok sc_is_sheet (fun vs H Q E h => ?_) (fun cdv A outer s H vs Q E hr h => ?_)
  · obtain ⟨v, ls, x, y, ms, rfl, _⟩ := h
    rfl
  · obtain ⟨v, ls, x, y, ms, rfl, ⟨p, lv, wv, rfl, hp, ⟨pl, vs, rfl, hq, pd⟩, hw⟩, ⟨v1, v4, vl⟩, vw, q⟩ := h
    have hl : vs.length = ls.length := Paired.length pd
    refine ⟨_, (pss_cons (ps_if (pt_not (pt_val (pe_own D_is_tuple (hr.mono (by omega)) (by rfl) (pa_cons (pv 0) (pa_cons pe_int (pa_cons pe_int pa_nil)))))) (pss_one (ps_ret pe_bl)) pss_nil)
      (pss_cons (ps_asg (pv 0) (pg_tup (by rfl) (pgs_cons (pg_name (i := 1) sc_is_sheet.nd rfl (Or.inl rfl)) (pgs_cons (pg_name (i := 2) sc_is_sheet.nd rfl (Or.inl rfl)) pgs_nil))))
      (pss_cons (ps_if (pt_not (pt_val (pe_own D_is_tuple (hr.mono (by omega)) (by rfl) (pa_cons (pv 1) (pa_cons pe_int (pa_cons (pe_gint (by rfl) T.c_MOST_LAYERS) pa_nil)))))) (pss_one (ps_ret pe_bl)) pss_nil)
      (pss_one (ps_ret (pe_and (pe_callB (cr_all rfl) (by rfl) T.b_all (by decide +kernel) (pa_cons (pe_lc (own := [("layer", 3)]) (g := (gName 3)) (tt := tYes) (by rfl) sc_is_sheet.nd (pi_tup (pv 1)) (blkOk_by (own := [("layer", 3)]) (N := ["thing", "layers", "window", "layer"]) (sc := defScope s_is_sheet) (by decide +kernel)) (fun _ _ _ _ _ => (pg_name (i := 3) sc_is_sheet.nd rfl (Or.inl rfl))) (fun _ _ _ _ _ => pts_nil) (fun _ _ _ _ _ => (pe_own D_is_layer (hr.mono (by omega)) (by rfl) (pa_cons (pv 3) pa_nil)))) pa_nil)) (pe_one (pe_own D_is_window (hr.mono (by omega)) (by rfl) (pa_cons (pv 2) pa_nil))))))))), ?_⟩
    refine ⟨_, rfl, p, _, 2, 2, rfl, hp, _, rfl, iteF ?_⟩
    refine ⟨_, rfl, p, _, rfl, hp, rfl, _, _, rfl, _, _, rfl, rfl, ?_⟩
    refine ⟨_, rfl, pl, vs, 1, 4, rfl, hq, _, rfl, ?_⟩
    rw [show decide ((1 : Int) ≤ (vs.length : Int) ∧ (vs.length : Int) ≤ 4) = true from decide_eq_true ⟨by omega, by omega⟩]
    refine iteF ?_
    refine ⟨_, rfl, pl, rfl, ⟨_, hq⟩, fun D hD => ?_⟩
    refine lcmap_tup ((vs.map fun _ => true).map V.bl) (by simp) (by omega) hq hD (fun i x y H2 R Z hx hy s2 hR => ?_) (fun H2 s2 hL => ?_)
    · obtain ⟨l, hl1, hly⟩ := Paired.at pd hx
      have ey : y = .bl true := by
        rw [List.map_map, List.getElem?_map, hx] at hy
        exact (Option.some.inj hy).symm
      subst ey
      have vl1 := vl l (List.mem_of_getElem? hl1)
      exact ⟨rfl, yes_ok ⟨_, rfl, x, l.1, l.2, rfl, LayAt.keep (Same.tk s2) hly, vl1.1, vl1.2, hR⟩⟩
    · refine ⟨D, _, rfl, .inl (.inl hL), true, ?_, iteT ?_⟩
      · rw [show ((vs.map fun _ => true).all id) = true by simp]
      · exact ⟨_, rfl, wv, x, y, ms, rfl, hw.keep (Same.tk s2), vw, fun H3 s3 => q _ (s2.trans s3)⟩
def sp_need_sheet (K : PySem.W.Frag) : Sp := fun vs H Q _ => ∃ (v : V) (ls : List LY) (x y : Int) (ms : List MV), vs = [v] ∧ ShAt K H v ls x y ms ∧ VLays ls ∧ VWin x y ms ∧ ∀ H', Same H H' → Q .non H'
theorem ok_need_sheet {f : Addr} {fd : FuncData} (F : Fun K "need_sheet" "need_sheet" s_need_sheet f fd) (T : Txt K mg) (D_is_sheet : Cl P w K mg base 6 "is_sheet" ["thing"] (sp_is_sheet K)) : FnOk P w K mg base CX0 7 f fd ["thing"] (sp_need_sheet K) := by
  refine F.ok sc_need_sheet (fun vs H Q E h => ?_) (fun cdv A outer s H vs Q E hr h => ?_)
  · obtain ⟨v, ls, x, y, ms, rfl, _⟩ := h
    rfl
  · obtain ⟨v, ls, x, y, ms, rfl, hl, v8, vw, q⟩ := h
    refine ⟨_, (pss_one (ps_if (pt_not (pt_val (pe_own D_is_sheet (hr.mono (by omega)) (by rfl) (pa_cons (pv 0) pa_nil)))) (pss_one ps_never) pss_nil)), ?_⟩
    exact ⟨_, rfl, v, ls, x, y, ms, rfl, hl, v8, vw, fun H' s' => ⟨_, rfl, iteF (q _ s')⟩⟩
end

section
variable {P : Program} {w : World} {K : PySem.W.Frag} {mg : Str → Option Value} {base : Heap}
def sp_length_of (K : PySem.W.Frag) : Sp := fun vs H Q _ => ∃ (v : V) (l : LY), vs = [v] ∧ LyAt K H v l ∧ VLy l ∧ ∀ H', Same H H' → Q (bkV (lenL l)) H'
theorem ok_length_of {f : Addr} {fd : FuncData} (F : Fun K "length_of" "length_of" s_length_of f fd) (T : Txt K mg) (D_held : Cl P w K mg base 1 "held" ["rows"] (sp_held K)) : FnOk P w K mg base CX0 2 f fd ["layer"] (sp_length_of K) := by
  refine F.ok sc_length_of (fun vs H Q E h => ?_) (fun cdv A outer s H vs Q E hr h => ?_)
  · obtain ⟨v, l, rfl, _⟩ := h
    rfl
  · obtain ⟨v, ⟨rs, bk⟩, rfl, ⟨p, rv, rfl, hp, hq⟩, ⟨v8, vb⟩, q⟩ := h
    refine ⟨_, (pss_cons (ps_asg (pv 0) (pg_tup (by rfl) (pgs_cons (pg_name (i := 1) sc_length_of.nd rfl (Or.inl rfl)) (pgs_cons (pg_name (i := 2) sc_length_of.nd rfl (Or.inl rfl)) pgs_nil))))
      (pss_one (ps_ret (pe_ifExp (pt_cmpR op_isN (pv 2) pe_non (nomark _)) (pe_own D_held (hr.mono (by omega)) (by rfl) (pa_cons (pv 1) pa_nil)) pe_non)))), ?_⟩
    refine ⟨_, rfl, p, _, rfl, hp, rfl, _, _, rfl, _, _, rfl, rfl, ?_⟩
    refine ⟨_, rfl, rfl, _, rfl, ?_⟩
    cases bk with
    | none =>
      refine ite2 (fun _ => ?_) (fun e => absurd (decide_eq_true rfl) e)
      have := v8.1
      exact ⟨_, rfl, rv, rs, rfl, hq, by dsimp only at this; omega, q⟩
    | some b => exact ite2 (fun e => nomatch (of_decide_eq_true e)) (fun _ => q _ (Same.refl _))
def sp_full_length (K : PySem.W.Frag) : Sp := fun vs H Q _ => ∃ (v : V) (ls : List LY) (x y : Int) (ms : List MV), vs = [v] ∧ ShAt K H v ls x y ms ∧ VLays ls ∧ VWin x y ms ∧ ∀ H' r, Same H H' → ShLen ls (mtot ms) r → Q (bkV r) H'
theorem ok_full_length {f : Addr} {fd : FuncData} (F : Fun K "full_length" "full_length" s_full_length f fd) (T : Txt K mg) (D_length_of : Cl P w K mg base 2 "length_of" ["layer"] (sp_length_of K)) (D_moved : Cl P w K mg base 1 "moved" ["window"] (sp_moved K)) : FnOk P w K mg base CX0 3 f fd ["sheet"] (sp_full_length K) := by
  refine F.ok sc_full_length (fun vs H Q E h => ?_) (fun cdv A outer s H vs Q E hr h => ?_)
  · obtain ⟨v, ls, x, y, ms, rfl, _⟩ := h
    rfl
  · obtain ⟨v, ls, x, y, ms, rfl, hsh, vL, vw, q⟩ := h
    refine ⟨_, (pss_cons (ps_asg (pv 0) (pg_tup (by rfl) (pgs_cons (pg_name (i := 1) sc_full_length.nd rfl (Or.inl rfl)) (pgs_cons (pg_name (i := 2) sc_full_length.nd rfl (Or.inl rfl)) pgs_nil))))
      (pss_cons (ps_setLc (i := 3) (own := [("layer", 4)]) (g := (gName 4)) (tt := tYes) (by rfl) sc_full_length.nd rfl rfl (sw_true rfl rfl rfl (by decide +kernel)) (pi_tup (pv 1)) (blkOk_by (own := [("layer", 4)]) (N := ["sheet", "layers", "window", "lengths", "layer"]) (sc := defScope s_full_length) (by decide +kernel)) (fun _ _ _ _ _ => (pg_name (i := 4) sc_full_length.nd rfl (Or.inl rfl))) (fun _ _ _ _ _ => pts_nil) (fun _ _ _ _ _ => (pe_own D_length_of (hr.mono (by omega)) (by rfl) (pa_cons (pv 4) pa_nil))))
      (pss_cons (ps_if (pt_cmpR op_in_seq pe_non (pv 3) (by rfl)) (pss_one (ps_ret pe_non)) pss_nil)
      (pss_one (ps_ret (pe_callB (cr_max rfl) (by rfl) T.b_max (by decide +kernel) (pa_cons (pe_op op_cat (pv 3) (pe_lst (pa_cons (pe_own D_moved (hr.mono (by omega)) (by rfl) (pa_cons (pv 2) pa_nil)) pa_nil))) pa_nil))))))), ?_⟩
    obtain ⟨p, lv, wv, rfl, hp, ⟨pl, vs, rfl, hq, pd⟩, hw⟩ := hsh
    obtain ⟨v1, v4, vl⟩ := vL
    have hl : vs.length = ls.length := Paired.length pd
    refine ⟨_, rfl, p, _, rfl, hp, rfl, _, _, rfl, _, _, rfl, rfl, ?_⟩
    refine ⟨_, rfl, pl, rfl, ⟨_, hq⟩, fun D hD => ?_⟩
    refine lcmap_tup (ls.map fun l => bkV (lenL l)) (by simp [hl]) (by omega) hq hD (fun i x y H2 R Z hx hy s2 hR => ?_) (fun H2 s2 hL => ?_)
    · obtain ⟨l, hl1, hly⟩ := Paired.at pd hx
      have ey : y = bkV (lenL l) := by
        rw [List.getElem?_map, hl1] at hy
        exact (Option.some.inj hy).symm
      subst ey
      exact ⟨rfl, yes_ok ⟨_, rfl, x, l, rfl, hly.keep (Same.tk s2), vl l (List.mem_of_getElem? hl1), hR⟩⟩
    · have hfl : (ls.map fun l => bkV (lenL l)).all flatV = true := List.all_eq_true.mpr fun z hz => by
        obtain ⟨l, _, rfl⟩ := List.mem_map.mp hz
        exact bk_flat _
      refine ⟨_, rfl, D, _, rfl, .inl (.inl (.inl hL)), rfl, hfl, _, rfl, ite2 (fun e => ?_) (fun e => ?_)⟩
      · exact q _ none s2 (.inl ⟨(in_ends ls).mp e, rfl⟩)
      · obtain ⟨h1, h2⟩ := all_ints (fun z => e ((in_ends ls).mpr z))
        rw [h2] at hL
        refine ⟨_, rfl, _, rfl, wv, x, y, ms, rfl, hw.keep (Same.tk s2), vw.2.2.1, fun H3 s3 => ⟨(by show 1 ≤ sizeLine; decide), fun p4 np4 => ?_⟩⟩
        obtain ⟨s4, e4⟩ := new_at (.lst [.int (mtot ms)]) np4
        generalize upd H3 p4 (.lst [.int (mtot ms)]) = H4 at s4 e4 ⊢
        refine ⟨D, p4, _, _, rfl, rfl, s4 _ _ (s3 _ _ hL), e4, ?_, fun p5 np5 => ?_⟩
        · rw [List.length_map, List.length_map]
          exact Nat.le_of_lt (small1000 (by show ls.length + 1 ≤ 1000; omega))
        · refine ⟨p5, ls.map (fun l => tot l.1) ++ [mtot ms], rfl, .inl (.inl ?_), by simp, fun m hm hx => ?_⟩
          · rw [upd_same, List.map_append]
            rfl
          · exact q _ (some m) (((s2.trans s3).trans s4).trans (same_upd np5)) (.inr ⟨h1, m, rfl, hm, hx⟩)
end

section
variable {P : Program} {w : World} {K : PySem.W.Frag} {mg : Str → Option Value} {base : Heap}
def sp_common_divisor (K : PySem.W.Frag) : Sp := fun vs H Q _ => ∃ a b : Nat, vs = [.int a, .int b] ∧ Q (.int ((Nat.gcd a b : Nat) : Int)) H
theorem ok_common_divisor {f : Addr} {fd : FuncData} (F : Fun K "common_divisor" "common_divisor" s_common_divisor f fd) (T : Txt K mg) : FnOk P w K mg base CX0 1 f fd ["one", "other"] (sp_common_divisor K) := by
  refine F.ok sc_common_divisor (fun vs H Q E h => ?_) (fun cdv A outer s H vs Q E hr h => ?_)
  · obtain ⟨a, b, rfl, _⟩ := h
    rfl
  · obtain ⟨a, b, rfl, q⟩ := h
    refine ⟨_, (pss_cons (ps_while PassesOwn.never (pt_truth (pv 1) (by intro _; rfl)) (pss_one (ps_par (i := 0) (j := 1) (by rfl) sc_common_divisor.nd rfl rfl (by decide) rfl rfl (pa_cons (pv 1) (pa_cons (pe_op op_modN (pv 0) (pv 1)) pa_nil)) (by rfl))))
      (pss_one (ps_ret (pv 0)))), ?_⟩
    refine while_by (fun σ H' => H = H' ∧ ∃ c d : Nat, σ = [some (.int c), some (.int d)] ∧ Nat.gcd c d = Nat.gcd a b) (fun σ _ => match σ with | [_, some (.int d)] => d.toNat | _ => 0) ⟨rfl, a, b, rfl, rfl⟩ ?_ ?_
    · rintro σ H1 ⟨rfl, c, d, rfl, e⟩
      refine ⟨_, rfl, _, rfl, ite2 (fun hd => ?_) (fun hd => ?_)⟩
      · have d0 : (d : Int) ≠ 0 := fun z => by
          rw [z] at hd
          exact absurd hd (by decide)
        refine ⟨_, rfl, _, rfl, _, rfl, _, _, rfl, rfl, d0, _, _, rfl, ⟨rfl, d, c % d, ?_, ?_⟩, ?_⟩
        · show [some (V.int (d : Int)), some (V.int ((c : Int).fmod (d : Int)))] = _
          rw [Int.fmod_eq_emod_of_nonneg _ (by omega)]
          rfl
        · rw [← e, Nat.gcd_comm c d, Nat.gcd_rec d c, Nat.gcd_comm (c % d) d]
        · show ((c : Int).fmod (d : Int)).toNat < (d : Int).toNat
          have := (fm (x := (c : Int)) (m := (d : Int)) (by omega)).2
          omega
      · have d0 : d = 0 := by
          rcases Nat.eq_zero_or_pos d with z | z
          · exact z
          · exact absurd (show ((d : Int) != 0) = true from bne_iff_ne.mpr (by omega)) hd
        subst d0
        rw [Nat.gcd_zero_right] at e
        refine ⟨_, rfl, ?_⟩
        rw [e]
        exact q
    · rintro σ H1 Q1 Q2 hm ⟨v, e1, k, e2, e3⟩
      exact ⟨v, e1, k, e2, hm _ _ e3⟩
def sp_lowest (K : PySem.W.Frag) : Sp := fun vs H Q _ => ∃ t b : Int, vs = [.int t, .int b] ∧ 1 ≤ b ∧ b ≤ 1000 ∧ ∀ H' v, Same H H' → RowAt K H' v (lo t b) → Q v H'
theorem ok_lowest {f : Addr} {fd : FuncData} (F : Fun K "lowest" "lowest" s_lowest f fd) (T : Txt K mg) (D_common_divisor : Cl P w K mg base 1 "common_divisor" ["one", "other"] (sp_common_divisor K)) : FnOk P w K mg base CX0 2 f fd ["top", "bottom"] (sp_lowest K) := by
  refine F.ok sc_lowest (fun vs H Q E h => ?_) (fun cdv A outer s H vs Q E hr h => ?_)
  · obtain ⟨t, b, rfl, _⟩ := h
    rfl
  · obtain ⟨t, b, rfl, h1, h2, q⟩ := h
    refine ⟨_, (pss_cons (ps_set (i := 2) sc_lowest.nd rfl (Or.inl rfl) (pe_own D_common_divisor (hr.mono (by omega)) (by rfl) (pa_cons (pe_callB call_abs (by rfl) T.b_abs (by decide +kernel) (pa_cons (pv 0) pa_nil)) (pa_cons (pv 1) pa_nil))))
      (pss_one (ps_ret (pe_tup (pa_cons (pe_op op_fdivN (pv 0) (pv 2)) (pa_cons (pe_op op_fdivN (pv 1) (pv 2)) pa_nil)))))), ?_⟩
    obtain ⟨g, t', b', eg, gp, et, eb, bp, el, gle, _⟩ := gcd_facts (t := t) (show 0 < b by omega)
    refine ⟨_, rfl, t, rfl, _, rfl, t.natAbs, b.natAbs, ?_, ?_⟩
    · show [V.int (if t < 0 then -t else t), V.int b] = _
      rw [show (if t < 0 then -t else t) = (t.natAbs : Int) by split <;> omega, show b = ((b.natAbs : Nat) : Int) by omega]
      rfl
    rw [eg]
    refine ⟨_, rfl, _, rfl, t, g, rfl, rfl, ⟨by omega, by omega⟩, _, rfl, _, rfl, b, g, rfl, rfl, ⟨by omega, by omega⟩, (by show 2 ≤ sizeLine; decide), fun p np => ?_⟩
    refine q _ _ (same_upd np) ⟨p, rfl, .inl (.inl ?_)⟩
    rw [upd_same]
    show some (HO.tup [V.int (t.fdiv g), V.int (b.fdiv g)]) = _
    rw [Int.fdiv_eq_ediv_of_nonneg t (show 0 ≤ g by omega), Int.fdiv_eq_ediv_of_nonneg b (show 0 ≤ g by omega)]
    unfold lo
    rw [eg]
def sp_on_the_way (K : PySem.W.Frag) : Sp := fun vs H Q _ => ∃ s g k n : Int, vs = [.int s, .int g, .int k, .int n] ∧ (-20 ≤ s ∧ s ≤ 20) ∧ (-20 ≤ g ∧ g ≤ 20) ∧ 1 ≤ n ∧ n ≤ 1000 ∧ ∀ H' v, Same H H' → RowAt K H' v (lo (s * n + (g - s) * k) n) → Q v H'
theorem ok_on_the_way {f : Addr} {fd : FuncData} (F : Fun K "on_the_way" "on_the_way" s_on_the_way f fd) (T : Txt K mg) (D_lowest : Cl P w K mg base 2 "lowest" ["top", "bottom"] (sp_lowest K)) : FnOk P w K mg base CX0 3 f fd ["start", "goal", "step", "many"] (sp_on_the_way K) := by
  refine F.ok sc_on_the_way (fun vs H Q E h => ?_) (fun cdv A outer s H vs Q E hr h => ?_)
  · obtain ⟨s, g, k, n, rfl, _⟩ := h
    rfl
  · obtain ⟨s0, g, k, n, rfl, hs, hg, h1, h2, q⟩ := h
    refine ⟨_, (pss_one (ps_ret (pe_own D_lowest (hr.mono (by omega)) (by rfl) (pa_cons (pe_op op_add (pe_op op_mul (pv 0) (pv 3)) (pe_op op_mul (pe_op op_sub (pv 1) (pv 0)) (pv 2))) (pa_cons (pv 3) pa_nil))))), ?_⟩
    exact ⟨_, rfl, _, rfl, s0, n, rfl, rfl, .inl ⟨by omega, by omega⟩, _, rfl, _, rfl, g, s0, rfl, rfl, _, rfl, g - s0, k, rfl, rfl, .inl ⟨by omega, by omega⟩, _, _, rfl, rfl, _, rfl, _, n, rfl, h1, h2, q⟩
def sp_place_of (K : PySem.W.Frag) : Sp := fun vs H Q _ => ∃ (v : V) (x y : Int) (ms : List MV) (m : Int), vs = [v, .int m] ∧ WinAt K H v x y ms ∧ VWin x y ms ∧ 0 ≤ m ∧ ∀ H' v, Same H H' → PlAt K H' v (plc x y ms m) → Q v H'
theorem ok_place_of {f : Addr} {fd : FuncData} (F : Fun K "place_of" "place_of" s_place_of f fd) (T : Txt K mg) (D_on_the_way : Cl P w K mg base 3 "on_the_way" ["start", "goal", "step", "many"] (sp_on_the_way K)) : FnOk P w K mg base CX0 4 f fd ["window", "moment"] (sp_place_of K) := by
  refine F.ok sc_place_of (fun vs H Q E h => ?_) (fun cdv A outer s H vs Q E hr h => ?_)
  · obtain ⟨v, x, y, ms, m, rfl, _⟩ := h
    rfl
  · obtain ⟨v, x, y, ms, m, rfl, ⟨p, mv, rfl, hp, pm, vs, rfl, hq, pd⟩, ⟨vx, vy, v8, vm⟩, m0, q⟩ := h
    have hl : vs.length = ms.length := Paired.length pd
    refine ⟨_, (pss_cons (ps_asg (pv 0) (pg_tup (by rfl) (pgs_cons (pg_name (i := 2) sc_place_of.nd rfl (Or.inl rfl)) (pgs_cons (pg_name (i := 3) sc_place_of.nd rfl (Or.inl rfl)) (pgs_cons (pg_name (i := 4) sc_place_of.nd rfl (Or.inl rfl)) pgs_nil)))))
      (pss_cons (ps_set (i := 5) sc_place_of.nd rfl (Or.inl rfl) (pv 1))
      (pss_cons (ps_for PassesOwn.never rfl (pi_tup (pv 4)) (pg_tup (by rfl) (pgs_cons (pg_name (i := 6) sc_place_of.nd rfl (Or.inl rfl)) (pgs_cons (pg_name (i := 7) sc_place_of.nd rfl (Or.inl rfl)) (pgs_cons (pg_name (i := 8) sc_place_of.nd rfl (Or.inl rfl)) pgs_nil))))
        (pss_cons (ps_if (pt_cmpR op_lt (pv 5) (pv 8) (nomark _)) (pss_cons (ps_set (i := 9) sc_place_of.nd rfl (Or.inl rfl) (pe_op op_add (pv 5) pe_int))
      (pss_one (ps_ret (pe_tup (pa_cons (pe_own D_on_the_way (hr.mono (by omega)) (by rfl) (pa_cons (pv 2) (pa_cons (pv 6) (pa_cons (pv 9) (pa_cons (pv 8) pa_nil))))) (pa_cons (pe_own D_on_the_way (hr.mono (by omega)) (by rfl) (pa_cons (pv 3) (pa_cons (pv 7) (pa_cons (pv 9) (pa_cons (pv 8) pa_nil))))) pa_nil)))))) pss_nil)
      (pss_cons (ps_aug (i := 5) sc_place_of.nd rfl (Or.inl rfl) (pv 8) ip_sub)
      (pss_one (ps_par (i := 2) (j := 3) (by rfl) sc_place_of.nd rfl rfl (by decide) rfl rfl (pa_cons (pv 6) (pa_cons (pv 7) pa_nil)) (by rfl))))))
      (pss_one (ps_ret (pe_tup (pa_cons (pe_tup (pa_cons (pv 2) (pa_cons pe_int pa_nil))) (pa_cons (pe_tup (pa_cons (pv 3) (pa_cons pe_int pa_nil))) pa_nil)))))))), ?_⟩
    refine ⟨_, rfl, p, _, rfl, hp, rfl, _, _, rfl, _, _, rfl, _, _, rfl, rfl, ?_⟩
    refine ⟨_, rfl, _, rfl, pm, rfl, ⟨_, hq⟩, for_tup (K := K) (a := pm) (xs := vs) (fun i σ H' => H = H' ∧ ∃ (cx cy t : Int) (y6 y7 y8 y9 : Option V), σ = [some (.ref p), some (.int m), some (.int cx), some (.int cy), some (.ref pm), some (.int t), y6, y7, y8, y9] ∧ (-20 ≤ cx ∧ cx ≤ 20) ∧ (-20 ≤ cy ∧ cy ≤ 20) ∧ 0 ≤ t ∧ plc cx cy (ms.drop i) t = plc x y ms m)
      ⟨rfl, x, y, m, _, _, _, _, rfl, vx, vy, m0, rfl⟩ (fun i σ H' _ z => by rw [← z.1]; exact hq) ?_ ?_⟩
    · rintro i v σ H1 hv ⟨rfl, cx, cy, t, y6, y7, y8, y9, rfl, hcx, hcy, t0, e⟩
      obtain ⟨mm, hm1, pw, rfl, hrow⟩ := Paired.at pd hv
      have hi : i < ms.length := (List.getElem?_eq_some_iff.mp hm1).1
      have ed : ms.drop i = mm :: ms.drop (i + 1) := by
        rw [List.drop_eq_getElem_cons hi]
        congr 1
        rw [List.getElem?_eq_getElem hi] at hm1
        exact Option.some.inj hm1
      rw [ed, plc_cons] at e
      obtain ⟨vmx, vmy, vm3, vm4⟩ := vm mm (List.mem_of_getElem? hm1)
      refine ⟨pw, _, rfl, hrow, rfl, _, _, rfl, _, _, rfl, _, _, rfl, rfl, ?_⟩
      refine ⟨_, rfl, _, rfl, t, mm.2.2, rfl, rfl, _, rfl, ite2 (fun c => ?_) (fun c => ?_)⟩
      · have c1 : t < mm.2.2 := of_decide_eq_true c
        rw [if_pos c1] at e
        refine ⟨_, rfl, t, 1, rfl, rfl, ?_⟩
        refine ⟨_, rfl, _, rfl, _, rfl, _, rfl, cx, mm.1, t + 1, mm.2.2, rfl, hcx, vmx, by omega, by omega, fun H2 v1 s2 r2 => ?_⟩
        refine ⟨_, rfl, _, rfl, _, rfl, _, rfl, cy, mm.2.1, t + 1, mm.2.2, rfl, hcy, vmy, by omega, by omega, fun H3 v2 s3 r3 => ?_⟩
        refine ⟨(by show 2 ≤ sizeLine; decide), fun p4 np4 => ?_⟩
        have s4 := same_upd (o := .tup [v1, v2]) np4
        refine q _ _ ((s2.trans s3).trans s4) ?_
        rw [← e]
        exact ⟨p4, v1, v2, rfl, .inl (.inl upd_same), r2.keep (Same.tk (s3.trans s4)), r3.keep (Same.tk s4)⟩
      · have c1 : ¬ t < mm.2.2 := fun z => c (decide_eq_true z)
        rw [if_neg c1] at e
        refine ⟨_, rfl, _, rfl, t, mm.2.2, rfl, rfl, ?_⟩
        refine ⟨_, rfl, _, rfl, _, _, rfl, ?_⟩
        exact ⟨rfl, mm.1, mm.2.1, t - mm.2.2, _, _, _, _, rfl, vmx, vmy, by omega, e⟩
    · rintro σ H1 ⟨rfl, cx, cy, t, y6, y7, y8, y9, rfl, hcx, hcy, t0, e⟩
      rw [List.drop_of_length_le (by omega), plc_nil] at e
      refine ⟨_, rfl, (by show 2 ≤ sizeLine; decide), fun p1 np1 => ?_⟩
      have s1 := same_upd (o := .tup [.int cx, .int 1]) np1
      refine ⟨_, rfl, (by show 2 ≤ sizeLine; decide), fun p2 np2 => ?_⟩
      have s2 := same_upd (o := .tup [.int cy, .int 1]) np2
      refine ⟨(by show 2 ≤ sizeLine; decide), fun p3 np3 => ?_⟩
      have s3 := same_upd (o := .tup [.ref p1, .ref p2]) np3
      refine q _ _ ((s1.trans s2).trans s3) ?_
      rw [← e]
      exact ⟨p3, _, _, rfl, .inl (.inl upd_same), ⟨p1, rfl, .inl (.inl (s3 _ _ (s2 _ _ upd_same)))⟩, ⟨p2, rfl, .inl (.inl (s3 _ _ upd_same))⟩⟩
end

section
variable {P : Program} {w : World} {K : PySem.W.Frag} {mg : Str → Option Value} {base : Heap}
def sp_picture_of (K : PySem.W.Frag) : Sp := fun vs H Q _ => ∃ (v : V) (ls : List LY) (x y : Int) (ms : List MV) (m : Int), vs = [v, .int m] ∧ ShAt K H v ls x y ms ∧ VLays ls ∧ VWin x y ms ∧ 0 ≤ m ∧ ∀ H' v, Same H H' → PicAt K H' v (pic ls x y ms m) → Q v H'
theorem ok_picture_of {f : Addr} {fd : FuncData} (F : Fun K "picture_of" "picture_of" s_picture_of f fd) (T : Txt K mg) (D_drawing_of : Cl P w K mg base 3 "drawing_of" ["layer", "moment"] (sp_drawing_of K)) (D_place_of : Cl P w K mg base 4 "place_of" ["window", "moment"] (sp_place_of K)) : FnOk P w K mg base CX0 5 f fd ["sheet", "moment"] (sp_picture_of K) := by
  refine F.ok sc_picture_of (fun vs H Q E h => ?_) (fun cdv A outer s H vs Q E hr h => ?_)
  · obtain ⟨v, ls, x, y, ms, m, rfl, _⟩ := h
    rfl
  · obtain ⟨v, ls, x, y, ms, m, rfl, ⟨p, lv, wv, rfl, hp, ⟨pl, vs, rfl, hq, pd⟩, hw⟩, ⟨v1, v4, vl⟩, vw, m0, q⟩ := h
    have hl : vs.length = ls.length := Paired.length pd
    refine ⟨_, (pss_cons (ps_asg (pv 0) (pg_tup (by rfl) (pgs_cons (pg_name (i := 2) sc_picture_of.nd rfl (Or.inl rfl)) (pgs_cons (pg_name (i := 3) sc_picture_of.nd rfl (Or.inl rfl)) pgs_nil))))
      (pss_cons (ps_set (i := 4) sc_picture_of.nd rfl (Or.inl rfl) (pe_callTy call_tuple_of (by rfl) T.b_tuple (by decide +kernel) (pa_cons (pe_lc (own := [("layer", 5)]) (g := (gName 5)) (tt := tYes) (by rfl) sc_picture_of.nd (pi_tup (pv 2)) (blkOk_by (own := [("layer", 5)]) (N := ["sheet", "moment", "layers", "window", "drawings", "layer"]) (sc := defScope s_picture_of) (by decide +kernel)) (fun _ _ _ _ _ => (pg_name (i := 5) sc_picture_of.nd rfl (Or.inl rfl))) (fun _ _ _ _ _ => pts_nil) (fun _ _ _ _ _ => (pe_own D_drawing_of (hr.mono (by omega)) (by rfl) (pa_cons (pv 5) (pa_cons (pv 1) pa_nil))))) pa_nil)))
      (pss_one (ps_ret (pe_tup (pa_cons (pv 4) (pa_cons (pe_own D_place_of (hr.mono (by omega)) (by rfl) (pa_cons (pv 3) (pa_cons (pv 1) pa_nil))) pa_nil))))))), ?_⟩
    refine ⟨_, rfl, p, _, rfl, hp, rfl, _, _, rfl, _, _, rfl, rfl, ?_⟩
    refine ⟨_, rfl, pl, rfl, ⟨_, hq⟩, fun D hD => ?_⟩
    refine lcmap_tup ((ls.map fun l => shown l.1 l.2 m).map V.int) (by simp [hl]) (by omega) hq hD (fun i x y H2 R Z hx hy s2 hR => ?_) (fun H2 s2 hL => ?_)
    · obtain ⟨l, hl1, hly⟩ := Paired.at pd hx
      have ey : y = .int (shown l.1 l.2 m) := by
        rw [List.map_map, List.getElem?_map, hl1] at hy
        exact (Option.some.inj hy).symm
      subst ey
      have vl1 := vl l (List.mem_of_getElem? hl1)
      exact ⟨rfl, yes_ok ⟨_, rfl, _, rfl, x, l.1, l.2, m, rfl, LayAt.keep (Same.tk s2) hly, vl1.1, vl1.2, hR⟩⟩
    · refine ⟨D, _, rfl, .inl ⟨.inl (.inl hL), fun b nb => ?_⟩⟩
      obtain ⟨s3, e3⟩ := new_at (.tup ((ls.map fun l => shown l.1 l.2 m).map V.int)) nb
      refine ⟨_, rfl, _, rfl, _, rfl, wv, x, y, ms, m, rfl, hw.keep (Same.tk (s2.trans s3)), vw, m0, fun H4 v4 s4 p4 => ⟨(by show 2 ≤ sizeLine; decide), fun p5 np5 => ?_⟩⟩
      have s5 := same_upd (o := .tup [.ref b, v4]) np5
      exact q _ _ (((s2.trans s3).trans s4).trans s5) ⟨p5, b, v4, rfl, .inl (.inl upd_same), .inl (.inl (s5 _ _ (s4 _ _ e3))), p4.keep (Same.tk s5)⟩
def sp_pictures_of (K : PySem.W.Frag) : Sp := fun vs H Q _ => ∃ (v : V) (ls : List LY) (x y : Int) (ms : List MV) (m n : Int), vs = [v, .int m, .int n] ∧ ShAt K H v ls x y ms ∧ VLays ls ∧ VWin x y ms ∧ 0 ≤ m ∧ m ≤ 1000000000 ∧ 0 ≤ n ∧ n ≤ 200 ∧
  ∀ H' p vs, Same H H' → H p = none → H' p = some (.lst vs) → Paired (PicAt K H') vs ((List.range n.toNat).map fun i : Nat => pic ls x y ms (m + (i : Int))) → Q (.ref p) H'
theorem ok_pictures_of {f : Addr} {fd : FuncData} (F : Fun K "pictures_of" "pictures_of" s_pictures_of f fd) (T : Txt K mg) (D_picture_of : Cl P w K mg base 5 "picture_of" ["sheet", "moment"] (sp_picture_of K)) : FnOk P w K mg base CX0 6 f fd ["sheet", "moment", "many"] (sp_pictures_of K) := by
  refine F.ok sc_pictures_of (fun vs H Q E h => ?_) (fun cdv A outer s H vs Q E hr h => ?_)
  · obtain ⟨v, ls, x, y, ms, m, n, rfl, _⟩ := h
    rfl
  · obtain ⟨v, ls, x, y, ms, m, n, rfl, hsh, vL, vw, m0, m1, n0, n1, q⟩ := h
    refine ⟨_, (pss_one (ps_ret (pe_lc (own := [("ahead", 3)]) (g := (gName 3)) (tt := tYes) (by rfl) sc_pictures_of.nd (pi_range1 (by rfl) T.b_range (pa_cons (pv 2) pa_nil)) (blkOk_by (own := [("ahead", 3)]) (N := ["sheet", "moment", "many", "ahead"]) (sc := defScope s_pictures_of) (by decide +kernel)) (fun _ _ _ _ _ => (pg_name (i := 3) sc_pictures_of.nd rfl (Or.inl rfl))) (fun _ _ _ _ _ => pts_nil) (fun _ _ _ _ _ => (pe_own D_picture_of (hr.mono (by omega)) (by rfl) (pa_cons (pv 0) (pa_cons (pe_op op_add (pv 1) (pv 3)) pa_nil))))))), ?_⟩
    refine ⟨_, rfl, n, rfl, by omega, by omega, fun D hD => ?_⟩
    refine lc_range (lo := 0) (n := n.toNat) (fun i H' => Same H H' ∧ ∃ vs : List V, H' D = some (.lst vs) ∧ Paired (PicAt K H') vs ((List.range i).map fun i : Nat => pic ls x y ms (m + (i : Int)))) ⟨same_upd hD, [], upd_same, .nil⟩ (fun i H2 hi p2 => ?_) (fun H2 p2 => ?_)
    · obtain ⟨s2, vs, e2, pd⟩ := p2
      have hlv := Paired.length pd
      rw [List.length_map, List.length_range] at hlv
      refine ⟨rfl, yes_ok ⟨_, rfl, _, rfl, _, rfl, m, _, rfl, rfl, v, ls, x, y, ms, _, rfl, hsh.keep (Same.tk s2), vL, vw, by omega, fun H3 v3 s3 r3 => ?_⟩⟩
      have e3 := s3 _ _ e2
      refine ⟨vs, e3, small1000 (by omega), fun b o e => ?_, vs ++ [v3], upd_same, ?_⟩
      · rw [upd_ne (ne_of_none e hD)]
        exact s3 _ _ (s2 _ _ e)
      · rw [List.range_succ, List.map_append]
        refine Paired.snocP (Paired.mono pd fun _ _ => PicAt.keep fun a xs h => tk_updL e3 _ _ (Same.sqT s3 h)) ?_
        have := r3.keep (K := K) (fun a xs h => tk_updL (ys := vs ++ [v3]) e3 _ _ h)
        rw [Int.zero_add] at this
        exact this
    · obtain ⟨s2, vs, e2, pd⟩ := p2
      exact q _ D vs s2 hD e2 pd
def sp_pictures_from (K : PySem.W.Frag) : Sp := fun vs H Q _ => ∃ (v : V) (ls : List LY) (x y : Int) (ms : List MV) (m n : Int), vs = [v, .int m, .int n] ∧ ShAt K H v ls x y ms ∧ VLays ls ∧ VWin x y ms ∧ 0 ≤ m ∧ m ≤ 1000000000 ∧ 0 ≤ n ∧ n ≤ 200 ∧
  ∀ H' p vs, Same H H' → H p = none → H' p = some (.lst vs) → Paired (PicAt K H') vs ((List.range n.toNat).map fun i : Nat => pic ls x y ms (m + (i : Int))) → Q (.ref p) H'
theorem ok_pictures_from {f : Addr} {fd : FuncData} (F : Fun K "pictures_from" "pictures_from" s_pictures_from f fd) (T : Txt K mg) (D_need_sheet : Cl P w K mg base 7 "need_sheet" ["thing"] (sp_need_sheet K)) (D_need_moment : Cl P w K mg base 3 "need_moment" ["thing"] (sp_need_moment K)) (D_need_number : Cl P w K mg base 3 "need_number" ["thing", "least", "most"] (sp_need_number K)) (D_pictures_of : Cl P w K mg base 6 "pictures_of" ["sheet", "moment", "many"] (sp_pictures_of K)) : FnOk P w K mg base CX0 8 f fd ["sheet", "moment", "many"] (sp_pictures_from K) := by
  refine F.ok sc_pictures_from (fun vs H Q E h => ?_) (fun cdv A outer s H vs Q E hr h => ?_)
  · obtain ⟨v, ls, x, y, ms, m, n, rfl, _⟩ := h
    rfl
  · obtain ⟨v, ls, x, y, ms, m, n, rfl, hsh, vL, vw, m0, m1, n0, n1, q⟩ := h
    refine ⟨_, (pss_cons (ps_expr (pe_own D_need_sheet (hr.mono (by omega)) (by rfl) (pa_cons (pv 0) pa_nil)))
      (pss_cons (ps_expr (pe_own D_need_moment (hr.mono (by omega)) (by rfl) (pa_cons (pv 1) pa_nil)))
      (pss_cons (ps_expr (pe_own D_need_number (hr.mono (by omega)) (by rfl) (pa_cons (pv 2) (pa_cons pe_int (pa_cons (pe_gint (by rfl) T.c_MOST_PICTURES) pa_nil)))))
      (pss_one (ps_ret (pe_own D_pictures_of (hr.mono (by omega)) (by rfl) (pa_cons (pv 0) (pa_cons (pv 1) (pa_cons (pv 2) pa_nil))))))))), ?_⟩
    refine ⟨_, rfl, v, ls, x, y, ms, rfl, hsh, vL, vw, fun H1 s1 => ?_⟩
    refine ⟨_, rfl, m, rfl, m0, m1, ?_⟩
    refine ⟨_, rfl, n, 0, 200, rfl, n0, n1, ?_⟩
    exact ⟨_, rfl, _, rfl, _, rfl, v, ls, x, y, ms, m, n, rfl, hsh.keep (Same.tk s1), vL, vw, m0, m1, n0, n1, fun H2 p vs s2 np e2 pd => q _ p vs (s1.trans s2) (s1.free np) e2 pd⟩
end

section
variable {P : Program} {w : World} {K : PySem.W.Frag} {mg : Str → Option Value} {base : Heap}
def sp_TooMany_init (c : Nat → Addr) (K : PySem.W.Frag) : Sp := fun vs H Q _ => ∃ (a : Addr) (m n : V), vs = [.ref a, m, n] ∧ OexC K (c 14) ∧ PySem.W.findIn K (.ref (c 14)) "many" = some none ∧ PySem.W.findIn K (.ref (c 14)) "most" = some none ∧ H a = some (exo a (c 14) none) ∧
  ∀ H' d, H' a = some (exo a (c 14) (some d)) → H' d = some (exd d [("most", n), ("many", m)]) → H d = none → (∀ b o, b ≠ a → H b = some o → H' b = some o) → Q .non H'
theorem ok_TooMany_init {f : Addr} {fd : FuncData} {c : Nat → Addr} (F : Fun K "__init__" "TooMany.__init__" s_TooMany_init f fd) : FnOk P w K mg base CX0 1 f fd ["self", "many", "most"] (sp_TooMany_init c K) := by
  refine F.ok sc_TooMany_init (fun vs H Q E h => ?_) (fun cdv A outer s H vs Q E hr h => ?_)
  · obtain ⟨a, m, n, rfl, _⟩ := h
    rfl
  · obtain ⟨a, m, n, rfl, o, f1, f2, ha, q⟩ := h
    refine ⟨_, (pss_cons (ps_ost (pv 0) (pv 1))
      (pss_one (ps_ost (pv 0) (pv 2)))), ?_⟩
    refine ⟨_, rfl, _, rfl, a, c 14, rfl, o, f1, .inl ⟨ha, fun d nd da => ?_⟩⟩
    refine ⟨_, rfl, _, rfl, a, c 14, rfl, o, f2, .inr ⟨d, [("many", m)], upd_same, ?_, (by show 1 ≤ 900; decide), ?_⟩⟩
    · rw [upd_ne da, upd_same]
    · refine q _ d ?_ upd_same nd fun b o' hb e => ?_
      · rw [upd_ne (Ne.symm da), upd_same]
      · rw [upd_ne (ne_of_none e nd), upd_ne hb, upd_ne (ne_of_none e nd)]
        exact e
def sp_need_at_most (K : PySem.W.Frag) (c : Nat → Addr) : Sp := fun vs H Q E => ∃ m n : Int, vs = [.int m, .int n] ∧ (m ≤ n → Q .non H) ∧ (n < m → ∀ H' d, Same H H' → H d = none → H' d = some (.xd [("most", .int n), ("many", .int m)]) → E (.ref (c 14)) (some d) H')
theorem ok_need_at_most {f : Addr} {fd : FuncData} {c : Nat → Addr} {LE : Addr} (F : Fun K "need_at_most" "need_at_most" s_need_at_most f fd) (T : Txt K mg) (TX : ExcN K mg c LE) (TI : IniT P w K mg base (c 14) 3 (sp_TooMany_init c K)) : FnOk P w K mg base (L2.CX P w) 3 f fd ["many", "most"] (sp_need_at_most K c) := by
  refine F.okX sc_need_at_most (fun vs H Q E h => ?_) (fun cdv A outer s H vs Q E hr h => ?_)
  · obtain ⟨m, n, rfl, _⟩ := h
    rfl
  · obtain ⟨m, n, rfl, q1, q2⟩ := h
    refine ⟨_, (pss_one (ps_if (pt_cmpR op_gt (pv 0) (pv 1) (nomark _)) (pss_one (ps_raise rfl (takes_of rfl rfl rfl rfl) (pmk_init TI (hr.mono (by omega)) (by rfl) (TX.g 14 "TooMany" rfl) (pa_cons (pv 0) (pa_cons (pv 1) pa_nil))))) pss_nil)), ?_⟩
    refine ⟨_, rfl, _, rfl, m, n, rfl, rfl, _, rfl, ite2 (fun e => ?_) (fun e => ?_)⟩
    · have e1 : n < m := of_decide_eq_true e
      obtain ⟨_, _, _, ox, _⟩ := TI.ex
      refine ⟨_, rfl, _, rfl, (by show 2 ≤ 1000; decide), fun a na => ⟨a, _, _, rfl, ox, TX.n1, TX.n2, upd_same, fun H' d e1' e2' nd hk => ⟨rfl, d, _, e1', e2', ?_, ?_⟩⟩⟩
      · have : d ≠ a := fun z => by rw [z, upd_same] at nd; cases nd
        rw [upd_ne this] at nd
        exact nd
      · have da : d ≠ a := fun z => by rw [z, upd_same] at nd; cases nd
        have nd' : H d = none := by rw [upd_ne da] at nd; exact nd
        refine q2 e1 _ d (fun b o hb => ?_) nd' upd_same
        have ba : b ≠ a := ne_of_none hb na
        rw [upd_ne (ne_of_none hb nd'), del_ne ba]
        exact hk b o ba (by rw [upd_ne ba]; exact hb)
    · exact q1 (by have := of_decide_eq_false (Bool.eq_false_iff.mpr e); omega)
end

section
variable {P : Program} {w : World} {K : PySem.W.Frag} {mg : Str → Option Value} {base : Heap}
def sp_filling (K : PySem.W.Frag) : Sp := fun vs H Q _ => ∃ n : Int, vs = [.int n, .int 24] ∧ 0 ≤ n ∧ n ≤ 192 ∧ ∀ H' p, Same H H' → H p = none → H' p = some (.lst ((fill n).map V.int)) → Q (.ref p) H'
theorem ok_filling {f : Addr} {fd : FuncData} (F : Fun K "filling" "filling" s_filling f fd) (T : Txt K mg) : FnOk P w K mg base CX0 1 f fd ["many", "most"] (sp_filling K) := by
  refine F.ok sc_filling (fun vs H Q E h => ?_) (fun cdv A outer s H vs Q E hr h => ?_)
  · obtain ⟨n, rfl, _⟩ := h
    rfl
  · obtain ⟨n, rfl, n0, n1, q⟩ := h
    refine ⟨_, (pss_cons (ps_asg (pe_callB call_divmod (by rfl) T.b_divmod (by decide +kernel) (pa_cons (pv 0) (pa_cons (pv 1) pa_nil))) (pg_tup (by rfl) (pgs_cons (pg_name (i := 2) sc_filling.nd rfl (Or.inl rfl)) (pgs_cons (pg_name (i := 3) sc_filling.nd rfl (Or.inl rfl)) pgs_nil))))
      (pss_one (ps_ret (pe_op op_cat (pe_op op_rep (pe_lst (pa_cons (pv 1) pa_nil)) (pv 2)) (pe_ifExp (pt_truth (pv 3) (by intro _; rfl)) (pe_lst (pa_cons (pv 3) pa_nil)) (pe_lst pa_nil)))))), ?_⟩
    refine ⟨_, rfl, _, rfl, n, 24, rfl, ⟨by decide, by decide⟩, fun p1 np1 => ?_⟩
    obtain ⟨s1, e1⟩ := new_at (.tup [.int (n / 24), .int (n % 24)]) np1
    generalize upd H p1 (.tup [.int (n / 24), .int (n % 24)]) = H1 at s1 e1 ⊢
    refine ⟨p1, _, rfl, .inl (.inl e1), rfl, _, _, rfl, _, _, rfl, rfl, ?_⟩
    refine ⟨_, rfl, (by show 1 ≤ sizeLine; decide), fun p2 np2 => ?_⟩
    obtain ⟨s2, e2⟩ := new_at (.lst [.int 24]) np2
    generalize upd H1 p2 (.lst [.int 24]) = H2 at s2 e2 ⊢
    refine ⟨_, rfl, p2, _, _, rfl, rfl, e2, by omega, by omega, ?_, fun p3 np3 => ?_⟩
    · show 1 * (n / 24).toNat ≤ sizeLine
      exact Nat.le_of_lt (small1000 (by omega))
    obtain ⟨s3, e3⟩ := new_at (.lst (List.replicate (n / 24).toNat [V.int 24]).flatten) np3
    generalize upd H2 p3 (.lst (List.replicate (n / 24).toNat [V.int 24]).flatten) = H3 at s3 e3 ⊢
    have ef : (List.replicate (n / 24).toNat [V.int 24]).flatten = (List.replicate (n / 24).toNat (24 : Int)).map V.int := by
      generalize (n / 24).toNat = k
      induction k with
      | zero => rfl
      | succ k ih => rw [List.replicate_succ, List.replicate_succ, List.flatten_cons, ih]; rfl
    rw [ef] at e3
    have s13 := (s1.trans s2).trans s3
    have fin : ∀ (H4 : Hp) (p4 : Addr) (r : List Int), Same H3 H4 → H4 p4 = some (.lst (r.map V.int)) → r = (if n % 24 = 0 then [] else [n % 24]) →
        rCat (.ref p3) (.ref p4) H4 Q := fun H4 p4 r s4 e4 hr => by
      refine ⟨p3, p4, _, _, rfl, rfl, s4 _ _ e3, e4, ?_, fun p5 np5 => ?_⟩
      · have := fill_len n0 n1
        unfold fill at this
        rw [← hr, List.length_append, List.length_replicate] at this
        rw [List.length_map, List.length_map, List.length_replicate]
        exact Nat.le_of_lt (small1000 (by omega))
      · refine q _ p5 ((s13.trans s4).trans (same_upd np5)) ((s13.trans s4).free np5) ?_
        rw [upd_same, ← List.map_append, hr]
        rfl
    refine ⟨_, rfl, n % 24 != 0, rfl, ?_⟩
    by_cases z : n % 24 = 0
    · rw [show (n % 24 != 0) = false by simp [z]]
      refine iteF ⟨Nat.zero_le _, fun p4 np4 => ?_⟩
      exact fin _ p4 [] (same_upd np4) upd_same (by rw [if_pos z])
    · rw [show (n % 24 != 0) = true by simp [z]]
      refine iteT ⟨_, rfl, (by show 1 ≤ sizeLine; decide), fun p4 np4 => ?_⟩
      exact fin _ p4 [n % 24] (same_upd np4) upd_same (by rw [if_neg z])
def sp_rows_for (K : PySem.W.Frag) : Sp := fun vs H Q _ => ∃ (v : V) (rs : List RW) (L : Int), vs = [v, .int L] ∧ RowsAt K H v rs ∧ rs.length ≤ 8 ∧ 0 ≤ L - tot rs ∧ L - tot rs ≤ 192 ∧ ∀ H' v', Same H H' → RowsAt K H' v' (padR rs L) → Q v' H'
theorem ok_rows_for {f : Addr} {fd : FuncData} (F : Fun K "rows_for" "rows_for" s_rows_for f fd) (T : Txt K mg) (D_filling : Cl P w K mg base 1 "filling" ["many", "most"] (sp_filling K)) (D_held : Cl P w K mg base 1 "held" ["rows"] (sp_held K)) : FnOk P w K mg base CX0 2 f fd ["rows", "length"] (sp_rows_for K) := by
  refine F.ok sc_rows_for (fun vs H Q E h => ?_) (fun cdv A outer s H vs Q E hr h => ?_)
  · obtain ⟨v, rs, L, rfl, _⟩ := h
    rfl
  · obtain ⟨v, rs, L, rfl, hR, v8, l0, l1, q⟩ := h
    obtain ⟨pr, us, rfl, hq, pd⟩ := id hR
    have lus := Paired.length pd
    have lf := fill_len l0 l1
    refine ⟨_, (pss_one (ps_ret (pe_op op_catA (pv 0) (pe_callTy call_tuple_of (by rfl) T.b_tuple (by decide +kernel) (pa_cons (pe_lc (own := [("hold", 2)]) (g := (gName 2)) (tt := tYes) (by rfl) sc_rows_for.nd (pi_list (pe_own D_filling (hr.mono (by omega)) (by rfl) (pa_cons (pe_op op_sub (pv 1) (pe_own D_held (hr.mono (by omega)) (by rfl) (pa_cons (pv 0) pa_nil))) (pa_cons (pe_gint (by rfl) T.c_MOST_HOLD) pa_nil)))) (blkOk_by (own := [("hold", 2)]) (N := ["rows", "length", "hold"]) (sc := defScope s_rows_for) (by decide +kernel)) (fun _ _ _ _ _ => (pg_name (i := 2) sc_rows_for.nd rfl (Or.inl rfl))) (fun _ _ _ _ _ => pts_nil) (fun _ _ _ _ _ => (pe_tup (pa_cons pe_int (pa_cons (pv 2) pa_nil))))) pa_nil))))), ?_⟩
    refine ⟨_, rfl, _, rfl, _, rfl, .ref pr, rs, rfl, hR, by omega, fun H1 s1 => ⟨_, _, rfl, rfl, _, rfl, l0, l1, fun H2 F s2 nF eF => ?_⟩⟩
    refine ⟨F, rfl, ⟨_, .inl (.inl eF)⟩, fun D hD => ?_⟩
    refine lc_list (K := K) (a := F) (xs := (fill (L - tot rs)).map V.int) (fun i H' => Same H2 H' ∧ ∃ ws, H' D = some (.lst ws) ∧ ws.length = i ∧ Paired (RowAt K H') ws (((fill (L - tot rs)).take i).map fun h => (0, h)))
      ⟨same_upd hD, [], upd_same, rfl, .nil⟩ (fun i H' _ z => .inl (.inl (z.1 _ _ eF))) (fun i u H3 hu p3 => ?_) (fun H3 p3 => ?_)
    · obtain ⟨s3, ws, eD, lw, pw⟩ := p3
      rw [List.getElem?_map] at hu
      obtain ⟨z, hz, rfl⟩ := Option.map_eq_some_iff.mp hu
      have hi : i < (fill (L - tot rs)).length := (List.getElem?_eq_some_iff.mp hz).1
      refine ⟨rfl, yes_ok ⟨_, rfl, (by show 2 ≤ sizeLine; decide), fun p4 np4 => ?_⟩⟩
      have s4 := same_upd (o := .tup [.int 0, .int z]) np4
      have eD4 := s4 _ _ eD
      refine ⟨ws, eD4, small1000 (by omega), fun b o e => ?_, ws ++ [.ref p4], upd_same, by rw [List.length_append, lw]; rfl, ?_⟩
      · rw [upd_ne (ne_of_none e hD)]
        exact s4 _ _ (s3 _ _ e)
      · rw [List.take_add_one, hz, List.map_append]
        exact Paired.snocP (Paired.mono pw fun _ _ => RowAt.keep fun a zs h => tk_updL eD4 _ _ (Same.sqT s4 h)) ⟨p4, rfl, tk_updL eD4 _ _ (.inl (.inl upd_same))⟩
    obtain ⟨s3, ws, eD, lw, pw⟩ := p3
    rw [List.length_map] at lw pw
    rw [List.take_length] at pw
    refine ⟨D, ws, rfl, .inl ⟨.inl (.inl eD), fun T nT => ?_⟩⟩
    obtain ⟨s4, e4⟩ := new_at (.tup ws) nT
    generalize upd H3 T (.tup ws) = H4 at s4 e4 ⊢
    have s14 := ((s1.trans s2).trans s3).trans s4
    refine cat_any (Same.sqT s14 hq) (.inl (.inl e4)) (by omega) fun H5 C s5 hC => ?_
    exact q _ _ (s14.trans s5) ⟨C, _, rfl, hC, Paired.appP (Paired.mono pd fun _ _ => RowAt.keep (Same.tk (s14.trans s5))) (Paired.mono pw fun _ _ => RowAt.keep (Same.tk (s4.trans s5)))⟩
def sp_layer_behind (K : PySem.W.Frag) : Sp := fun vs H Q _ => ∃ (v1 v2 : V) (a b : LY) (L : Int), vs = [v1, v2, .int L] ∧ LyAt K H v1 a ∧ LyAt K H v2 b ∧ VLy a ∧ VLy b ∧ 0 ≤ L - tot a.1 ∧ L - tot a.1 ≤ 192 ∧ ∀ H' v', Same H H' → LyAt K H' v' (lbh L a b) → Q v' H'
theorem ok_layer_behind {f : Addr} {fd : FuncData} (F : Fun K "layer_behind" "layer_behind" s_layer_behind f fd) (T : Txt K mg) (D_rows_for : Cl P w K mg base 2 "rows_for" ["rows", "length"] (sp_rows_for K)) : FnOk P w K mg base CX0 3 f fd ["one", "other", "length"] (sp_layer_behind K) := by
  refine F.ok sc_layer_behind (fun vs H Q E h => ?_) (fun cdv A outer s H vs Q E hr h => ?_)
  · obtain ⟨v1, v2, a, b, L, rfl, _⟩ := h
    rfl
  · obtain ⟨v1, v2, a, b, L, rfl, h1, h2, va, vb, l0, l1, q⟩ := h
    obtain ⟨p1, rv1, rfl, hp1, hR1⟩ := id h1
    obtain ⟨p2, rv2, rfl, hp2, pr2, us2, rfl, hq2, pd2⟩ := id h2
    have l2 := Paired.length pd2
    have v8 := va.1.1
    have w8 := vb.1.1
    have lf := fill_len l0 l1
    refine ⟨_, (pss_cons (ps_asg (pv 1) (pg_tup (by rfl) (pgs_cons (pg_name (i := 3) sc_layer_behind.nd rfl (Or.inl rfl)) (pgs_cons (pg_name (i := 4) sc_layer_behind.nd rfl (Or.inl rfl)) pgs_nil))))
      (pss_cons (ps_set (i := 5) sc_layer_behind.nd rfl (Or.inl rfl) (pe_own D_rows_for (hr.mono (by omega)) (by rfl) (pa_cons (pe_ix ix_tup (pv 0) pe_int (fun _ _ => rfl)) (pa_cons (pv 2) pa_nil))))
      (pss_one (ps_ret (pe_tup (pa_cons (pe_op op_catA (pv 5) (pv 3)) (pa_cons (pe_ifExp (pt_cmpR op_isN (pv 4) pe_non (nomark _)) pe_non (pe_op op_add (pe_callB call_len_seq (by rfl) T.b_len (by decide +kernel) (pa_cons (pv 5) pa_nil)) (pv 4))) pa_nil))))))), ?_⟩
    refine ⟨_, rfl, p2, _, rfl, hp2, rfl, _, _, rfl, _, _, rfl, rfl, ?_⟩
    refine ⟨_, rfl, p1, _, 0, _, rfl, rfl, hp1, rfl, _, rfl, rv1, a.1, L, rfl, hR1, v8, l0, l1, fun H1 v3 s1 h3 => ?_⟩
    obtain ⟨pc, us3, rfl, hq3, pd3⟩ := id h3
    have l3 := Paired.length pd3
    have lp : (padR a.1 L).length ≤ 17 := by
      unfold padR
      rw [List.length_append, List.length_map]
      omega
    refine ⟨_, rfl, _, rfl, cat_any hq3 (Same.sqT s1 hq2) (by omega) fun H2 C s2 hC => ?_⟩
    have k1 : TKeep K H1 H2 := Same.tk s2
    have hr : RowsAt K H2 (.ref C) (padR a.1 L ++ b.1) := ⟨C, _, rfl, hC, Paired.appP (Paired.mono pd3 fun _ _ => RowAt.keep k1) (Paired.mono pd2 fun _ _ => RowAt.keep (Same.tk (s1.trans s2)))⟩
    obtain ⟨br, bb⟩ := b
    refine ⟨_, rfl, rfl, _, rfl, ?_⟩
    cases bb with
    | none =>
      refine ite2 (fun _ => ⟨(by show 2 ≤ sizeLine; decide), fun p4 np4 => ?_⟩) (fun e => absurd (decide_eq_true rfl) e)
      have s4 := same_upd (o := .tup [.ref C, .non]) np4
      exact q _ _ ((s1.trans s2).trans s4) ⟨p4, _, rfl, .inl (.inl upd_same), hr.keep (Same.tk s4)⟩
    | some k =>
      refine ite2 (fun e => nomatch (of_decide_eq_true e)) (fun _ => ⟨_, rfl, pc, us3, rfl, .inr (Same.sqT s2 hq3), _, rfl, _, _, rfl, rfl, (by show 2 ≤ sizeLine; decide), fun p4 np4 => ?_⟩)
      rw [l3]
      have s4 := same_upd (o := .tup [.ref C, .int (((padR a.1 L).length : Int) + k)]) np4
      exact q _ _ ((s1.trans s2).trans s4) ⟨p4, _, rfl, .inl (.inl upd_same), hr.keep (Same.tk s4)⟩
def sp_moves_for (K : PySem.W.Frag) : Sp := fun vs H Q _ => ∃ (v : V) (x y : Int) (ms : List MV) (L : Int), vs = [v, .int L] ∧ WinAt K H v x y ms ∧ ms.length ≤ 8 ∧ 0 ≤ L - mtot ms ∧ L - mtot ms ≤ 192 ∧ ∀ H' v', Same H H' → MovesAt K H' v' (padM x y ms L) → Q v' H'
theorem ok_moves_for {f : Addr} {fd : FuncData} (F : Fun K "moves_for" "moves_for" s_moves_for f fd) (T : Txt K mg) (D_filling : Cl P w K mg base 1 "filling" ["many", "most"] (sp_filling K)) (D_moved : Cl P w K mg base 1 "moved" ["window"] (sp_moved K)) : FnOk P w K mg base CX0 2 f fd ["window", "length"] (sp_moves_for K) := by
  refine F.ok sc_moves_for (fun vs H Q E h => ?_) (fun cdv A outer s H vs Q E hr h => ?_)
  · obtain ⟨v, x, y, ms, L, rfl, _⟩ := h
    rfl
  · obtain ⟨v, x, y, ms, L, rfl, hw, v8, l0, l1, q⟩ := h
    obtain ⟨p1, mv, rfl, hp1, pm, us, rfl, hq, pd⟩ := id hw
    have lus := Paired.length pd
    have lf := fill_len l0 l1
    refine ⟨_, (pss_cons (ps_asg (pv 0) (pg_tup (by rfl) (pgs_cons (pg_name (i := 2) sc_moves_for.nd rfl (Or.inr rfl)) (pgs_cons (pg_name (i := 3) sc_moves_for.nd rfl (Or.inr rfl)) (pgs_cons (pg_name (i := 4) sc_moves_for.nd rfl (Or.inl rfl)) pgs_nil)))))
      (C8.pss_cut (ps_if (pt_truth (pv 4) (by intro _; rfl)) (pss_one (ps_asg (pe_slice sl_tupA (pe_ix ix_tup (pv 4) (pe_un un_neg pe_int) (fun _ _ => rfl)) po_none (po_some pe_int)) (pg_tup (by rfl) (pgs_cons (pg_name (i := 2) sc_moves_for.nd rfl (Or.inr rfl)) (pgs_cons (pg_name (i := 3) sc_moves_for.nd rfl (Or.inr rfl)) pgs_nil))))) pss_nil)
      (pss_one (ps_ret (pe_op op_catA (pv 4) (pe_callTy call_tuple_of (by rfl) T.b_tuple (by decide +kernel) (pa_cons (pe_lc (own := [("many", 5)]) (g := (gName 5)) (tt := tYes) (by rfl) sc_moves_for.nd (pi_list (pe_own D_filling (hr.mono (by omega)) (by rfl) (pa_cons (pe_op op_sub (pv 1) (pe_own D_moved (hr.mono (by omega)) (by rfl) (pa_cons (pv 0) pa_nil))) (pa_cons (pe_gint (by rfl) T.c_MOST_MANY) pa_nil)))) (blkOk_by (own := [("many", 5)]) (N := ["window", "length", "x", "y", "moves", "many"]) (sc := defScope s_moves_for) (by decide +kernel)) (fun _ _ _ _ _ => (pg_name (i := 5) sc_moves_for.nd rfl (Or.inl rfl))) (fun _ _ _ _ _ => pts_nil) (fun _ _ _ _ _ => (pe_tup (pa_cons (pv 2) (pa_cons (pv 3) (pa_cons (pv 5) pa_nil)))))) pa_nil))))))), ?_⟩
    refine ⟨_, rfl, p1, _, rfl, hp1, rfl, _, _, rfl, _, _, rfl, _, _, rfl, rfl, ?_⟩
    refine ⟨fun σ' H' => Same H H' ∧ σ' = [some (.ref p1), some (.int L), some (.int (lastXY x y ms).1), some (.int (lastXY x y ms).2), some (.ref pm), none], ?_, ?_⟩
    · refine ⟨_, rfl, !us.isEmpty, .inr (.inl ⟨us, hq, rfl⟩), ?_⟩
      rcases snoc_cases us with rfl | ⟨ws, lv, rfl⟩
      · have em : ms = [] := List.length_eq_zero_iff.mp lus.symm
        subst em
        exact iteF ⟨Same.refl _, rfl⟩
      · rcases snoc_cases ms with em | ⟨qs, m, rfl⟩
        · rw [em] at lus
          simp at lus
        · have hlq : ws.length = qs.length := by
            have := Paired.length pd
            rw [List.length_append, List.length_append] at this
            simpa using this
          obtain ⟨m2, hm2, hmv⟩ := Paired.at (i := ws.length) pd (List.getElem?_concat_length)
          rw [hlq, List.getElem?_concat_length] at hm2
          cases hm2
          obtain ⟨lp, rfl, hlp⟩ := hmv
          rw [show (!(ws ++ [V.ref lp]).isEmpty) = true by simp]
          refine iteT ⟨_, rfl, _, rfl, pm, _, _, _, rfl, rfl, hq, atI_last .., 2, rfl, sl_any hlp fun H2 S s2 hS => ?_⟩
          refine ⟨S, _, rfl, hS, rfl, _, _, rfl, _, _, rfl, rfl, s2, ?_⟩
          have el : lastXY x y (qs ++ [m]) = (m.1, m.2.1) := by
            unfold lastXY
            rw [List.getLast?_append]
            rfl
          rw [el]
          rfl
    rintro σ H1 ⟨s1, rfl⟩
    refine ⟨_, rfl, _, rfl, _, rfl, .ref p1, x, y, ms, rfl, hw.keep (Same.tk s1), v8, fun H2 s2 => ⟨_, _, rfl, rfl, _, rfl, l0, l1, fun H3 F s3 nF eF => ?_⟩⟩
    refine ⟨F, rfl, ⟨_, .inl (.inl eF)⟩, fun D hD => ?_⟩
    refine lc_list (K := K) (a := F) (xs := (fill (L - mtot ms)).map V.int) (fun i H' => Same H3 H' ∧ ∃ ws, H' D = some (.lst ws) ∧ ws.length = i ∧ Paired (MoveAt K H') ws (((fill (L - mtot ms)).take i).map fun h => ((lastXY x y ms).1, (lastXY x y ms).2, h)))
      ⟨same_upd hD, [], upd_same, rfl, .nil⟩ (fun i H' _ z => .inl (.inl (z.1 _ _ eF))) (fun i u H4 hu p4 => ?_) (fun H4 p4 => ?_)
    · obtain ⟨s4, ws, eD, lw, pw⟩ := p4
      rw [List.getElem?_map] at hu
      obtain ⟨z, hz, rfl⟩ := Option.map_eq_some_iff.mp hu
      have hi : i < (fill (L - mtot ms)).length := (List.getElem?_eq_some_iff.mp hz).1
      refine ⟨rfl, yes_ok ⟨_, rfl, _, rfl, _, rfl, (by show 3 ≤ sizeLine; decide), fun p5 np5 => ?_⟩⟩
      have s5 := same_upd (o := .tup [.int (lastXY x y ms).1, .int (lastXY x y ms).2, .int z]) np5
      have eD5 := s5 _ _ eD
      refine ⟨ws, eD5, small1000 (by omega), fun b o e => ?_, ws ++ [.ref p5], upd_same, by rw [List.length_append, lw]; rfl, ?_⟩
      · rw [upd_ne (ne_of_none e hD)]
        exact s5 _ _ (s4 _ _ e)
      · rw [List.take_add_one, hz, List.map_append]
        exact Paired.snocP (Paired.mono pw fun _ _ => MoveAt.keep fun a zs h => tk_updL eD5 _ _ (Same.sqT s5 h)) ⟨p5, rfl, tk_updL eD5 _ _ (.inl (.inl upd_same))⟩
    obtain ⟨s4, ws, eD, lw, pw⟩ := p4
    rw [List.length_map] at lw pw
    rw [List.take_length] at pw
    refine ⟨D, ws, rfl, .inl ⟨.inl (.inl eD), fun T nT => ?_⟩⟩
    obtain ⟨s5, e5⟩ := new_at (.tup ws) nT
    generalize upd H4 T (.tup ws) = H5 at s5 e5 ⊢
    have s15 := (s1.trans (s2.trans s3)).trans (s4.trans s5)
    refine cat_any (Same.sqT s15 hq) (.inl (.inl e5)) (by omega) fun H6 C s6 hC => ?_
    exact q _ _ (s15.trans s6) ⟨C, _, rfl, hC, Paired.appP (Paired.mono pd fun _ _ => MoveAt.keep (Same.tk (s15.trans s6))) (Paired.mono pw fun _ _ => MoveAt.keep (Same.tk (s5.trans s6)))⟩
def sp_window_behind (K : PySem.W.Frag) : Sp := fun vs H Q _ => ∃ (v1 v2 : V) (x1 y1 x2 y2 : Int) (ms1 ms2 : List MV) (L : Int), vs = [v1, v2, .int L] ∧ WinAt K H v1 x1 y1 ms1 ∧ WinAt K H v2 x2 y2 ms2 ∧ ms1.length ≤ 8 ∧ ms2.length ≤ 8 ∧ 0 ≤ L - mtot ms1 ∧ L - mtot ms1 ≤ 192 ∧
  ∀ H' v', Same H H' → WinAt K H' v' x1 y1 (mbh x1 y1 ms1 L x2 y2 ms2) → Q v' H'
theorem ok_window_behind {f : Addr} {fd : FuncData} (F : Fun K "window_behind" "window_behind" s_window_behind f fd) (T : Txt K mg) (D_moves_for : Cl P w K mg base 2 "moves_for" ["window", "length"] (sp_moves_for K)) : FnOk P w K mg base CX0 3 f fd ["one", "other", "length"] (sp_window_behind K) := by
  refine F.ok sc_window_behind (fun vs H Q E h => ?_) (fun cdv A outer s H vs Q E hr h => ?_)
  · obtain ⟨v1, v2, x1, y1, x2, y2, ms1, ms2, L, rfl, _⟩ := h
    rfl
  · obtain ⟨v1, v2, x1, y1, x2, y2, ms1, ms2, L, rfl, h1, h2, m8, n8, l0, l1, q⟩ := h
    obtain ⟨p1, mv1, rfl, hp1, hM1⟩ := id h1
    obtain ⟨p2, mv2, rfl, hp2, pm2, us2, rfl, hq2, pd2⟩ := id h2
    have l2 := Paired.length pd2
    have lf := fill_len l0 l1
    refine ⟨_, (pss_cons (ps_asg (pv 1) (pg_tup (by rfl) (pgs_cons (pg_name (i := 3) sc_window_behind.nd rfl (Or.inl rfl)) (pgs_cons (pg_name (i := 4) sc_window_behind.nd rfl (Or.inl rfl)) (pgs_cons (pg_name (i := 5) sc_window_behind.nd rfl (Or.inl rfl)) pgs_nil)))))
      (pss_one (ps_ret (pe_tup (pa_cons (pe_ix ix_tup (pv 0) pe_int (fun _ _ => rfl)) (pa_cons (pe_ix ix_tup (pv 0) pe_int (fun _ _ => rfl)) (pa_cons (pe_op op_catA (pe_op op_catA (pe_own D_moves_for (hr.mono (by omega)) (by rfl) (pa_cons (pv 0) (pa_cons (pv 2) pa_nil))) (pe_tup (pa_cons (pe_tup (pa_cons (pv 3) (pa_cons (pv 4) (pa_cons pe_int pa_nil)))) pa_nil))) (pv 5)) pa_nil))))))), ?_⟩
    refine ⟨_, rfl, p2, _, rfl, hp2, rfl, _, _, rfl, _, _, rfl, _, _, rfl, rfl, ?_⟩
    refine ⟨_, rfl, p1, _, 0, _, rfl, rfl, hp1, rfl, _, rfl, p1, _, 1, _, rfl, rfl, hp1, rfl, ?_⟩
    refine ⟨_, rfl, _, rfl, .ref p1, x1, y1, ms1, L, rfl, h1, m8, l0, l1, fun H1 v3 s1 h3 => ?_⟩
    obtain ⟨pc, us3, rfl, hq3, pd3⟩ := id h3
    have l3 := Paired.length pd3
    have lp : (padM x1 y1 ms1 L).length ≤ 17 := by
      unfold padM
      rw [List.length_append, List.length_map]
      omega
    refine ⟨_, rfl, _, rfl, (by show 3 ≤ sizeLine; decide), fun p4 np4 => ⟨(by show 1 ≤ sizeLine; decide), fun p5 np5 => ?_⟩⟩
    have s4 := same_upd (o := .tup [.int x2, .int y2, .int 0]) np4
    have s5 := same_upd (o := .tup [.ref p4]) np5
    have e4 := s5 _ _ (upd_same (H := H1) (a := p4) (o := .tup [.int x2, .int y2, .int 0]))
    have e5 : (upd (upd H1 p4 (.tup [.int x2, .int y2, .int 0])) p5 (.tup [.ref p4])) p5 = some (.tup [.ref p4]) := upd_same
    generalize upd (upd H1 p4 (.tup [.int x2, .int y2, .int 0])) p5 (.tup [.ref p4]) = H5 at s5 e4 e5 ⊢
    have s15 := s4.trans s5
    refine cat_any (Same.sqT s15 hq3) (.inl (.inl e5)) (by show us3.length + 1 ≤ 1000; omega) fun H6 C s6 hC => ?_
    refine ⟨_, rfl, cat_any hC (Same.sqT (s1.trans (s15.trans s6)) hq2) (by rw [List.length_append]; show us3.length + 1 + us2.length ≤ 1000; omega) fun H7 C7 s7 hC7 => ⟨(by show 3 ≤ sizeLine; decide), fun p8 np8 => ?_⟩⟩
    have s8 := same_upd (o := .tup [.int x1, .int y1, .ref C7]) np8
    have s18 := (s15.trans s6).trans (s7.trans s8)
    exact q _ _ (s1.trans s18) ⟨p8, _, rfl, .inl (.inl upd_same), C7, _, rfl, Same.sqT s8 hC7, Paired.appP (Paired.appP (Paired.mono pd3 fun _ _ => MoveAt.keep (Same.tk s18)) (.cons ⟨p4, rfl, Same.sqT ((s6.trans s7).trans s8) (.inl (.inl e4))⟩ .nil)) (Paired.mono pd2 fun _ _ => MoveAt.keep (Same.tk (s1.trans s18)))⟩
end

section
variable {P : Program} {w : World} {K : PySem.W.Frag} {mg : Str → Option Value} {base : Heap}
def sp_need_as_many_layers (K : PySem.W.Frag) (c : Nat → Addr) : Sp := fun vs H Q E => ∃ (v1 v2 : V) (ls1 ls2 : List LY) (x1 y1 x2 y2 : Int) (ms1 ms2 : List MV), vs = [v1, v2] ∧ ShAt K H v1 ls1 x1 y1 ms1 ∧ ShAt K H v2 ls2 x2 y2 ms2 ∧ (ls1.length = ls2.length → Q .non H) ∧ (ls1.length ≠ ls2.length → E (.ref (c 7)) none H)
theorem ok_need_as_many_layers {f : Addr} {fd : FuncData} {c : Nat → Addr} {LE : Addr} (F : Fun K "need_as_many_layers" "need_as_many_layers" s_need_as_many_layers f fd) (T : Txt K mg) (TX : ExcN K mg c LE) : FnOk P w K mg base (L2.CX P w) 1 f fd ["one", "other"] (sp_need_as_many_layers K c) := by
  refine F.okX sc_need_as_many_layers (fun vs H Q E h => ?_) (fun cdv A outer s H vs Q E hr h => ?_)
  · obtain ⟨v1, v2, ls1, ls2, x1, y1, x2, y2, ms1, ms2, rfl, _⟩ := h
    rfl
  · obtain ⟨v1, v2, ls1, ls2, x1, y1, x2, y2, ms1, ms2, rfl, h1, h2, q1, q2⟩ := h
    obtain ⟨p1, lv1, wv1, rfl, hp1, ⟨pl1, us1, rfl, hq1, pd1⟩, hw1⟩ := id h1
    obtain ⟨p2, lv2, wv2, rfl, hp2, ⟨pl2, us2, rfl, hq2, pd2⟩, hw2⟩ := id h2
    have l1 := Paired.length pd1
    have l2 := Paired.length pd2
    refine ⟨_, (pss_one (ps_if (pt_cmpR op_ne (pe_callB call_len_seq (by rfl) T.b_len (by decide +kernel) (pa_cons (pe_ix ix_tup (pv 0) pe_int (fun _ _ => rfl)) pa_nil)) (pe_callB call_len_seq (by rfl) T.b_len (by decide +kernel) (pa_cons (pe_ix ix_tup (pv 1) pe_int (fun _ _ => rfl)) pa_nil)) (nomark _)) (pss_one (ps_raise rfl (takes_of rfl rfl rfl rfl) (pmk_own PySem.F.excBase_ValueError (TX.nw 7 (by decide)) (TX.g 7 "Unlike" rfl) (TX.kp 7 (by decide)) (TX.rs (i := 7) (by decide)) rfl))) pss_nil)), ?_⟩
    refine ⟨_, rfl, p1, _, 0, _, rfl, rfl, hp1, rfl, pl1, us1, rfl, .inr hq1, _, rfl, p2, _, 0, _, rfl, rfl, hp2, rfl, pl2, us2, rfl, .inr hq2, rfl, _, rfl, ite2 (fun e => ?_) (fun e => ?_)⟩
    · refine q2 fun z => ?_
      rw [← l1, ← l2] at z
      rw [z] at e
      simp at e
    · refine q1 ?_
      rw [← l1, ← l2]
      apply Decidable.byContradiction
      intro z
      refine e ?_
      simp
      omega
def sp_need_length (K : PySem.W.Frag) (c : Nat → Addr) : Sp := fun vs H Q E => ∃ o : Option Int, vs = [bkV o] ∧ (∀ i, o = some i → Q .non H) ∧ (o = none → E (.ref (c 8)) none H)
theorem ok_need_length {f : Addr} {fd : FuncData} {c : Nat → Addr} {LE : Addr} (F : Fun K "need_length" "need_length" s_need_length f fd) (T : Txt K mg) (TX : ExcN K mg c LE) : FnOk P w K mg base (L2.CX P w) 1 f fd ["length"] (sp_need_length K c) := by
  refine F.okX sc_need_length (fun vs H Q E h => ?_) (fun cdv A outer s H vs Q E hr h => ?_)
  · obtain ⟨o, rfl, _⟩ := h
    rfl
  · obtain ⟨o, rfl, q1, q2⟩ := h
    refine ⟨_, (pss_one (ps_if (pt_cmpR op_isN (pv 0) pe_non (nomark _)) (pss_one (ps_raise rfl (takes_of rfl rfl rfl rfl) (pmk_own PySem.F.excBase_ValueError (TX.nw 8 (by decide)) (TX.g 8 "Endless" rfl) (TX.kp 8 (by decide)) (TX.rs (i := 8) (by decide)) rfl))) pss_nil)), ?_⟩
    refine ⟨_, rfl, rfl, _, rfl, ?_⟩
    cases o with
    | none => exact ite2 (fun _ => q2 rfl) (fun e => absurd (decide_eq_true rfl) e)
    | some i => exact ite2 (fun e => nomatch (of_decide_eq_true e)) (fun _ => q1 i rfl)
def BoEnd (K : PySem.W.Frag) (c : Nat → Addr) (x1 y1 : Int) (H : Hp) (Q : VK) (E : XK) (H' : Hp) : BO → Prop
  | .un => E (.ref (c 7)) none H'
  | .en => E (.ref (c 8)) none H'
  | .mn n => ∀ d, H d = none → H' d = some (.xd [("most", .int 8), ("many", .int (n : Int))]) → E (.ref (c 14)) (some d) H'
  | .ok bl ms => ∀ v, ShAt K H' v bl x1 y1 ms → Q v H'
def sp_behind (K : PySem.W.Frag) (c : Nat → Addr) : Sp := fun vs H Q E => ∃ (v1 v2 : V) (ls1 ls2 : List LY) (x1 y1 x2 y2 : Int) (ms1 ms2 : List MV), vs = [v1, v2] ∧ ShAt K H v1 ls1 x1 y1 ms1 ∧ VLays ls1 ∧ VWin x1 y1 ms1 ∧ ShAt K H v2 ls2 x2 y2 ms2 ∧ VLays ls2 ∧ VWin x2 y2 ms2 ∧
  ∀ o H', IsBo ls1 x1 y1 ms1 ls2 x2 y2 ms2 o → Same H H' → BoEnd K c x1 y1 H Q E H' o
theorem ok_behind {f : Addr} {fd : FuncData} {c : Nat → Addr} {LE : Addr} (F : Fun K "behind" "behind" s_behind f fd) (T : Txt K mg) (TX : ExcN K mg c LE) (D_need_sheet : Cl P w K mg base 7 "need_sheet" ["thing"] (sp_need_sheet K)) (D_need_as_many_layers : ClX P w K mg base 1 "need_as_many_layers" ["one", "other"] (sp_need_as_many_layers K c)) (D_full_length : Cl P w K mg base 3 "full_length" ["sheet"] (sp_full_length K)) (D_need_length : ClX P w K mg base 1 "need_length" ["length"] (sp_need_length K c)) (D_layer_behind : Cl P w K mg base 3 "layer_behind" ["one", "other", "length"] (sp_layer_behind K)) (D_window_behind : Cl P w K mg base 3 "window_behind" ["one", "other", "length"] (sp_window_behind K)) (D_need_at_most : ClX P w K mg base 3 "need_at_most" ["many", "most"] (sp_need_at_most K c)) : FnOk P w K mg base (L2.CX P w) 8 f fd ["one", "other"] (sp_behind K c) := by
  refine F.okX sc_behind (fun vs H Q E h => ?_) (fun cdv A outer s H vs Q E hr h => ?_)
  · obtain ⟨v1, v2, ls1, ls2, x1, y1, x2, y2, ms1, ms2, rfl, _⟩ := h
    rfl
  · obtain ⟨v1, v2, ls1, ls2, x1, y1, x2, y2, ms1, ms2, rfl, h1, vL1, vw1, h2, vL2, vw2, q⟩ := h
    refine ⟨_, (pss_cons (ps_expr (pe_own D_need_sheet (hr.mono (by omega)) (by rfl) (pa_cons (pv 0) pa_nil)))
      (pss_cons (ps_expr (pe_own D_need_sheet (hr.mono (by omega)) (by rfl) (pa_cons (pv 1) pa_nil)))
      (pss_cons (ps_expr (pe_ownX D_need_as_many_layers (hr.mono (by omega)) (takes_of rfl rfl rfl rfl) (by rfl) (pa_cons (pv 0) (pa_cons (pv 1) pa_nil))))
      (pss_cons (ps_set (i := 2) sc_behind.nd rfl (Or.inr rfl) (pe_own D_full_length (hr.mono (by omega)) (by rfl) (pa_cons (pv 0) pa_nil)))
      (pss_cons (ps_expr (pe_ownX D_need_length (hr.mono (by omega)) (takes_of rfl rfl rfl rfl) (by rfl) (pa_cons (pv 2) pa_nil)))
      (pss_cons (ps_set (i := 3) sc_behind.nd rfl (Or.inl rfl) (pe_callTy call_tuple_of (by rfl) T.b_tuple (by decide +kernel) (pa_cons (pe_lc (own := [("first", 7), ("second", 8)]) (g := (gTup _ 2 (gCons (gName 7) (gCons (gName 8) gNil)))) (tt := tYes) (by rfl) sc_behind.nd (RZ.pi_zipA (by rfl) T.b_zip (pa_cons (pe_ix ix_tup (pv 0) pe_int (fun _ _ => rfl)) (pa_cons (pe_ix ix_tup (pv 1) pe_int (fun _ _ => rfl)) pa_nil))) (blkOk_by (own := [("first", 7), ("second", 8)]) (N := ["one", "other", "length", "layers", "window", "rows", "back", "first", "second"]) (sc := defScope s_behind) (by decide +kernel)) (fun _ _ _ _ _ => (pg_tup (by rfl) (pgs_cons (pg_name (i := 7) sc_behind.nd rfl (Or.inl rfl)) (pgs_cons (pg_name (i := 8) sc_behind.nd rfl (Or.inl rfl)) pgs_nil)))) (fun _ _ _ _ _ => pts_nil) (fun _ _ _ _ _ => (pe_own D_layer_behind (hr.mono (by omega)) (by rfl) (pa_cons (pv 7) (pa_cons (pv 8) (pa_cons (pv 2) pa_nil)))))) pa_nil)))
      (pss_cons (ps_set (i := 4) sc_behind.nd rfl (Or.inl rfl) (pe_own D_window_behind (hr.mono (by omega)) (by rfl) (pa_cons (pe_ix ix_tup (pv 0) pe_int (fun _ _ => rfl)) (pa_cons (pe_ix ix_tup (pv 1) pe_int (fun _ _ => rfl)) (pa_cons (pv 2) pa_nil)))))
      (pss_cons (ps_for (passes_of rfl) rfl (pi_tup (pv 3)) (pg_tup (by rfl) (pgs_cons (pg_name (i := 5) sc_behind.nd rfl (Or.inl rfl)) (pgs_cons (pg_name (i := 6) sc_behind.nd rfl (Or.inl rfl)) pgs_nil)))
        (pss_one (ps_expr (pe_ownX D_need_at_most (hr.mono (by omega)) (takes_of rfl rfl rfl rfl) (by rfl) (pa_cons (pe_callB call_len_seq (by rfl) T.b_len (by decide +kernel) (pa_cons (pv 5) pa_nil)) (pa_cons (pe_gint (by rfl) T.c_MOST_ROWS) pa_nil))))))
      (pss_cons (ps_expr (pe_ownX D_need_at_most (hr.mono (by omega)) (takes_of rfl rfl rfl rfl) (by rfl) (pa_cons (pe_callB call_len_seq (by rfl) T.b_len (by decide +kernel) (pa_cons (pe_ix ix_tup (pv 4) pe_int (fun _ _ => rfl)) pa_nil)) (pa_cons (pe_gint (by rfl) T.c_MOST_MOVES) pa_nil))))
      (pss_one (ps_ret (pe_tup (pa_cons (pv 3) (pa_cons (pv 4) pa_nil)))))))))))))), ?_⟩
    refine ⟨_, rfl, v1, ls1, x1, y1, ms1, rfl, h1, vL1, vw1, fun H1 s1 => ?_⟩
    refine ⟨_, rfl, v2, ls2, x2, y2, ms2, rfl, h2.keep (Same.tk s1), vL2, vw2, fun H2 s2 => ?_⟩
    have s12 := s1.trans s2
    refine ⟨_, rfl, _, rfl, v1, v2, ls1, ls2, x1, y1, x2, y2, ms1, ms2, rfl, h1.keep (Same.tk s12), h2.keep (Same.tk s12), fun el => ?_, fun ne => q .un _ (.inl ⟨ne, rfl⟩) s12⟩
    refine ⟨_, rfl, v1, ls1, x1, y1, ms1, rfl, h1.keep (Same.tk s12), vL1, vw1, fun H3 r s3 hr' => ?_⟩
    have s13 := s12.trans s3
    have bo : ∀ o, o = boL ls1 x1 y1 ms1 ls2 x2 y2 ms2 r → IsBo ls1 x1 y1 ms1 ls2 x2 y2 ms2 o := fun o e => .inr ⟨el, r, hr', e⟩
    refine ⟨_, rfl, r, rfl, fun L eL => ?_, fun eL => q .en _ (bo _ (by rw [eL]; rfl)) s13⟩
    subst eL
    obtain ⟨L0, L1, hls, hms⟩ := shLen_bd vL1 vw1 hr'
    obtain ⟨p1, lv1, wv1, rfl, hp1, ⟨pl1, us1, rfl, hq1, pd1⟩, hw1⟩ := h1.keep (Same.tk s13)
    obtain ⟨p2, lv2, wv2, rfl, hp2, ⟨pl2, us2, rfl, hq2, pd2⟩, hw2⟩ := h2.keep (Same.tk s13)
    have l1 := Paired.length pd1
    have l2 := Paired.length pd2
    have n1 := vL1.2.1
    have n2 := vL2.2.1
    have lz : (List.zipWith (lbh L) ls1 ls2).length = us1.length := by rw [List.length_zipWith]; omega
    refine ⟨_, rfl, p1, _, 0, _, rfl, rfl, hp1, rfl, _, rfl, p2, _, 0, _, rfl, rfl, hp2, rfl, pl1, pl2, us1, us2, rfl, .inr ⟨hq1, hq2, fun D hD => ?_⟩⟩
    refine lc_pairs (J := RZ.ItzT K pl1 pl2) (xs := us1) (ys := us2) (fun i H' => Same H3 H' ∧ ∃ ws, H' D = some (.lst ws) ∧ ws.length = i ∧ Paired (LyAt K H') ws ((List.zipWith (lbh L) ls1 ls2).take i))
      ⟨same_upd hD, [], upd_same, rfl, .nil⟩ (fun i H' z hi => ⟨us1, us2, us1[i], us2[i]'(by omega), Same.sqT z.1 hq1, Same.sqT z.1 hq2, List.getElem?_eq_getElem hi, List.getElem?_eq_getElem (by omega)⟩)
      (fun H' z => ⟨us1, us2, Same.sqT z.1 hq1, Same.sqT z.1 hq2, .inl (Nat.le_refl _)⟩)
      (fun i H' v H'' z ⟨T, x, y, e1, e2, e3, f1, f2⟩ => ⟨T, x, y, e1, e2, e3, f1 _ (Same.sqT z.1 hq1), f2 _ (Same.sqT z.1 hq2)⟩) (fun i x y T H4 hx hy p4 nT => ?_) (fun H4 p4 => ?_)
    · obtain ⟨s4, ws, eD, lw, pw⟩ := p4
      obtain ⟨a, ha, hla⟩ := Paired.at pd1 hx
      obtain ⟨b, hb, hlb⟩ := Paired.at pd2 hy
      have hi := (List.getElem?_eq_some_iff.mp hx).1
      have sT := same_upd (o := .tup [x, y]) nT
      have ma := hls a (List.mem_of_getElem? ha)
      have ta := tot_nonneg (vL1.2.2 a (List.mem_of_getElem? ha)).1.2
      refine ⟨T, _, rfl, .inl (.inl upd_same), rfl, _, _, rfl, _, _, rfl, rfl, rfl, yes_ok ⟨_, rfl, _, rfl, _, rfl, x, y, a, b, L, rfl, LyAt.keep (Same.tk (s4.trans sT)) hla, LyAt.keep (Same.tk (s4.trans sT)) hlb, vL1.2.2 a (List.mem_of_getElem? ha), vL2.2.2 b (List.mem_of_getElem? hb), by omega, by omega, fun H5 v5 s5 h5 => ?_⟩⟩
      have s45 := sT.trans s5
      have eD5 := s45 _ _ eD
      refine ⟨ws, eD5, small1000 (by omega), fun b' o' e => ?_, ws ++ [v5], upd_same, by rw [List.length_append, lw]; rfl, ?_⟩
      · rw [upd_ne (ne_of_none e hD)]
        exact s45 _ _ (s4 _ _ e)
      · rw [List.take_add_one, List.getElem?_zipWith, ha, hb]
        exact Paired.snocP (Paired.mono pw fun _ _ => LyAt.keep fun a zs h => tk_updL eD5 _ _ (Same.sqT s45 h)) (LyAt.keep (fun a zs h => tk_updL eD5 _ _ h) h5)
    obtain ⟨s4, ws, eD, lw, pw⟩ := p4
    rw [List.take_of_length_le (by omega)] at pw
    refine ⟨D, ws, rfl, .inl ⟨.inl (.inl eD), fun T nT => ?_⟩⟩
    have s5 := same_upd (o := .tup ws) nT
    have e5 : (upd H4 T (.tup ws)) T = some (.tup ws) := upd_same
    generalize upd H4 T (.tup ws) = H5 at s5 e5 ⊢
    have s35 := s4.trans s5
    have pw5 := Paired.mono pw fun _ _ => LyAt.keep (Same.tk (K := K) s5)
    refine ⟨_, rfl, p1, _, 1, _, rfl, rfl, Same.sqT s35 hp1, rfl, _, rfl, p2, _, 1, _, rfl, rfl, Same.sqT s35 hp2, rfl, _, rfl, wv1, wv2, x1, y1, x2, y2, ms1, ms2, L, rfl, hw1.keep (Same.tk s35), hw2.keep (Same.tk s35), vw1.2.2.1, vw2.2.2.1, by omega, by have := mtot_nonneg vw1.2.2.2; omega, fun H6 W s6 h6 => ?_⟩
    have s16 := s13.trans (s35.trans s6)
    have pw6 := Paired.mono pw5 fun _ _ => LyAt.keep (Same.tk (K := K) s6)
    have hT6 : SqT K H6 T ws := .inl (.inl (s6 _ _ e5))
    obtain ⟨pw', mv, rfl, hpw, pm, um, rfl, hpm, pdm⟩ := id h6
    have lm := Paired.length pdm
    have lzw := Paired.length pw6
    refine ⟨_, rfl, T, rfl, ⟨_, hT6⟩, ?_⟩
    refine for_tup (K := K) (a := T) (xs := ws) (fun i σ H' => H' = H6 ∧ (∀ k ∈ (List.zipWith (lbh L) ls1 ls2).take i, k.1.length ≤ 8) ∧ ∃ y5 y6 y7 y8, σ = [some (.ref p1), some (.ref p2), some (.int L), some (.ref T), some (.ref pw'), y5, y6, y7, y8])
      ⟨rfl, fun k hk => by simp at hk, _, _, _, _, rfl⟩ (fun i σ H' _ z => by rw [z.1]; exact hT6) ?_ ?_
    · rintro i x σ H' hx ⟨rfl, hall, y5, y6, y7, y8, rfl⟩
      obtain ⟨l, hl, pl, rv, rfl, hpl, pr, ur, rfl, hpr, pdr⟩ := Paired.at pw6 hx
      have lr := Paired.length pdr
      refine ⟨pl, _, rfl, hpl, rfl, _, _, rfl, _, _, rfl, rfl, ?_⟩
      refine ⟨_, rfl, pr, ur, rfl, .inr hpr, _, 8, rfl, fun hle => ?_, fun hlt => ?_⟩
      · refine ⟨rfl, fun k hk => ?_, _, _, _, _, rfl⟩
        rw [List.take_add_one, hl] at hk
        rcases List.mem_append.mp hk with z | z
        · exact hall k z
        · have : k = l := by simpa using z
          subst this
          omega
      · intro H' d s' nd e'
        have hb := bo2_at (ms := mbh x1 y1 ms1 L x2 y2 ms2) hall hl (by omega)
        have := q (.mn l.1.length) H' (bo _ hb.symm) (s16.trans s')
        refine this d (s16.free nd) ?_
        rw [e', lr]
    · rintro σ H' ⟨rfl, hall, y5, y6, y7, y8, rfl⟩
      have hall' : ∀ k ∈ List.zipWith (lbh L) ls1 ls2, k.1.length ≤ 8 := fun k hk => hall k (by rw [List.take_of_length_le (by omega)]; exact hk)
      have hb := bo2_all (ms := mbh x1 y1 ms1 L x2 y2 ms2) hall'
      refine ⟨_, rfl, pw', _, 2, _, rfl, rfl, hpw, rfl, pm, um, rfl, .inr hpm, _, 8, rfl, fun hle => ?_, fun hlt => ?_⟩
      · rw [if_neg (by omega)] at hb
        refine ⟨_, rfl, _, rfl, (by show 2 ≤ sizeLine; decide), fun p8 np8 => ?_⟩
        have s8 := same_upd (o := .tup [.ref T, .ref pw']) np8
        exact q (.ok _ _) _ (bo _ hb.symm) (s16.trans s8) _ ⟨p8, _, _, rfl, .inl (.inl upd_same), ⟨T, ws, rfl, Same.sqT s8 hT6, Paired.mono pw6 fun _ _ => LyAt.keep (Same.tk s8)⟩, h6.keep (Same.tk s8)⟩
      · rw [if_pos (by omega)] at hb
        intro H' d s' nd e'
        have := q (.mn _) H' (bo _ hb.symm) (s16.trans s')
        refine this d (s16.free nd) ?_
        rw [e', lm]
end

section
variable {P : Program} {w : World} {K : PySem.W.Frag} {mg : Str → Option Value} {base : Heap}
def sp_beside (K : PySem.W.Frag) (c : Nat → Addr) : Sp := fun vs H Q E => ∃ (v1 v2 : V) (ls1 ls2 : List LY) (x1 y1 x2 y2 : Int) (ms1 ms2 : List MV), vs = [v1, v2] ∧ ShAt K H v1 ls1 x1 y1 ms1 ∧ VLays ls1 ∧ VWin x1 y1 ms1 ∧ ShAt K H v2 ls2 x2 y2 ms2 ∧ VLays ls2 ∧ VWin x2 y2 ms2 ∧
  (ls1.length + ls2.length ≤ 4 → ∀ H' v, Same H H' → ShAt K H' v (ls1 ++ ls2) x1 y1 ms1 → Q v H') ∧
  (4 < ls1.length + ls2.length → ∀ H' d, Same H H' → H d = none → H' d = some (.xd [("most", .int 4), ("many", .int ((ls1.length + ls2.length : Nat) : Int))]) → E (.ref (c 14)) (some d) H')
theorem ok_beside {f : Addr} {fd : FuncData} {c : Nat → Addr} {LE : Addr} (F : Fun K "beside" "beside" s_beside f fd) (T : Txt K mg) (TX : ExcN K mg c LE) (D_need_sheet : Cl P w K mg base 7 "need_sheet" ["thing"] (sp_need_sheet K)) (D_need_at_most : ClX P w K mg base 3 "need_at_most" ["many", "most"] (sp_need_at_most K c)) : FnOk P w K mg base (L2.CX P w) 8 f fd ["one", "other"] (sp_beside K c) := by
  refine F.okX sc_beside (fun vs H Q E h => ?_) (fun cdv A outer s H vs Q E hr h => ?_)
  · obtain ⟨v1, v2, ls1, ls2, x1, y1, x2, y2, ms1, ms2, rfl, _⟩ := h
    rfl
  · obtain ⟨v1, v2, ls1, ls2, x1, y1, x2, y2, ms1, ms2, rfl, h1, vL1, vw1, h2, vL2, vw2, q1, q2⟩ := h
    refine ⟨_, (pss_cons (ps_expr (pe_own D_need_sheet (hr.mono (by omega)) (by rfl) (pa_cons (pv 0) pa_nil)))
      (pss_cons (ps_expr (pe_own D_need_sheet (hr.mono (by omega)) (by rfl) (pa_cons (pv 1) pa_nil)))
      (pss_cons (ps_set (i := 2) sc_beside.nd rfl (Or.inl rfl) (pe_op op_catA (pe_ix ix_tup (pv 0) pe_int (fun _ _ => rfl)) (pe_ix ix_tup (pv 1) pe_int (fun _ _ => rfl))))
      (pss_cons (ps_expr (pe_ownX D_need_at_most (hr.mono (by omega)) (takes_of rfl rfl rfl rfl) (by rfl) (pa_cons (pe_callB call_len_seq (by rfl) T.b_len (by decide +kernel) (pa_cons (pv 2) pa_nil)) (pa_cons (pe_gint (by rfl) T.c_MOST_LAYERS) pa_nil))))
      (pss_one (ps_ret (pe_tup (pa_cons (pv 2) (pa_cons (pe_ix ix_tup (pv 0) pe_int (fun _ _ => rfl)) pa_nil))))))))), ?_⟩
    refine ⟨_, rfl, v1, ls1, x1, y1, ms1, rfl, h1, vL1, vw1, fun H1 s1 => ?_⟩
    refine ⟨_, rfl, v2, ls2, x2, y2, ms2, rfl, h2.keep (Same.tk s1), vL2, vw2, fun H2 s2 => ?_⟩
    have s12 := s1.trans s2
    obtain ⟨p1, lv1, wv1, rfl, hp1, ⟨pl1, us1, rfl, hq1, pd1⟩, hw1⟩ := h1.keep (Same.tk s12)
    obtain ⟨p2, lv2, wv2, rfl, hp2, ⟨pl2, us2, rfl, hq2, pd2⟩, hw2⟩ := h2.keep (Same.tk s12)
    have l1 := Paired.length pd1
    have l2 := Paired.length pd2
    have n1 := vL1.2.1
    have n2 := vL2.2.1
    refine ⟨_, rfl, p1, _, 0, _, rfl, rfl, hp1, rfl, _, rfl, p2, _, 0, _, rfl, rfl, hp2, rfl, cat_any hq1 hq2 (by omega) fun H3 L s3 hL => ?_⟩
    refine ⟨_, rfl, L, _, rfl, .inr hL, _, 4, rfl, fun hle => ?_, fun hlt => ?_⟩
    · rw [List.length_append] at hle
      refine ⟨_, rfl, _, rfl, p1, _, 1, _, rfl, rfl, Same.sqT s3 hp1, rfl, (by show 2 ≤ sizeLine; decide), fun p4 np4 => ?_⟩
      have s4 := same_upd (o := .tup [.ref L, wv1]) np4
      have k := Same.tk (K := K) (s3.trans s4)
      exact q1 (by omega) _ _ ((s12.trans s3).trans s4) ⟨p4, _, _, rfl, .inl (.inl upd_same), ⟨L, _, rfl, Same.sqT s4 hL, Paired.appP (Paired.mono pd1 fun _ _ => LyAt.keep k) (Paired.mono pd2 fun _ _ => LyAt.keep k)⟩, hw1.keep k⟩
    · rw [List.length_append] at hlt
      intro H' d s' nd e'
      refine q2 (by omega) H' d ((s12.trans s3).trans s') ((s12.trans s3).free nd) ?_
      rw [e', List.length_append, l1, l2]
end

section
variable {P : Program} {w : World} {K : PySem.W.Frag} {mg : Str → Option Value} {base : Heap}
def sp_need_time (K : PySem.W.Frag) (c : Nat → Addr) : Sp := fun vs H Q E => ∃ (o : Option Int) (m : Int), vs = [bkV o, .int m] ∧ 1 ≤ m ∧ m ≤ 200 ∧ (∀ i, o = some i → i ≠ 0 → Q .non H) ∧ (o = none → E (.ref (c 8)) none H) ∧ (o = some 0 → E (.ref (c 9)) none H)
theorem ok_need_time {f : Addr} {fd : FuncData} {c : Nat → Addr} {LE : Addr} (F : Fun K "need_time" "need_time" s_need_time f fd) (T : Txt K mg) (TX : ExcN K mg c LE) (D_need_number : Cl P w K mg base 3 "need_number" ["thing", "least", "most"] (sp_need_number K)) (D_need_length : ClX P w K mg base 1 "need_length" ["length"] (sp_need_length K c)) : FnOk P w K mg base (L2.CX P w) 4 f fd ["length", "many"] (sp_need_time K c) := by
  refine F.okX sc_need_time (fun vs H Q E h => ?_) (fun cdv A outer s H vs Q E hr h => ?_)
  · obtain ⟨o, m, rfl, _⟩ := h
    rfl
  · obtain ⟨o, m, rfl, m1, m2, q1, q2, q3⟩ := h
    refine ⟨_, (pss_cons (ps_expr (pe_own D_need_number (hr.mono (by omega)) (by rfl) (pa_cons (pv 1) (pa_cons pe_int (pa_cons (pe_gint (by rfl) T.c_MOST_PICTURES) pa_nil)))))
      (pss_cons (ps_expr (pe_ownX D_need_length (hr.mono (by omega)) (takes_of rfl rfl rfl rfl) (by rfl) (pa_cons (pv 0) pa_nil)))
      (pss_one (ps_if (pt_cmpR op_eq (pv 0) pe_int (nomark _)) (pss_one (ps_raise rfl (takes_of rfl rfl rfl rfl) (pmk_own PySem.F.excBase_ValueError (TX.nw 9 (by decide)) (TX.g 9 "Squeezed" rfl) (TX.kp 9 (by decide)) (TX.rs (i := 9) (by decide)) rfl))) pss_nil)))), ?_⟩
    refine ⟨_, rfl, m, 1, 200, rfl, m1, m2, ?_⟩
    refine ⟨_, rfl, o, rfl, fun i ei => ?_, q2⟩
    subst ei
    refine ⟨_, rfl, rfl, _, rfl, ite2 (fun e => ?_) (fun e => ?_)⟩
    · have e0 : V.int i = V.int 0 := of_decide_eq_true e
      cases e0
      exact q3 rfl
    · exact q1 i rfl fun z => e (decide_eq_true (by subst z; rfl))
def sp_even_holds (K : PySem.W.Frag) : Sp := fun vs H Q _ => ∃ (k : Nat) (m : Int), vs = [.int (k : Int), .int m] ∧ k ≤ 8 ∧ ∀ H' p, Same H H' → H p = none → H' p = some (.lst ((evs k m).map V.int)) → Q (.ref p) H'
theorem ok_even_holds {f : Addr} {fd : FuncData} (F : Fun K "even_holds" "even_holds" s_even_holds f fd) (T : Txt K mg) : FnOk P w K mg base CX0 1 f fd ["parts", "many"] (sp_even_holds K) := by
  refine F.ok sc_even_holds (fun vs H Q E h => ?_) (fun cdv A outer s H vs Q E hr h => ?_)
  · obtain ⟨k, m, rfl, _⟩ := h
    rfl
  · obtain ⟨k, m, rfl, k8, q⟩ := h
    refine ⟨_, (pss_one (ps_ret (pe_lc (own := [("at", 2)]) (g := (gName 2)) (tt := tYes) (by rfl) sc_even_holds.nd (pi_range1 (by rfl) T.b_range (pa_cons (pv 0) pa_nil)) (blkOk_by (own := [("at", 2)]) (N := ["parts", "many", "at"]) (sc := defScope s_even_holds) (by decide +kernel)) (fun _ _ _ _ _ => (pg_name (i := 2) sc_even_holds.nd rfl (Or.inl rfl))) (fun _ _ _ _ _ => pts_nil) (fun _ _ _ _ _ => (pe_op op_fdivN (pe_op op_sub (pe_op op_add (pe_op op_sub (pv 1) (pv 2)) (pv 0)) pe_int) (pv 0)))))), ?_⟩
    refine ⟨_, rfl, (k : Int), rfl, by omega, by omega, fun D hD => ?_⟩
    refine lc_range (lo := 0) (n := (k : Int).toNat) (fun i H' => Same H H' ∧ H' D = some (.lst (((List.range i).map fun (a : Nat) => (m - (a : Int) + (k : Int) - 1) / (k : Int)).map V.int))) ⟨same_upd hD, upd_same⟩ (fun i H1 hi p1 => ?_) (fun H1 p1 => ?_)
    · obtain ⟨s1, e1⟩ := p1
      refine ⟨rfl, yes_ok ⟨_, rfl, _, rfl, _, _, rfl, rfl, _, rfl, _, _, rfl, rfl, _, _, rfl, rfl, _, rfl, _, _, rfl, rfl, ⟨by omega, by omega⟩, _, e1, ?_, fun b o e => ?_, ?_⟩⟩
      · rw [List.length_map, List.length_map, List.length_range]
        exact small1000 (by omega)
      · rw [upd_ne (ne_of_none e hD)]
        exact s1 _ _ e
      · rw [upd_same, map_succ, List.map_append]
        show some (HO.lst (_ ++ [V.int ((m - (0 + (i : Int)) + (k : Int) - 1).fdiv (k : Int))])) = _
        rw [Int.fdiv_eq_ediv_of_nonneg _ (by omega), show m - (0 + (i : Int)) = m - (i : Int) by omega]
        rfl
    · exact q _ D p1.1 hD p1.2
def sp_scaled (K : PySem.W.Frag) : Sp := fun vs H Q _ => ∃ (l : Addr) (ns : List Int) (L m : Int), vs = [.ref l, .int L, .int m] ∧ SqL K H l (ns.map V.int) ∧ ns.length ≤ 8 ∧ 0 < L ∧ L ≤ 1000 ∧ 1 ≤ m ∧ m ≤ 200 ∧
  ∀ H' p, Same H H' → H p = none → H' p = some (.lst ((scl ns L m).map V.int)) → Q (.ref p) H'
theorem ok_scaled {f : Addr} {fd : FuncData} (F : Fun K "scaled" "scaled" s_scaled f fd) (T : Txt K mg) : FnOk P w K mg base CX0 1 f fd ["numbers", "length", "many"] (sp_scaled K) := by
  refine F.ok sc_scaled (fun vs H Q E h => ?_) (fun cdv A outer s H vs Q E hr h => ?_)
  · obtain ⟨l, ns, L, m, rfl, _⟩ := h
    rfl
  · obtain ⟨l, ns, L, m, rfl, hl, n8, L0, L1, m1, m2, q⟩ := h
    refine ⟨_, (pss_cons (ps_set (i := 3) sc_scaled.nd rfl (Or.inl rfl) (pe_lst pa_nil))
      (pss_cons (ps_set (i := 4) sc_scaled.nd rfl (Or.inl rfl) pe_int)
      (pss_cons (ps_set (i := 5) sc_scaled.nd rfl (Or.inl rfl) pe_int)
      (pss_cons (ps_for PassesOwn.never rfl (pi_list (pv 0)) (pg_name (i := 6) sc_scaled.nd rfl (Or.inl rfl))
        (pss_cons (ps_aug (i := 4) sc_scaled.nd rfl (Or.inl rfl) (pv 6) ip_add)
      (pss_cons (ps_set (i := 7) sc_scaled.nd rfl (Or.inl rfl) (pe_op op_fdivN (pe_op op_mul (pv 4) (pv 2)) (pv 1)))
      (pss_cons (ps_expr (pe_bm PySem.F.plainAttrs_list PySem.F.slot_list_append PySem.F.type_list_append mt_append (pv 3) (pa_cons (pe_op op_sub (pv 7) (pv 5)) pa_nil)))
      (pss_one (ps_set (i := 5) sc_scaled.nd rfl (Or.inl rfl) (pv 7)))))))
      (pss_one (ps_ret (pv 3))))))), ?_⟩
    refine ⟨Nat.zero_le _, fun D nD => ?_⟩
    refine ⟨_, rfl, l, rfl, ⟨_, (same_upd nD).seq hl⟩, for_list (K := K) (a := l) (xs := ns.map V.int) (fun i σ H' => Same H H' ∧ H' D = some (.lst (((List.range i).map (scf ns L m)).map V.int)) ∧ ∃ y6 y7, σ = [some (.ref l), some (.int L), some (.int m), some (.ref D), some (.int (ps ns i)), some (.int (ps ns i * m / L)), y6, y7])
      ⟨same_upd nD, upd_same, none, none, ?_⟩ (fun j σ H' _ z => z.1.seq hl) ?_ ?_⟩
    · rw [ps_zero, Int.zero_mul, Int.zero_ediv]
      rfl
    · rintro i u σ H1 hu ⟨s1, e1, y6, y7, rfl⟩
      rw [List.getElem?_map] at hu
      obtain ⟨n, hn, rfl⟩ := Option.map_eq_some_iff.mp hu
      have hi : i < ns.length := (List.getElem?_eq_some_iff.mp hn).1
      refine ⟨_, rfl, _, rfl, _, _, rfl, rfl, ?_⟩
      refine ⟨_, rfl, _, rfl, _, _, rfl, rfl, .inr ⟨by omega, by omega⟩, _, rfl, _, _, rfl, rfl, ⟨by omega, by omega⟩, ?_⟩
      refine ⟨_, rfl, .inl ⟨rfl, _, .inl (.inl e1)⟩, _, rfl, _, rfl, _, _, rfl, rfl, D, _, _, rfl, rfl, e1, ?_, ?_⟩
      · rw [List.length_map, List.length_map, List.length_range]
        exact small1000 (by omega)
      refine ⟨_, rfl, fun b o e => ?_, ?_, some (.int n), some (.int (ps ns (i + 1) * m / L)), ?_⟩
      · rw [upd_ne (ne_of_none e nD)]
        exact s1 _ _ e
      · rw [upd_same, map_succ, List.map_append]
        show some (HO.lst (_ ++ [V.int (((ps ns i + n) * m).fdiv L - ps ns i * m / L)])) = some (HO.lst (_ ++ [V.int (scf ns L m i)]))
        rw [Int.fdiv_eq_ediv_of_nonneg _ (by omega), ← ps_succ hn]
        rfl
      · show [some (V.ref l), some (.int L), some (.int m), some (.ref D), some (.int (ps ns i + n)), some (.int (((ps ns i + n) * m).fdiv L)), some (.int n), some (.int (((ps ns i + n) * m).fdiv L))] = _
        rw [Int.fdiv_eq_ediv_of_nonneg _ (by omega), ← ps_succ hn]
    · rintro σ H1 ⟨s1, e1, y6, y7, rfl⟩
      refine ⟨_, rfl, q _ D s1 nD ?_⟩
      rw [List.length_map] at e1
      exact e1
def sp_layer_with (K : PySem.W.Frag) : Sp := fun vs H Q _ => ∃ (v : V) (l : LY) (a : Addr) (hs : List Int), vs = [v, .ref a] ∧ LyAt K H v l ∧ l.1.length ≤ 8 ∧ SqL K H a (hs.map V.int) ∧ hs.length = l.1.length ∧ ∀ H' v', Same H H' → LyAt K H' v' (wh l.1 hs, l.2) → Q v' H'
theorem ok_layer_with {f : Addr} {fd : FuncData} (F : Fun K "layer_with" "layer_with" s_layer_with f fd) (T : Txt K mg) : FnOk P w K mg base CX0 1 f fd ["layer", "holds"] (sp_layer_with K) := by
  refine F.ok sc_layer_with (fun vs H Q E h => ?_) (fun cdv A outer s H vs Q E hr h => ?_)
  · obtain ⟨v, l, a, hs, rfl, _⟩ := h
    rfl
  · obtain ⟨v, ⟨rs, bk⟩, a, hs, rfl, ⟨p, rv, rfl, hp, pr, us, rfl, hq, pd⟩, r8, ha, hlen, q⟩ := h
    have hl := Paired.length pd
    dsimp only at r8 hlen q hl pd hp
    refine ⟨_, (pss_cons (ps_asg (pv 0) (pg_tup (by rfl) (pgs_cons (pg_name (i := 2) sc_layer_with.nd rfl (Or.inl rfl)) (pgs_cons (pg_name (i := 3) sc_layer_with.nd rfl (Or.inl rfl)) pgs_nil))))
      (pss_one (ps_ret (pe_tup (pa_cons (pe_tupZip rfl (by rfl) T.b_tuple (by rfl) T.b_zip (pa_cons (pe_lc (own := [("drawing", 4), ("hold", 5)]) (g := (gTup _ 2 (gCons (gName 4) (gCons (gName 5) gNil)))) (tt := tYes) (by rfl) sc_layer_with.nd (pi_tup (pv 2)) (blkOk_by (own := [("drawing", 4), ("hold", 5)]) (N := ["layer", "holds", "rows", "back", "drawing", "hold"]) (sc := defScope s_layer_with) (by decide +kernel)) (fun _ _ _ _ _ => (pg_tup (by rfl) (pgs_cons (pg_name (i := 4) sc_layer_with.nd rfl (Or.inl rfl)) (pgs_cons (pg_name (i := 5) sc_layer_with.nd rfl (Or.inl rfl)) pgs_nil)))) (fun _ _ _ _ _ => pts_nil) (fun _ _ _ _ _ => (pv 4))) (pa_cons (pv 1) pa_nil))) (pa_cons (pv 3) pa_nil)))))), ?_⟩
    refine ⟨_, rfl, p, _, rfl, hp, rfl, _, _, rfl, _, _, rfl, rfl, ?_⟩
    refine ⟨_, rfl, pr, rfl, ⟨_, hq⟩, fun D hD => ?_⟩
    refine lcmap_tup ((rs.map (·.1)).map V.int) (by simp [hl]) (by omega) hq hD (fun i x y H2 R Z hx hy s2 hR => ?_) (fun H2 s2 hL => ?_)
    · obtain ⟨r, hr1, pp, rfl, hrow⟩ := Paired.at pd hx
      have ey : y = .int r.1 := by
        rw [List.map_map, List.getElem?_map, hr1] at hy
        exact (Option.some.inj hy).symm
      subst ey
      exact ⟨pp, _, rfl, Same.sqT s2 hrow, rfl, _, _, rfl, _, _, rfl, rfl, rfl, yes_ok ⟨_, rfl, hR _ (Same.refl _)⟩⟩
    · refine ⟨_, rfl, D, a, _, _, rfl, .inl (.inl hL), s2.seq ha, by simp [hlen], fun H3 T ts s3 nT eT lt at3 => ?_⟩
      refine ⟨_, rfl, (by show 2 ≤ sizeLine; decide), fun p4 np4 => ?_⟩
      have s4 := same_upd (o := .tup [.ref T, bkV bk]) np4
      refine q _ _ ((s2.trans s3).trans s4) ⟨p4, _, rfl, .inl (.inl upd_same), T, ts.map V.ref, rfl, .inl (.inl (s4 _ _ eT)), ?_⟩
      rw [List.length_map, List.length_map] at lt
      refine paired_of (by rw [List.length_map, wh_len hlen, lt]) fun i x r hx hr => ?_
      rw [List.getElem?_map] at hx
      obtain ⟨t, ht, rfl⟩ := Option.map_eq_some_iff.mp hx
      have hi : i < rs.length := by
        have := (List.getElem?_eq_some_iff.mp ht).1
        omega
      have h1 := List.getElem?_eq_getElem hi
      have h2 : hs[i]? = some (hs[i]'(by omega)) := List.getElem?_eq_getElem (by omega)
      rw [wh_at h1 h2] at hr
      cases hr
      exact ⟨t, rfl, .inl (.inl (s4 _ _ (at3 i t _ _ ht (by rw [List.map_map, List.getElem?_map, h1]; rfl) (by rw [List.getElem?_map, h2]; rfl))))⟩
def sp_scaled_layer (K : PySem.W.Frag) : Sp := fun vs H Q _ => ∃ (v : V) (l : LY) (L m : Int), vs = [v, .int L, .int m] ∧ LyAt K H v l ∧ l.1.length ≤ 8 ∧ 0 < L ∧ L ≤ 1000 ∧ 1 ≤ m ∧ m ≤ 200 ∧ ∀ H' v', Same H H' → LyAt K H' v' (wh l.1 (scl (hds l.1) L m), l.2) → Q v' H'
theorem ok_scaled_layer {f : Addr} {fd : FuncData} (F : Fun K "scaled_layer" "scaled_layer" s_scaled_layer f fd) (T : Txt K mg) (D_layer_with : Cl P w K mg base 1 "layer_with" ["layer", "holds"] (sp_layer_with K)) (D_scaled : Cl P w K mg base 1 "scaled" ["numbers", "length", "many"] (sp_scaled K)) : FnOk P w K mg base CX0 2 f fd ["layer", "length", "many"] (sp_scaled_layer K) := by
  refine F.ok sc_scaled_layer (fun vs H Q E h => ?_) (fun cdv A outer s H vs Q E hr h => ?_)
  · obtain ⟨v, l, L, m, rfl, _⟩ := h
    rfl
  · obtain ⟨v, l, L, m, rfl, hly, r8, L0, L1, m1, m2, q⟩ := h
    obtain ⟨p, rv, rfl, hp, pr, us, rfl, hq, pd⟩ := id hly
    have hl := Paired.length pd
    refine ⟨_, (pss_one (ps_ret (pe_own D_layer_with (hr.mono (by omega)) (by rfl) (pa_cons (pv 0) (pa_cons (pe_own D_scaled (hr.mono (by omega)) (by rfl) (pa_cons (pe_lc (own := [("drawing", 3), ("hold", 4)]) (g := (gTup _ 2 (gCons (gName 3) (gCons (gName 4) gNil)))) (tt := tYes) (by rfl) sc_scaled_layer.nd (pi_tup (pe_ix ix_tup (pv 0) pe_int (fun _ _ => rfl))) (blkOk_by (own := [("drawing", 3), ("hold", 4)]) (N := ["layer", "length", "many", "drawing", "hold"]) (sc := defScope s_scaled_layer) (by decide +kernel)) (fun _ _ _ _ _ => (pg_tup (by rfl) (pgs_cons (pg_name (i := 3) sc_scaled_layer.nd rfl (Or.inl rfl)) (pgs_cons (pg_name (i := 4) sc_scaled_layer.nd rfl (Or.inl rfl)) pgs_nil)))) (fun _ _ _ _ _ => pts_nil) (fun _ _ _ _ _ => (pv 4))) (pa_cons (pv 1) (pa_cons (pv 2) pa_nil)))) pa_nil))))), ?_⟩
    refine ⟨_, rfl, _, rfl, p, _, 0, _, rfl, rfl, hp, rfl, pr, rfl, ⟨_, hq⟩, fun D hD => ?_⟩
    refine lcmap_tup ((hds l.1).map V.int) (by simp [hds_len, hl]) (by omega) hq hD (fun i x y H2 R Z hx hy s2 hR => ?_) (fun H2 s2 hL => ?_)
    · obtain ⟨r, hr1, pp, rfl, hrow⟩ := Paired.at pd hx
      have ey : y = .int r.2 := by
        unfold hds at hy
        rw [List.map_map, List.getElem?_map, hr1] at hy
        exact (Option.some.inj hy).symm
      subst ey
      exact ⟨pp, _, rfl, Same.sqT s2 hrow, rfl, _, _, rfl, _, _, rfl, rfl, rfl, yes_ok ⟨_, rfl, hR _ (Same.refl _)⟩⟩
    · refine ⟨_, rfl, _, rfl, D, _, L, m, rfl, .inl (.inl hL), by rw [hds_len]; exact r8, L0, L1, m1, m2, fun H3 S s3 nS eS => ?_⟩
      exact ⟨_, l, S, _, rfl, hly.keep (Same.tk (s2.trans s3)), r8, .inl (.inl eS), by rw [scl_len, hds_len], fun H4 v' s4 => q H4 v' ((s2.trans s3).trans s4)⟩
end

def flt (ls : List LY) : List Int := (ls.map fun l => hds l.1).flatten
theorem flt_snoc {ls : List LY} {i : Nat} {l : LY} (h : ls[i]? = some l) : flt (ls.take (i + 1)) = flt (ls.take i) ++ hds l.1 := by
  unfold flt
  rw [List.take_add_one, h, List.map_append, List.flatten_append]
  show _ ++ (hds l.1 ++ []) = _
  rw [List.append_nil]
theorem flt_len : ∀ {ls : List LY}, (∀ l ∈ ls, l.1.length ≤ 8) → (flt ls).length ≤ 8 * ls.length
  | [], _ => Nat.le_refl _
  | l :: ls, h => by
    have a := flt_len (ls := ls) fun z m => h z (List.mem_cons_of_mem _ m)
    have b := h l (by simp)
    show (hds l.1 ++ flt ls).length ≤ 8 * (ls.length + 1)
    rw [List.length_append, hds_len]
    omega
def TmEnd (K : PySem.W.Frag) (c : Nat → Addr) (l : LY) (H : Hp) (Q : VK) (E : XK) (H' : Hp) : TO → Prop
  | .en => E (.ref (c 8)) none H'
  | .sq => E (.ref (c 9)) none H'
  | .mn m => ∀ d, H d = none → H' d = some (.xd [("most", .int 24), ("many", .int m)]) → E (.ref (c 14)) (some d) H'
  | .ok hs => ∀ v, LyAt K H' v (wh l.1 hs, none) → Q v H'
section
variable {P : Program} {w : World} {K : PySem.W.Frag} {mg : Str → Option Value} {base : Heap}
def sp_need_fitting (K : PySem.W.Frag) (c : Nat → Addr) : Sp := fun vs H Q E => ∃ (pl pm : Addr) (us ws : List V) (ls : List LY) (ms : List MV), vs = [.ref pl, .ref pm] ∧ SqT K H pl us ∧ Paired (LyAt K H) us ls ∧ SqT K H pm ws ∧ Paired (MoveAt K H) ws ms ∧ ls.length ≤ 4 ∧ (∀ l ∈ ls, l.1.length ≤ 8) ∧ ms.length ≤ 8 ∧
  flt ls ++ ms.map (·.2.2) ≠ [] ∧ ((∃ h ∈ flt ls, h < 1) → ∀ H', Same H H' → E (.ref (c 9)) none H') ∧
  ((∀ h ∈ flt ls, 1 ≤ h) → ∀ M ∈ flt ls ++ ms.map (·.2.2), (∀ h ∈ flt ls ++ ms.map (·.2.2), h ≤ M) → (M ≤ 24 → ∀ H', Same H H' → Q .non H') ∧
    (24 < M → ∀ H' d, Same H H' → H d = none → H' d = some (.xd [("most", .int 24), ("many", .int M)]) → E (.ref (c 14)) (some d) H'))
theorem ok_need_fitting {f : Addr} {fd : FuncData} {c : Nat → Addr} {LE : Addr} (F : Fun K "need_fitting" "need_fitting" s_need_fitting f fd) (T : Txt K mg) (TX : ExcN K mg c LE) (D_need_at_most : ClX P w K mg base 3 "need_at_most" ["many", "most"] (sp_need_at_most K c)) : FnOk P w K mg base (L2.CX P w) 4 f fd ["layers", "moves"] (sp_need_fitting K c) := by
  refine F.okX sc_need_fitting (fun vs H Q E h => ?_) (fun cdv A outer s H vs Q E hr h => ?_)
  · obtain ⟨pl, pm, us, ws, ls, ms, rfl, _⟩ := h
    rfl
  · obtain ⟨pl, pm, us, ws, ls, ms, rfl, hq, pd, hm, pm', l4, l8, m8, ne, q1, q2⟩ := h
    have hl := Paired.length pd
    have hlm := Paired.length pm'
    have fl : ∀ i, (flt (ls.take i)).length ≤ 32 := fun i => by
      have := flt_len (ls := ls.take i) fun l m => l8 l (List.mem_of_mem_take m)
      rw [List.length_take] at this
      omega
    refine ⟨_, (pss_cons (ps_setLc2 (i := 2) (own := [("rows", 3), ("back", 4), ("drawing", 5), ("hold", 6)]) (vs1 := [5, 6]) (g := (gTup _ 2 (gCons (gName 3) (gCons (gName 4) gNil)))) (g1 := (gTup _ 2 (gCons (gName 5) (gCons (gName 6) gNil)))) (tt := tYes) (tt1 := tYes) (by rfl) sc_need_fitting.nd rfl rfl (sw_true rfl rfl rfl (by decide +kernel)) (pi_tup (pv 0)) (blkOk_by (own := [("rows", 3), ("back", 4), ("drawing", 5), ("hold", 6)]) (N := ["layers", "moves", "holds", "rows", "back", "drawing", "hold", "x", "y", "pictures"]) (sc := defScope s_need_fitting) (by decide +kernel)) (by decide) (fun _ _ _ _ _ => (pg_tup (by rfl) (pgs_cons (pg_name (i := 3) sc_need_fitting.nd rfl (Or.inl rfl)) (pgs_cons (pg_name (i := 4) sc_need_fitting.nd rfl (Or.inl rfl)) pgs_nil)))) (fun _ _ _ _ _ => pts_nil) (fun _ _ _ _ _ => (pi_tupK (K := K) (pv 3))) (fun _ _ _ _ _ => (pg_tup (by rfl) (pgs_cons (pg_name (i := 5) sc_need_fitting.nd rfl (Or.inl rfl)) (pgs_cons (pg_name (i := 6) sc_need_fitting.nd rfl (Or.inl rfl)) pgs_nil)))) (fun _ _ _ _ _ => pts_nil) (fun _ _ _ _ _ => (pv 6)))
      (pss_cons (ps_if (pt_val (pe_callB (cr_any rfl) (by rfl) T.b_any (by decide +kernel) (pa_cons (pe_lc (own := [("hold", 6)]) (g := (gName 6)) (tt := tYes) (by rfl) sc_need_fitting.nd (pi_list (pv 2)) (blkOk_by (own := [("hold", 6)]) (N := ["layers", "moves", "holds", "rows", "back", "drawing", "hold", "x", "y", "pictures"]) (sc := defScope s_need_fitting) (by decide +kernel)) (fun _ _ _ _ _ => (pg_name (i := 6) sc_need_fitting.nd rfl (Or.inl rfl))) (fun _ _ _ _ _ => pts_nil) (fun _ _ _ _ _ => (pe_cmpR op_lt (pv 6) pe_int (nomark _)))) pa_nil))) (pss_one (ps_raise rfl (takes_of rfl rfl rfl rfl) (pmk_own PySem.F.excBase_ValueError (TX.nw 9 (by decide)) (TX.g 9 "Squeezed" rfl) (TX.kp 9 (by decide)) (TX.rs (i := 9) (by decide)) rfl))) pss_nil)
      (pss_one (ps_expr (pe_ownX D_need_at_most (hr.mono (by omega)) (takes_of rfl rfl rfl rfl) (by rfl) (pa_cons (pe_callB (cr_max rfl) (by rfl) T.b_max (by decide +kernel) (pa_cons (pe_op op_cat (pv 2) (pe_lc (own := [("x", 7), ("y", 8), ("pictures", 9)]) (g := (gTup _ 3 (gCons (gName 7) (gCons (gName 8) (gCons (gName 9) gNil))))) (tt := tYes) (by rfl) sc_need_fitting.nd (pi_tup (pv 1)) (blkOk_by (own := [("x", 7), ("y", 8), ("pictures", 9)]) (N := ["layers", "moves", "holds", "rows", "back", "drawing", "hold", "x", "y", "pictures"]) (sc := defScope s_need_fitting) (by decide +kernel)) (fun _ _ _ _ _ => (pg_tup (by rfl) (pgs_cons (pg_name (i := 7) sc_need_fitting.nd rfl (Or.inl rfl)) (pgs_cons (pg_name (i := 8) sc_need_fitting.nd rfl (Or.inl rfl)) (pgs_cons (pg_name (i := 9) sc_need_fitting.nd rfl (Or.inl rfl)) pgs_nil))))) (fun _ _ _ _ _ => pts_nil) (fun _ _ _ _ _ => (pv 9)))) pa_nil)) (pa_cons (pe_gint (by rfl) T.c_MOST_HOLD) pa_nil))))))), ?_⟩
    refine ⟨_, rfl, pl, rfl, ⟨_, hq⟩, fun D hD => ?_⟩
    refine wk_tup (K := K) (a := pl) (xs := us) (fun i H' => Same H H' ∧ H' D = some (.lst ((flt (ls.take i)).map V.int))) ⟨same_upd hD, upd_same⟩ (fun i H' _ z => Same.sqT z.1 hq) (fun i x H1 hx p1 => ?_) (fun H1 p1 => ?_)
    · obtain ⟨s1, e1⟩ := p1
      obtain ⟨l, hl1, p, rv, rfl, hp, pr, vs, rfl, hqr, pdr⟩ := Paired.at pd hx
      have hlr := Paired.length pdr
      have r8 := l8 l (List.mem_of_getElem? hl1)
      refine ⟨p, _, rfl, Same.sqT s1 hp, rfl, _, _, rfl, _, _, rfl, rfl, rfl, yes_ok2 ?_⟩
      refine ⟨_, rfl, pr, rfl, ⟨_, Same.sqT s1 hqr⟩, ?_⟩
      refine wk_tup (K := K) (a := pr) (xs := vs) (fun j H' => Same H H' ∧ H' D = some (.lst ((flt (ls.take i) ++ (hds l.1).take j).map V.int))) ⟨s1, by rw [List.take_zero, List.append_nil]; exact e1⟩ (fun j H' _ z => Same.sqT z.1 hqr) (fun j x H2 hx2 p2 => ?_) (fun H2 p2 => ?_)
      · obtain ⟨s2, e2⟩ := p2
        obtain ⟨r, hr1, pp, rfl, hrow⟩ := Paired.at pdr hx2
        have hj : j < l.1.length := (List.getElem?_eq_some_iff.mp hr1).1
        refine ⟨pp, _, rfl, Same.sqT s2 hrow, rfl, _, _, rfl, _, _, rfl, rfl, rfl, yes_ok ⟨_, rfl, _, e2, ?_, fun b o e => ?_, ?_⟩⟩
        · rw [List.length_map, List.length_append, List.length_take]
          have := fl i
          exact small1000 (by omega)
        · rw [upd_ne (ne_of_none e hD)]
          exact s2 _ _ e
        · have hh : (hds l.1)[j]? = some r.2 := by
            unfold hds
            rw [List.getElem?_map, hr1]
            rfl
          rw [upd_same, List.take_add_one, hh, ← List.append_assoc, List.map_append (l₂ := (some r.2).toList)]
          rfl
      · obtain ⟨s2, e2⟩ := p2
        refine ⟨s2, ?_⟩
        rw [e2, flt_snoc hl1, List.take_of_length_le (show (hds l.1).length ≤ vs.length by rw [hds_len]; omega)]
    obtain ⟨s1, e1⟩ := p1
    have fl1 := fl us.length
    rw [List.take_of_length_le (by omega)] at e1 fl1
    refine ⟨_, rfl, D, rfl, ⟨_, .inl (.inl e1)⟩, fun B hB => ?_⟩
    refine lc_list (K := K) (a := D) (xs := (flt ls).map V.int) (fun i H' => Same H1 H' ∧ H' B = some (.lst ((((flt ls).take i).map fun h => decide (h < 1)).map V.bl))) ⟨same_upd hB, upd_same⟩ (fun i H' _ z => .inl (.inl (z.1 _ _ e1))) (fun i u H2 hu p2 => ?_) (fun H2 p2 => ?_)
    · obtain ⟨s2, e2⟩ := p2
      rw [List.getElem?_map] at hu
      obtain ⟨z, hz, rfl⟩ := Option.map_eq_some_iff.mp hu
      have hi : i < (flt ls).length := (List.getElem?_eq_some_iff.mp hz).1
      refine ⟨rfl, yes_ok ⟨_, rfl, _, _, rfl, rfl, _, e2, ?_, fun b o e => ?_, ?_⟩⟩
      · rw [List.length_map, List.length_map, List.length_take]
        exact small1000 (by omega)
      · rw [upd_ne (ne_of_none e hB)]
        exact s2 _ _ e
      · rw [upd_same, List.take_add_one, hz, List.map_append, List.map_append]
        rfl
    obtain ⟨s2, e2⟩ := p2
    rw [List.length_map, List.take_length] at e2
    have s02 := s1.trans s2
    refine ⟨B, _, rfl, .inl (.inl e2), _, rfl, ite2 (fun e => ?_) (fun e => ?_)⟩
    · refine q1 ?_ _ s02
      obtain ⟨b, hb, eb⟩ := List.any_eq_true.mp e
      obtain ⟨h, hh, rfl⟩ := List.mem_map.mp hb
      exact ⟨h, hh, of_decide_eq_true eb⟩
    · have all : ∀ h ∈ flt ls, 1 ≤ h := fun h hh => by
        have : ¬ h < 1 := fun z => e (List.any_eq_true.mpr ⟨_, List.mem_map.mpr ⟨h, hh, rfl⟩, decide_eq_true z⟩)
        omega
      have e12 := s2 _ _ e1
      refine ⟨_, rfl, _, rfl, pm, rfl, ⟨_, Same.sqT s02 hm⟩, fun G hG => ?_⟩
      refine lcmap_tup ((ms.map (·.2.2)).map V.int) (by simp [hlm]) (by omega) (Same.sqT s02 hm) hG (fun i x y H3 R Z hx hy s3 hR => ?_) (fun H3 s3 hL => ?_)
      · obtain ⟨m, hm1, pw, rfl, hrow⟩ := Paired.at pm' hx
        have ey : y = .int m.2.2 := by
          rw [List.map_map, List.getElem?_map, hm1] at hy
          exact (Option.some.inj hy).symm
        subst ey
        exact ⟨pw, _, rfl, Same.sqT (s02.trans s3) hrow, rfl, _, _, rfl, _, _, rfl, _, _, rfl, rfl, rfl, yes_ok ⟨_, rfl, hR _ (Same.refl _)⟩⟩
      · refine ⟨D, G, _, _, rfl, rfl, s3 _ _ e12, hL, ?_, fun p5 np5 => ?_⟩
        · rw [List.length_map, List.length_map, List.length_map]
          exact Nat.le_of_lt (small1000 (by omega))
        have s5 := same_upd (o := .lst ((flt ls).map V.int ++ (ms.map (·.2.2)).map V.int)) np5
        refine ⟨p5, flt ls ++ ms.map (·.2.2), rfl, .inl (.inl ?_), List.length_pos_iff.mpr ne, fun M hM gM => ?_⟩
        · rw [upd_same, List.map_append]
        · have s05 := (s02.trans s3).trans s5
          obtain ⟨qa, qb⟩ := q2 all M hM gM
          exact ⟨M, 24, rfl, fun le => qa le _ s05, fun lt H' d s' nd ed => qb lt H' d (s05.trans s') (s05.free nd) ed⟩
/-- the fitting of one layer -/
theorem fit_one {c : Nat → Addr} {H Hx : Hp} {Q : VK} {E : XK} {l : LY} {hs : List Int} {v : V} {Q' : VK} {E' : XK} (hE : ∀ cls d H', E cls d H' → E' cls d H') (sx : Same H Hx) (hv : LyAt K Hx v (wh l.1 hs, none)) (r8 : l.1.length ≤ 8) (hlen : hs.length = l.1.length) (ne : hs ≠ [])
    (q : ∀ o H', IsTo none hs o → Same H H' → TmEnd K c l H Q E H' o) (fin : ∀ H', Same Hx H' → ∀ u, Q v H' → Q' u H') : ∀ pl pm : Addr, ∀ H2, Same Hx H2 → H2 pl = some (.tup [v]) → H2 pm = some (.tup []) → sp_need_fitting K c [.ref pl, .ref pm] H2 Q' E' := fun pl pm H2 s2 e1 e2 => by
  have ef : flt [(wh l.1 hs, (none : Option Int))] = hs := by
    show hds (wh l.1 hs) ++ [] = hs
    rw [List.append_nil, hds_wh hlen]
  have s02 := sx.trans s2
  refine ⟨pl, pm, [v], [], [(wh l.1 hs, none)], [], rfl, .inl (.inl e1), .cons (hv.keep (Same.tk s2)) .nil, .inl (.inl e2), .nil, (by show 1 ≤ 4; decide), fun z hz => ?_, Nat.zero_le _, ?_, fun hx H' s' => ?_, fun all M hM gM => ?_⟩
  · rw [List.mem_singleton.mp hz]
    show (wh l.1 hs).length ≤ 8
    rw [wh_len hlen]
    exact r8
  · rw [ef, List.map_nil, List.append_nil]
    exact ne
  · rw [ef] at hx
    exact hE _ _ _ (q .sq H' (.inr (.inl ⟨rfl, .inr hx, rfl⟩)) (s02.trans s'))
  · rw [ef] at all
    rw [ef, List.map_nil, List.append_nil] at hM gM
    refine ⟨fun le H' s' => ?_, fun lt H' d s' nd ed => ?_⟩
    · exact fin H' (s2.trans s') _ (q (.ok hs) H' (.inr (.inr ⟨rfl, ne, all, M, hM, gM, .inr ⟨le, rfl⟩⟩)) (s02.trans s') v (hv.keep (Same.tk (s2.trans s'))))
    · exact hE _ _ _ (q (.mn M) H' (.inr (.inr ⟨rfl, ne, all, M, hM, gM, .inl ⟨lt, rfl⟩⟩)) (s02.trans s') d (s02.free nd) ed)
def sp_evened (K : PySem.W.Frag) (c : Nat → Addr) : Sp := fun vs H Q E => ∃ (v : V) (l : LY) (m : Int), vs = [v, .int m] ∧ LyAt K H v l ∧ VLy l ∧ 1 ≤ m ∧ m ≤ 200 ∧ ∀ o H', IsTo l.2 (evs l.1.length m) o → Same H H' → TmEnd K c l H Q E H' o
theorem ok_evened {f : Addr} {fd : FuncData} {c : Nat → Addr} {LE : Addr} (F : Fun K "evened" "evened" s_evened f fd) (T : Txt K mg) (TX : ExcN K mg c LE) (D_need_layer : Cl P w K mg base 6 "need_layer" ["thing"] (sp_need_layer K)) (D_need_time : ClX P w K mg base 4 "need_time" ["length", "many"] (sp_need_time K c)) (D_length_of : Cl P w K mg base 2 "length_of" ["layer"] (sp_length_of K)) (D_layer_with : Cl P w K mg base 1 "layer_with" ["layer", "holds"] (sp_layer_with K)) (D_even_holds : Cl P w K mg base 1 "even_holds" ["parts", "many"] (sp_even_holds K)) (D_need_fitting : ClX P w K mg base 4 "need_fitting" ["layers", "moves"] (sp_need_fitting K c)) : FnOk P w K mg base (L2.CX P w) 7 f fd ["layer", "many"] (sp_evened K c) := by
  refine F.okX sc_evened (fun vs H Q E h => ?_) (fun cdv A outer s H vs Q E hr h => ?_)
  · obtain ⟨v, l, m, rfl, _⟩ := h
    rfl
  · obtain ⟨v, ⟨rs, bk⟩, m, rfl, hly, vl, m1, m2, q⟩ := h
    have r8 := vl.1.1
    have tb := tot_nonneg vl.1.2
    dsimp only at q r8 tb
    refine ⟨_, (pss_cons (ps_expr (pe_own D_need_layer (hr.mono (by omega)) (by rfl) (pa_cons (pv 0) pa_nil)))
      (pss_cons (ps_expr (pe_ownX D_need_time (hr.mono (by omega)) (takes_of rfl rfl rfl rfl) (by rfl) (pa_cons (pe_own D_length_of (hr.mono (by omega)) (by rfl) (pa_cons (pv 0) pa_nil)) (pa_cons (pv 1) pa_nil))))
      (pss_cons (ps_set (i := 2) sc_evened.nd rfl (Or.inl rfl) (pe_own D_layer_with (hr.mono (by omega)) (by rfl) (pa_cons (pv 0) (pa_cons (pe_own D_even_holds (hr.mono (by omega)) (by rfl) (pa_cons (pe_callB call_len_seq (by rfl) T.b_len (by decide +kernel) (pa_cons (pe_ix ix_tup (pv 0) pe_int (fun _ _ => rfl)) pa_nil)) (pa_cons (pv 1) pa_nil))) pa_nil))))
      (pss_cons (ps_expr (pe_ownX D_need_fitting (hr.mono (by omega)) (takes_of rfl rfl rfl rfl) (by rfl) (pa_cons (pe_tup (pa_cons (pv 2) pa_nil)) (pa_cons (pe_tup pa_nil) pa_nil))))
      (pss_one (ps_ret (pv 2))))))), ?_⟩
    refine ⟨_, rfl, v, rs, bk, rfl, hly, vl.1, vl.2, fun H1 s1 => ?_⟩
    refine ⟨_, rfl, v, (rs, bk), rfl, hly.keep (Same.tk s1), vl, fun H2 s2 => ?_⟩
    have s12 := s1.trans s2
    refine ⟨_, rfl, lenL (rs, bk), m, rfl, m1, m2, fun i ei ni => ?_, fun en => ?_, fun e0 => ?_⟩
    · cases bk with
      | some b => cases ei
      | none =>
      have et : tot rs = i := Option.some.inj ei
      have hne : rs ≠ [] := fun z => by
        rw [z] at et
        exact ni et.symm
      have hly2 := hly.keep (Same.tk s12)
      obtain ⟨p, rv, rfl, hp, pr, us, rfl, hq, pd⟩ := id hly2
      have hl := Paired.length pd
      refine ⟨_, rfl, _, rfl, p, _, 0, _, rfl, rfl, hp, rfl, pr, us, rfl, .inr hq, _, rfl, rs.length, m, ?_, r8, fun H3 D s3 nD eD => ?_⟩
      · rw [hl]
        rfl
      refine ⟨.ref p, (rs, none), D, evs rs.length m, rfl, hly2.keep (Same.tk s3), r8, .inl (.inl eD), evs_len _ _, fun H4 v' s4 hv' => ?_⟩
      refine ⟨_, rfl, (by show 1 ≤ sizeLine; decide), fun p5 np5 => ⟨Nat.zero_le _, fun p6 np6 => ?_⟩⟩
      have s5 := same_upd (o := .tup [v']) np5
      have s6 := same_upd (o := .tup []) np6
      dsimp only [tNil]
      refine fit_one (l := (rs, none)) (hs := evs rs.length m) (v := v') (fun _ _ _ h => h) ((s12.trans s3).trans s4) hv' r8 (evs_len _ _) ?ne q (fun H' s' u hQ => ?fin) p5 p6 _ (s5.trans s6) (s6 _ _ upd_same) upd_same
      case fin => exact ⟨_, rfl, hQ⟩
      intro z
      have := evs_len rs.length m
      rw [z] at this
      exact hne (List.length_eq_zero_iff.mp this.symm)
    · cases bk with
      | some b => exact q .en _ (.inl ⟨by simp, rfl⟩) s12
      | none => cases en
    · cases bk with
      | some b => cases e0
      | none =>
      have et : tot rs = 0 := Option.some.inj e0
      have hn : rs.length = 0 := by omega
      refine q .sq _ (.inr (.inl ⟨rfl, .inl ?_, rfl⟩)) s12
      rw [hn]
      rfl
def sp_retimed (K : PySem.W.Frag) (c : Nat → Addr) : Sp := fun vs H Q E => ∃ (v : V) (l : LY) (m : Int), vs = [v, .int m] ∧ LyAt K H v l ∧ VLy l ∧ 1 ≤ m ∧ m ≤ 200 ∧ ∀ o H', IsTo l.2 (scl (hds l.1) (tot l.1) m) o → Same H H' → TmEnd K c l H Q E H' o
theorem ok_retimed {f : Addr} {fd : FuncData} {c : Nat → Addr} {LE : Addr} (F : Fun K "retimed" "retimed" s_retimed f fd) (T : Txt K mg) (TX : ExcN K mg c LE) (D_need_layer : Cl P w K mg base 6 "need_layer" ["thing"] (sp_need_layer K)) (D_length_of : Cl P w K mg base 2 "length_of" ["layer"] (sp_length_of K)) (D_need_time : ClX P w K mg base 4 "need_time" ["length", "many"] (sp_need_time K c)) (D_scaled_layer : Cl P w K mg base 2 "scaled_layer" ["layer", "length", "many"] (sp_scaled_layer K)) (D_need_fitting : ClX P w K mg base 4 "need_fitting" ["layers", "moves"] (sp_need_fitting K c)) : FnOk P w K mg base (L2.CX P w) 7 f fd ["layer", "many"] (sp_retimed K c) := by
  refine F.okX sc_retimed (fun vs H Q E h => ?_) (fun cdv A outer s H vs Q E hr h => ?_)
  · obtain ⟨v, l, m, rfl, _⟩ := h
    rfl
  · obtain ⟨v, ⟨rs, bk⟩, m, rfl, hly, vl, m1, m2, q⟩ := h
    have r8 := vl.1.1
    have tb := tot_nonneg vl.1.2
    dsimp only at q r8 tb
    refine ⟨_, (pss_cons (ps_expr (pe_own D_need_layer (hr.mono (by omega)) (by rfl) (pa_cons (pv 0) pa_nil)))
      (pss_cons (ps_set (i := 2) sc_retimed.nd rfl (Or.inl rfl) (pe_own D_length_of (hr.mono (by omega)) (by rfl) (pa_cons (pv 0) pa_nil)))
      (pss_cons (ps_expr (pe_ownX D_need_time (hr.mono (by omega)) (takes_of rfl rfl rfl rfl) (by rfl) (pa_cons (pv 2) (pa_cons (pv 1) pa_nil))))
      (pss_cons (ps_set (i := 3) sc_retimed.nd rfl (Or.inl rfl) (pe_own D_scaled_layer (hr.mono (by omega)) (by rfl) (pa_cons (pv 0) (pa_cons (pv 2) (pa_cons (pv 1) pa_nil)))))
      (pss_cons (ps_expr (pe_ownX D_need_fitting (hr.mono (by omega)) (takes_of rfl rfl rfl rfl) (by rfl) (pa_cons (pe_tup (pa_cons (pv 3) pa_nil)) (pa_cons (pe_tup pa_nil) pa_nil))))
      (pss_one (ps_ret (pv 3)))))))), ?_⟩
    refine ⟨_, rfl, v, rs, bk, rfl, hly, vl.1, vl.2, fun H1 s1 => ?_⟩
    refine ⟨_, rfl, v, (rs, bk), rfl, hly.keep (Same.tk s1), vl, fun H2 s2 => ?_⟩
    have s12 := s1.trans s2
    refine ⟨_, rfl, _, rfl, lenL (rs, bk), m, rfl, m1, m2, fun i ei ni => ?_, fun en => ?_, fun e0 => ?_⟩
    · cases bk with
      | some b => cases ei
      | none =>
      have et : tot rs = i := Option.some.inj ei
      have hne : rs ≠ [] := fun z => by
        rw [z] at et
        exact ni et.symm
      have hlen : (scl (hds rs) (tot rs) m).length = rs.length := by rw [scl_len, hds_len]
      refine ⟨_, rfl, _, rfl, _, rfl, v, (rs, none), tot rs, m, rfl, hly.keep (Same.tk s12), r8, by omega, by omega, m1, m2, fun H4 v' s4 hv' => ?_⟩
      refine ⟨_, rfl, (by show 1 ≤ sizeLine; decide), fun p5 np5 => ⟨Nat.zero_le _, fun p6 np6 => ?_⟩⟩
      have s5 := same_upd (o := .tup [v']) np5
      have s6 := same_upd (o := .tup []) np6
      dsimp only [tNil]
      refine fit_one (l := (rs, none)) (hs := scl (hds rs) (tot rs) m) (v := v') (fun _ _ _ h => h) (s12.trans s4) hv' r8 hlen ?ne q (fun H' s' u hQ => ?fin) p5 p6 _ (s5.trans s6) (s6 _ _ upd_same) upd_same
      case fin => exact ⟨_, rfl, hQ⟩
      intro z
      rw [z] at hlen
      exact hne (List.length_eq_zero_iff.mp hlen.symm)
    · cases bk with
      | some b => exact q .en _ (.inl ⟨by simp, rfl⟩) s12
      | none => cases en
    · cases bk with
      | some b => cases e0
      | none =>
      have et : tot rs = 0 := Option.some.inj e0
      have hn : rs = [] := List.length_eq_zero_iff.mp (by omega)
      refine q .sq _ (.inr (.inl ⟨rfl, .inl ?_, rfl⟩)) s12
      rw [hn]
      rfl
end

theorem flt_lsc (ls : List LY) (L m : Int) : flt (ls.map (lsc L m)) = hsc ls L m := by
  unfold flt hsc
  rw [List.map_map]
  congr 1
  apply List.map_congr_left
  intro l _
  show hds (wh l.1 (scl (hds l.1) L m)) = _
  rw [hds_wh (by rw [scl_len, hds_len])]
def SoEnd (K : PySem.W.Frag) (c : Nat → Addr) (ls : List LY) (x y : Int) (ms : List MV) (m : Int) (H : Hp) (Q : VK) (E : XK) (H' : Hp) : SO → Prop
  | .en => E (.ref (c 8)) none H'
  | .sq => E (.ref (c 9)) none H'
  | .mn M => ∀ d, H d = none → H' d = some (.xd [("most", .int 24), ("many", .int M)]) → E (.ref (c 14)) (some d) H'
  | .ok L => ∀ v, ShAt K H' v (ls.map (lsc L m)) x y (wm ms (scl (mds ms) L m)) → Q v H'
section
variable {P : Program} {w : World} {K : PySem.W.Frag} {mg : Str → Option Value} {base : Heap}
def sp_scaled_window (K : PySem.W.Frag) : Sp := fun vs H Q _ => ∃ (v : V) (x y : Int) (ms : List MV) (L m : Int), vs = [v, .int L, .int m] ∧ WinAt K H v x y ms ∧ ms.length ≤ 8 ∧ 0 < L ∧ L ≤ 1000 ∧ 1 ≤ m ∧ m ≤ 200 ∧ ∀ H' v', Same H H' → WinAt K H' v' x y (wm ms (scl (mds ms) L m)) → Q v' H'
theorem ok_scaled_window {f : Addr} {fd : FuncData} (F : Fun K "scaled_window" "scaled_window" s_scaled_window f fd) (T : Txt K mg) (D_scaled : Cl P w K mg base 1 "scaled" ["numbers", "length", "many"] (sp_scaled K)) : FnOk P w K mg base CX0 2 f fd ["window", "length", "many"] (sp_scaled_window K) := by
  refine F.ok sc_scaled_window (fun vs H Q E h => ?_) (fun cdv A outer s H vs Q E hr h => ?_)
  · obtain ⟨v, x, y, ms, L, m, rfl, _⟩ := h
    rfl
  · obtain ⟨v, x, y, ms, L, m, rfl, ⟨p, mv, rfl, hp, pm, us, rfl, hq, pd⟩, m8, L0, L1, m1, m2, q⟩ := h
    have hl := Paired.length pd
    refine ⟨_, (pss_cons (ps_asg (pv 0) (pg_tup (by rfl) (pgs_cons (pg_name (i := 3) sc_scaled_window.nd rfl (Or.inl rfl)) (pgs_cons (pg_name (i := 4) sc_scaled_window.nd rfl (Or.inl rfl)) (pgs_cons (pg_name (i := 5) sc_scaled_window.nd rfl (Or.inl rfl)) pgs_nil)))))
      (C8.pss_cut (ps_set (i := 6) sc_scaled_window.nd rfl (Or.inl rfl) (pe_own D_scaled (hr.mono (by omega)) (by rfl) (pa_cons (pe_lc (own := [("goal_x", 8), ("goal_y", 9), ("pictures", 10)]) (g := (gTup _ 3 (gCons (gName 8) (gCons (gName 9) (gCons (gName 10) gNil))))) (tt := tYes) (by rfl) sc_scaled_window.nd (pi_tup (pv 5)) (blkOk_by (own := [("goal_x", 8), ("goal_y", 9), ("pictures", 10)]) (N := ["window", "length", "many", "x", "y", "moves", "numbers", "new", "goal_x", "goal_y", "pictures", "number"]) (sc := defScope s_scaled_window) (by decide +kernel)) (fun _ _ _ _ _ => (pg_tup (by rfl) (pgs_cons (pg_name (i := 8) sc_scaled_window.nd rfl (Or.inl rfl)) (pgs_cons (pg_name (i := 9) sc_scaled_window.nd rfl (Or.inl rfl)) (pgs_cons (pg_name (i := 10) sc_scaled_window.nd rfl (Or.inl rfl)) pgs_nil))))) (fun _ _ _ _ _ => pts_nil) (fun _ _ _ _ _ => (pv 10))) (pa_cons (pv 1) (pa_cons (pv 2) pa_nil)))))
      (pss_cons (ps_setLc (i := 7) (own := [("number", 11), ("goal_x", 8), ("goal_y", 9), ("pictures", 10)]) (g := (gTup _ 2 (gCons (gTup _ 3 (gCons (gName 8) (gCons (gName 9) (gCons (gName 10) gNil)))) (gCons (gName 11) gNil)))) (tt := tYes) (by rfl) sc_scaled_window.nd rfl rfl (sw_true rfl rfl rfl (by decide +kernel)) (pi_zipM (by rfl) T.b_zip (pa_cons (pv 5) (pa_cons (pv 6) pa_nil))) (blkOk_by (own := [("number", 11), ("goal_x", 8), ("goal_y", 9), ("pictures", 10)]) (N := ["window", "length", "many", "x", "y", "moves", "numbers", "new", "goal_x", "goal_y", "pictures", "number"]) (sc := defScope s_scaled_window) (by decide +kernel)) (fun _ _ _ _ _ => (pg_tup (by rfl) (pgs_cons (pg_tup (by rfl) (pgs_cons (pg_name (i := 8) sc_scaled_window.nd rfl (Or.inl rfl)) (pgs_cons (pg_name (i := 9) sc_scaled_window.nd rfl (Or.inl rfl)) (pgs_cons (pg_name (i := 10) sc_scaled_window.nd rfl (Or.inl rfl)) pgs_nil)))) (pgs_cons (pg_name (i := 11) sc_scaled_window.nd rfl (Or.inl rfl)) pgs_nil)))) (fun _ _ _ _ _ => pts_nil) (fun _ _ _ _ _ => (pe_tup (pa_cons (pv 8) (pa_cons (pv 9) (pa_cons (pv 11) pa_nil))))))
      (pss_one (ps_ret (pe_tup (pa_cons (pv 3) (pa_cons (pv 4) (pa_cons (pe_callTy call_tuple_of (by rfl) T.b_tuple (by decide +kernel) (pa_cons (pv 7) pa_nil)) pa_nil))))))))), ?_⟩
    refine ⟨_, rfl, p, _, rfl, hp, rfl, _, _, rfl, _, _, rfl, _, _, rfl, rfl, ?_⟩
    refine ⟨fun σ' H' => ∃ S, Same H H' ∧ H' S = some (.lst ((scl (mds ms) L m).map V.int)) ∧ σ' = [some (.ref p), some (.int L), some (.int m), some (.int x), some (.int y), some (.ref pm), some (.ref S), none, none, none, none, none], ?_, ?_⟩
    · refine ⟨_, rfl, pm, rfl, ⟨_, hq⟩, fun D hD => ?_⟩
      refine lcmap_tup ((mds ms).map V.int) (by simp [mds_len, hl]) (by omega) hq hD (fun i x y H2 R Z hx hy s2 hR => ?_) (fun H2 s2 hL => ?_)
      · obtain ⟨r, hr1, pp, rfl, hrow⟩ := Paired.at pd hx
        have ey : y = .int r.2.2 := by
          unfold mds at hy
          rw [List.map_map, List.getElem?_map, hr1] at hy
          exact (Option.some.inj hy).symm
        subst ey
        exact ⟨pp, _, rfl, Same.sqT s2 hrow, rfl, _, _, rfl, _, _, rfl, _, _, rfl, rfl, rfl, yes_ok ⟨_, rfl, hR _ (Same.refl _)⟩⟩
      exact ⟨_, rfl, _, rfl, D, mds ms, L, m, rfl, .inl (.inl hL), by rw [mds_len]; exact m8, L0, L1, m1, m2, fun H3 S s3 nS eS => ⟨S, s2.trans s3, eS, rfl⟩⟩
    rintro σ H3 ⟨S, s03, eS, rfl⟩
    have hq3 := Same.sqT s03 hq
    have lk : (scl (mds ms) L m).length = ms.length := by rw [scl_len, mds_len]
    have lus : us.length = ((scl (mds ms) L m).map V.int).length := by rw [List.length_map, lk]; exact hl
    refine ⟨_, rfl, _, rfl, pm, S, us, _, rfl, hq3, .inl (.inl eS), fun G hG => ?_⟩
    refine lc_pairs (J := ItzM K pm S) (xs := us) (ys := (scl (mds ms) L m).map V.int) (fun i H' => Same H3 H' ∧ ∃ ws, H' G = some (.lst ws) ∧ ws.length = i ∧ Paired (MoveAt K H') ws ((wm ms (scl (mds ms) L m)).take i))
      ⟨same_upd hG, [], upd_same, rfl, .nil⟩ (fun i H' z hi => zipM_go lus (Same.sqT z.1 hq3) (.inl (.inl (z.1 _ _ eS))) hi) (fun H' z => zipM_stop lus (Same.sqT z.1 hq3) (.inl (.inl (z.1 _ _ eS)))) (fun i H' v H2 z y => zipM_yld (Same.sqT z.1 hq3) (.inl (.inl (z.1 _ _ eS))) y) (fun i x y T H4 hx hy z nT => ?_) (fun H4 z => ?_)
    · obtain ⟨s4, ws, eG, lw, pw⟩ := z
      rw [List.getElem?_map] at hy
      obtain ⟨k, hk, rfl⟩ := Option.map_eq_some_iff.mp hy
      obtain ⟨r, hr1, pp, rfl, hrow⟩ := Paired.at pd hx
      have hi : i < ms.length := (List.getElem?_eq_some_iff.mp hr1).1
      have s5 := same_upd (o := .tup [.ref pp, .int k]) nT
      have s05 := (s03.trans s4).trans s5
      refine ⟨T, _, rfl, .inl (.inl upd_same), rfl, _, _, rfl, pp, _, rfl, Same.sqT s05 hrow, rfl, _, _, rfl, _, _, rfl, _, _, rfl, rfl, _, _, rfl, rfl, ?_, ?_⟩
      · exact (wipe_set _ (by decide)).trans ((wipe_set _ (by decide)).trans ((wipe_set _ (by decide)).trans ((wipe_set _ (by decide)).trans wipe_wipe)))
      refine yes_ok ?_
      refine ⟨_, rfl, ?_⟩
      refine ⟨_, rfl, ?_⟩
      refine ⟨_, rfl, (by show 3 ≤ sizeLine; decide), fun p6 np6 => ?_⟩
      have s6 := same_upd (o := .tup [.int r.1, .int r.2.1, .int k]) np6
      have eG6 := s6 _ _ (s5 _ _ eG)
      refine ⟨ws, eG6, small1000 (by omega), fun b o e => ?_, ws ++ [.ref p6], upd_same, by rw [List.length_append, lw]; rfl, ?_⟩
      · rw [upd_ne (ne_of_none e hG)]
        exact s6 _ _ (s5 _ _ (s4 _ _ e))
      · rw [List.take_add_one, wm_at hr1 hk]
        exact Paired.snocP (Paired.mono pw fun _ _ => MoveAt.keep fun a zs h => tk_updL eG6 _ _ (Same.sqT (s5.trans s6) h)) ⟨p6, rfl, tk_updL eG6 _ _ (.inl (.inl upd_same))⟩
    obtain ⟨s4, ws, eG, lw, pw⟩ := z
    rw [List.take_of_length_le (by rw [wm_len lk]; omega)] at pw
    refine ⟨_, rfl, _, rfl, _, rfl, G, ws, rfl, .inl ⟨.inl (.inl eG), fun T nT => ⟨(by show 3 ≤ sizeLine; decide), fun p7 np7 => ?_⟩⟩⟩
    have s6 := same_upd (o := .tup ws) nT
    have s7 := same_upd (o := .tup [.int x, .int y, .ref T]) np7
    exact q _ _ ((s03.trans s4).trans (s6.trans s7)) ⟨p7, _, rfl, .inl (.inl upd_same), T, ws, rfl, .inl (.inl (s7 _ _ upd_same)), Paired.mono pw fun _ _ => MoveAt.keep (Same.tk (s6.trans s7))⟩
def sp_sheet_retimed (K : PySem.W.Frag) (c : Nat → Addr) : Sp := fun vs H Q E => ∃ (v : V) (ls : List LY) (x y : Int) (ms : List MV) (m : Int), vs = [v, .int m] ∧ ShAt K H v ls x y ms ∧ VLays ls ∧ VWin x y ms ∧ 1 ≤ m ∧ m ≤ 200 ∧ ∀ o H', IsSo ls ms m o → Same H H' → SoEnd K c ls x y ms m H Q E H' o
theorem ok_sheet_retimed {f : Addr} {fd : FuncData} {c : Nat → Addr} {LE : Addr} (F : Fun K "sheet_retimed" "sheet_retimed" s_sheet_retimed f fd) (T : Txt K mg) (TX : ExcN K mg c LE) (D_need_sheet : Cl P w K mg base 7 "need_sheet" ["thing"] (sp_need_sheet K)) (D_full_length : Cl P w K mg base 3 "full_length" ["sheet"] (sp_full_length K)) (D_need_time : ClX P w K mg base 4 "need_time" ["length", "many"] (sp_need_time K c)) (D_scaled_layer : Cl P w K mg base 2 "scaled_layer" ["layer", "length", "many"] (sp_scaled_layer K)) (D_scaled_window : Cl P w K mg base 2 "scaled_window" ["window", "length", "many"] (sp_scaled_window K)) (D_need_fitting : ClX P w K mg base 4 "need_fitting" ["layers", "moves"] (sp_need_fitting K c)) : FnOk P w K mg base (L2.CX P w) 8 f fd ["sheet", "many"] (sp_sheet_retimed K c) := by
  refine F.okX sc_sheet_retimed (fun vs H Q E h => ?_) (fun cdv A outer s H vs Q E hr h => ?_)
  · obtain ⟨v, ls, x, y, ms, m, rfl, _⟩ := h
    rfl
  · obtain ⟨v, ls, x, y, ms, m, rfl, hsh, vL, vw, m1, m2, q⟩ := h
    refine ⟨_, (pss_cons (ps_expr (pe_own D_need_sheet (hr.mono (by omega)) (by rfl) (pa_cons (pv 0) pa_nil)))
      (pss_cons (ps_set (i := 2) sc_sheet_retimed.nd rfl (Or.inr rfl) (pe_own D_full_length (hr.mono (by omega)) (by rfl) (pa_cons (pv 0) pa_nil)))
      (pss_cons (ps_expr (pe_ownX D_need_time (hr.mono (by omega)) (takes_of rfl rfl rfl rfl) (by rfl) (pa_cons (pv 2) (pa_cons (pv 1) pa_nil))))
      (pss_cons (ps_set (i := 3) sc_sheet_retimed.nd rfl (Or.inl rfl) (pe_callTy call_tuple_of (by rfl) T.b_tuple (by decide +kernel) (pa_cons (pe_lc (own := [("layer", 5)]) (g := (gName 5)) (tt := tYes) (by rfl) sc_sheet_retimed.nd (pi_tup (pe_ix ix_tup (pv 0) pe_int (fun _ _ => rfl))) (blkOk_by (own := [("layer", 5)]) (N := ["sheet", "many", "length", "layers", "window", "layer"]) (sc := defScope s_sheet_retimed) (by decide +kernel)) (fun _ _ _ _ _ => (pg_name (i := 5) sc_sheet_retimed.nd rfl (Or.inl rfl))) (fun _ _ _ _ _ => pts_nil) (fun _ _ _ _ _ => (pe_own D_scaled_layer (hr.mono (by omega)) (by rfl) (pa_cons (pv 5) (pa_cons (pv 2) (pa_cons (pv 1) pa_nil)))))) pa_nil)))
      (pss_cons (ps_set (i := 4) sc_sheet_retimed.nd rfl (Or.inl rfl) (pe_own D_scaled_window (hr.mono (by omega)) (by rfl) (pa_cons (pe_ix ix_tup (pv 0) pe_int (fun _ _ => rfl)) (pa_cons (pv 2) (pa_cons (pv 1) pa_nil)))))
      (pss_cons (ps_expr (pe_ownX D_need_fitting (hr.mono (by omega)) (takes_of rfl rfl rfl rfl) (by rfl) (pa_cons (pv 3) (pa_cons (pe_ix ix_tup (pv 4) pe_int (fun _ _ => rfl)) pa_nil))))
      (pss_one (ps_ret (pe_tup (pa_cons (pv 3) (pa_cons (pv 4) pa_nil))))))))))), ?_⟩
    refine ⟨_, rfl, v, ls, x, y, ms, rfl, hsh, vL, vw, fun H1 s1 => ?_⟩
    refine ⟨_, rfl, v, ls, x, y, ms, rfl, hsh.keep (Same.tk s1), vL, vw, fun H2 r s2 hr' => ?_⟩
    have s12 := s1.trans s2
    refine ⟨_, rfl, _, rfl, r, m, rfl, m1, m2, fun L eL nL => ?_, fun en => q .en _ ⟨r, hr', .inl ⟨en, rfl⟩⟩ s12, fun e0 => q .sq _ ⟨r, hr', .inr (.inl ⟨e0, rfl⟩)⟩ s12⟩
    subst eL
    obtain ⟨L0, L1, hls, hms⟩ := shLen_bd vL vw hr'
    obtain ⟨p, lv, wv, rfl, hp, ⟨pl, us, rfl, hq, pd⟩, hw⟩ := hsh.keep (Same.tk s12)
    have hl := Paired.length pd
    have l4 := vL.2.1
    have l1 := vL.1
    have w8 := vw.2.2.1
    refine ⟨_, rfl, p, _, 0, _, rfl, rfl, hp, rfl, pl, rfl, ⟨_, hq⟩, fun D hD => ?_⟩
    refine lc_tup (K := K) (a := pl) (xs := us) (fun i H' => Same H2 H' ∧ ∃ ws, H' D = some (.lst ws) ∧ ws.length = i ∧ Paired (LyAt K H') ws ((ls.map (lsc L m)).take i)) ⟨same_upd hD, [], upd_same, rfl, .nil⟩ (fun i H' _ z => Same.sqT z.1 hq) (fun i u H3 hu p3 => ?_) (fun H3 p3 => ?_)
    · obtain ⟨s3, ws, eD, lw, pw⟩ := p3
      obtain ⟨l, hl1, hly⟩ := Paired.at pd hu
      have hi : i < ls.length := (List.getElem?_eq_some_iff.mp hl1).1
      have vl := vL.2.2 l (List.mem_of_getElem? hl1)
      refine ⟨rfl, yes_ok ⟨_, rfl, _, rfl, _, rfl, u, l, L, m, rfl, hly.keep (Same.tk s3), vl.1.1, by omega, by omega, m1, m2, fun H4 v4 s4 h4 => ?_⟩⟩
      have eD4 := s4 _ _ eD
      refine ⟨ws, eD4, small1000 (by omega), fun b o e => ?_, ws ++ [v4], upd_same, by rw [List.length_append, lw]; rfl, ?_⟩
      · rw [upd_ne (ne_of_none e hD)]
        exact s4 _ _ (s3 _ _ e)
      · rw [List.take_add_one, List.getElem?_map, hl1]
        exact Paired.snocP (Paired.mono pw fun _ _ => LyAt.keep fun a zs h => tk_updL eD4 _ _ (Same.sqT s4 h)) (LyAt.keep (l := lsc L m l) (fun a zs h => tk_updL eD4 _ _ h) h4)
    obtain ⟨s3, ws, eD, lw, pw⟩ := p3
    rw [List.take_of_length_le (by rw [List.length_map]; omega)] at pw
    refine ⟨D, ws, rfl, .inl ⟨.inl (.inl eD), fun T nT => ?_⟩⟩
    obtain ⟨s4, e4⟩ := new_at (.tup ws) nT
    generalize upd H3 T (.tup ws) = H4 at s4 e4 ⊢
    have s24 := s3.trans s4
    refine ⟨_, rfl, p, _, 1, _, rfl, rfl, Same.sqT s24 hp, rfl, _, rfl, _, rfl, wv, x, y, ms, L, m, rfl, hw.keep (Same.tk s24), w8, by omega, by omega, m1, m2, fun H5 w5 s5 h5 => ?_⟩
    obtain ⟨pw', mv', rfl, hpw', pm', vs', rfl, hqm, pdm⟩ := id h5
    have s45 := s4.trans s5
    have s05 := (s12.trans s24).trans s5
    have lk : (scl (mds ms) L m).length = ms.length := by rw [scl_len, mds_len]
    have hT5 : SqT K H5 T ws := .inl (.inl (s5 _ _ e4))
    have pw5 := Paired.mono pw fun _ _ => LyAt.keep (Same.tk s45)
    have ef := flt_lsc ls L m
    have em : (wm ms (scl (mds ms) L m)).map (·.2.2) = scl (mds ms) L m := mds_wm lk
    refine ⟨_, rfl, _, rfl, pw', _, 2, _, rfl, rfl, hpw', rfl, T, pm', ws, vs', ls.map (lsc L m), wm ms (scl (mds ms) L m), rfl, hT5, pw5, hqm, pdm, by rw [List.length_map]; exact l4, fun z hz => ?_, by rw [wm_len lk]; exact w8, ?_, fun hx H6 s6 => ?_, fun all M hM gM => ?_⟩
    · obtain ⟨l, hl', rfl⟩ := List.mem_map.mp hz
      show (wh l.1 _).length ≤ 8
      rw [wh_len (by rw [scl_len, hds_len])]
      exact (vL.2.2 l hl').1.1
    · rw [ef, em]
      intro z
      have z' := List.append_eq_nil_iff.mp z
      have zm : ms = [] := List.length_eq_zero_iff.mp (by rw [← lk, z'.2]; rfl)
      have zl : ∀ l ∈ ls, tot l.1 = 0 := fun l hl' => by
        have : scl (hds l.1) L m = [] := by
          have h1 := List.flatten_eq_nil_iff.mp z'.1
          exact h1 _ (List.mem_map.mpr ⟨l, hl', rfl⟩)
        have h2 : l.1 = [] := List.length_eq_zero_iff.mp (by rw [← hds_len, ← scl_len (hds l.1) L m, this]; rfl)
        rw [h2]
        rfl
      rcases hr' with ⟨_, e⟩ | ⟨_, M, e, hM, _⟩
      · cases e
      · cases e
        rcases List.mem_append.mp hM with h | h
        · obtain ⟨l, hl', e⟩ := List.mem_map.mp h
          rw [zl l hl'] at e
          exact nL e.symm
        · rw [List.mem_singleton.mp h, zm] at nL
          exact nL rfl
    · rw [ef] at hx
      exact q .sq _ ⟨_, hr', .inr (.inr ⟨L, rfl, nL, .inl ⟨hx, rfl⟩⟩)⟩ (s05.trans s6)
    · rw [ef] at all
      rw [ef, em] at hM gM
      refine ⟨fun le H6 s6 => ?_, fun lt H6 d s6 nd ed => ?_⟩
      · refine ⟨_, rfl, _, rfl, (by show 2 ≤ sizeLine; decide), fun p7 np7 => ?_⟩
        have s7 := same_upd (o := .tup [.ref T, .ref pw']) np7
        have k := Same.tk (K := K) (s6.trans s7)
        exact q (.ok L) _ ⟨_, hr', .inr (.inr ⟨L, rfl, nL, .inr ⟨all, M, hM, gM, .inr ⟨le, rfl⟩⟩⟩)⟩ ((s05.trans s6).trans s7) _ ⟨p7, _, _, rfl, .inl (.inl upd_same), ⟨T, ws, rfl, k _ _ hT5, Paired.mono pw5 fun _ _ => LyAt.keep k⟩, h5.keep k⟩
      · exact q (.mn M) _ ⟨_, hr', .inr (.inr ⟨L, rfl, nL, .inr ⟨all, M, hM, gM, .inl ⟨lt, rfl⟩⟩⟩)⟩ (s05.trans s6) d (s05.free nd) ed
end

theorem list_str2 {v : V} {xs : List Str} {i : Nat} (h : (xs.map V.str)[i]? = some v) : ∃ z, xs[i]? = some z ∧ v = .str z := by
  rw [List.getElem?_map] at h
  cases e : xs[i]? with
  | none => rw [e] at h; cases h
  | some z => rw [e] at h; exact ⟨z, rfl, (Option.some.inj h).symm⟩
section
variable {P : Program} {w : World} {K : PySem.W.Frag} {mg : Str → Option Value} {base : Heap}
def sp_writes_number (K : PySem.W.Frag) : Sp := fun vs H Q _ => ∃ i : Int, vs = [.str (nT i)] ∧ Sm i ∧ Q (.bl true) H
theorem ok_writes_number {f : Addr} {fd : FuncData} (F : Fun K "writes_number" "writes_number" s_writes_number f fd) (T : Txt K mg) : FnOk P w K mg base CX0 1 f fd ["word"] (sp_writes_number K) := by
  refine F.ok sc_writes_number (fun vs H Q E h => ?_) (fun cdv A outer s H vs Q E hr h => ?_)
  · obtain ⟨i, rfl, _⟩ := h
    rfl
  · obtain ⟨i, rfl, hi, q⟩ := h
    have F := hi.f
    have l3 : (nT i).length ≤ sizeLine := Nat.le_trans F.len (by decide)
    refine ⟨_, (C8.pss_cut (ps_set (i := 1) sc_writes_number.nd rfl (Or.inl rfl) (pe_ifExp (pt_val (pe_bm PySem.F.plainAttrs_str PySem.F.slot_str_startswith PySem.F.type_str_startswith mt_startswith (pv 0) (pa_cons pe_str pa_nil))) (pe_slice sl_str (pv 0) (po_some pe_int) po_none) (pv 0)))
      (pss_cons (ps_if (PW.pt (pw_or (pt_not (pt_val (pe_bm0 PySem.F.plainAttrs_str PySem.F.slot_str_isascii PySem.F.type_str_isascii mt_isascii (pv 1)))) (pw_or (pt_not (pt_val (pe_bm0 PySem.F.plainAttrs_str PySem.F.slot_str_isdigit PySem.F.type_str_isdigit mt_isdigit (pv 1)))) (pw_or1 (pt_cmpR op_gt (pe_callB call_len_str (by rfl) T.b_len (by decide +kernel) (pa_cons (pv 1) pa_nil)) (pe_gint (by rfl) T.c_MOST_FIGURES) (nomark _)))))) (pss_one (ps_ret pe_bl)) pss_nil)
      (pss_one (ps_ret (pe_or (pe_cmpR op_eq (pv 0) pe_str (nomark _)) (pe_one (pe_cmpR op_ne (pe_ix ix_str (pv 1) pe_int (fun _ _ => rfl)) pe_str (nomark _)))))))), ?_⟩
    refine ⟨fun σ' H' => σ' = [some (.str (nT i)), some (.str (figs (nT i)))] ∧ H' = H, ?_, ?_⟩
    · refine ⟨_, rfl, rfl, _, _, rfl, rfl, _, rfl, ite2 (fun e => ?_) (fun e => ?_)⟩
      · refine ⟨_, rfl, 1, rfl, _, rfl, l3, ?_, rfl⟩
        show _ = [some (V.str (nT i)), some (V.str (if Txt.startswith (nT i) "-" = true then cutS (nT i) (some 1) none else nT i))]
        rw [if_pos e]
        rfl
      · refine ⟨_, rfl, ?_, rfl⟩
        show _ = [some (V.str (nT i)), some (V.str (if Txt.startswith (nT i) "-" = true then cutS (nT i) (some 1) none else nT i))]
        rw [if_neg e]
        rfl
    rintro σ H1 ⟨rfl, rfl⟩
    have f3 : (figs (nT i)).length ≤ sizeLine := Nat.le_trans F.flen (by decide)
    refine ⟨_, rfl, rfl, _, rfl, rfl, trivial, _, rfl, ?_⟩
    rw [F.asc]
    refine iteF ?_
    refine ⟨_, rfl, rfl, _, rfl, rfl, trivial, _, rfl, ?_⟩
    rw [F.dig]
    refine iteF ?_
    refine ⟨_, rfl, _, rfl, f3, _, _, rfl, rfl, _, rfl, ?_⟩
    rw [decide_eq_false (show ¬ ((figs (nT i)).length : Int) > 30 by have := F.flen; omega)]
    refine iteF ?_
    refine ⟨_, rfl, rfl, ?_⟩
    rcases F.last with e | ⟨c, ec, nc⟩
    · refine ⟨_, rfl, ?_⟩
      rw [decide_eq_true (show V.str (nT i) = .str "0" by rw [e])]
      exact iteT q
    · refine ⟨_, rfl, ite2 (fun _ => ?_) (fun _ => ?_)⟩
      · exact q
      · refine ⟨_, rfl, _, _, _, rfl, rfl, f3, ec, rfl, ?_⟩
        rw [decide_eq_false (show ¬ V.str ⟨#[c]⟩ = .str "0" from fun z => nc (by injection z))]
        exact q
def sp_number_in (K : PySem.W.Frag) : Sp := fun vs H Q _ => ∃ i : Int, vs = [.str (nT i)] ∧ Sm i ∧ Q (.int i) H
theorem ok_number_in {f : Addr} {fd : FuncData} (F : Fun K "number_in" "number_in" s_number_in f fd) (T : Txt K mg) (D_writes_number : Cl P w K mg base 1 "writes_number" ["word"] (sp_writes_number K)) : FnOk P w K mg base CX0 2 f fd ["word"] (sp_number_in K) := by
  refine F.ok sc_number_in (fun vs H Q E h => ?_) (fun cdv A outer s H vs Q E hr h => ?_)
  · obtain ⟨i, rfl, _⟩ := h
    rfl
  · obtain ⟨i, rfl, hi, q⟩ := h
    refine ⟨_, (pss_one (ps_ret (pe_ifExp (pt_val (pe_own D_writes_number (hr.mono (by omega)) (by rfl) (pa_cons (pv 0) pa_nil))) (pe_callTy call_int_str (by rfl) T.b_int (by decide +kernel) (pa_cons (pv 0) pa_nil)) (pv 0)))), ?_⟩
    exact ⟨_, rfl, i, rfl, hi, _, rfl, iteT ⟨_, rfl, _, i, rfl, hi.f.int, Nat.le_trans hi.f.len (by decide), q⟩⟩
def sp_numbers_in (K : PySem.W.Frag) : Sp := fun vs H Q _ => ∃ (z b : Str) (ns : List Int), vs = [.str z, .str b] ∧ Txt.split z b = ns.map nT ∧ (∀ n ∈ ns, Sm n) ∧ z.length ≤ 1000 ∧ b.length = 1 ∧ ns.length ≤ 3 ∧ ∀ H' p, Same H H' → SqT K H' p (ns.map V.int) → Q (.ref p) H'
theorem ok_numbers_in {f : Addr} {fd : FuncData} (F : Fun K "numbers_in" "numbers_in" s_numbers_in f fd) (T : Txt K mg) (D_number_in : Cl P w K mg base 2 "number_in" ["word"] (sp_number_in K)) : FnOk P w K mg base CX0 3 f fd ["word", "between"] (sp_numbers_in K) := by
  refine F.ok sc_numbers_in (fun vs H Q E h => ?_) (fun cdv A outer s H vs Q E hr h => ?_)
  · obtain ⟨z, b, ns, rfl, _⟩ := h
    rfl
  · obtain ⟨z, b, ns, rfl, hsp, hn, hz, hb, hl, q⟩ := h
    refine ⟨_, (pss_one (ps_ret (pe_callTy call_tuple_of (by rfl) T.b_tuple (by decide +kernel) (pa_cons (pe_lc (own := [("part", 2)]) (g := (gName 2)) (tt := tYes) (by rfl) sc_numbers_in.nd (pi_list (pe_bm PySem.F.plainAttrs_str PySem.F.slot_str_split PySem.F.type_str_split mt_split (pv 0) (pa_cons (pv 1) pa_nil))) (blkOk_by (own := [("part", 2)]) (N := ["word", "between", "part"]) (sc := defScope s_numbers_in) (by decide +kernel)) (fun _ _ _ _ _ => (pg_name (i := 2) sc_numbers_in.nd rfl (Or.inl rfl))) (fun _ _ _ _ _ => pts_nil) (fun _ _ _ _ _ => (pe_own D_number_in (hr.mono (by omega)) (by rfl) (pa_cons (pv 2) pa_nil)))) pa_nil)))), ?_⟩
    refine ⟨_, rfl, rfl, _, rfl, _, _, rfl, rfl, by rw [hb]; rfl, Nat.le_trans (Nat.add_le_add_right hz 2) (by decide), fun p1 np1 => ?_⟩
    rw [hsp]
    obtain ⟨s1, e1⟩ := new_at (.lst ((ns.map nT).map V.str)) np1
    generalize upd H p1 (.lst ((ns.map nT).map V.str)) = H1 at s1 e1 ⊢
    refine ⟨p1, rfl, ⟨_, .inl (.inl e1)⟩, fun D hD => ?_⟩
    refine lcmap_list (ns.map V.int) (by simp) (by rw [List.length_map, List.length_map]; omega) (.inl (.inl e1)) hD (fun i x y H2 R Z hx hy s2 hR => ?_) (fun H2 s2 hL => ?_)
    · obtain ⟨x', hx', rfl⟩ := list_str2 hx
      obtain ⟨n, hn1, rfl⟩ : ∃ n, ns[i]? = some n ∧ x' = nT n := by
        rw [List.getElem?_map] at hx'
        cases e : ns[i]? with
        | none => rw [e] at hx'; cases hx'
        | some n => rw [e] at hx'; exact ⟨n, rfl, (Option.some.inj hx').symm⟩
      rw [List.getElem?_map, hn1] at hy
      cases hy
      exact ⟨rfl, yes_ok ⟨_, rfl, n, rfl, hn n (List.mem_of_getElem? hn1), hR _ (Same.refl _)⟩⟩
    · refine ⟨D, _, rfl, .inl ⟨.inl (.inl hL), fun l nl => ?_⟩⟩
      exact q _ l ((s1.trans s2).trans (same_upd nl)) (.inl (.inl upd_same))
def sp_move_text (K : PySem.W.Frag) : Sp := fun vs H Q _ => ∃ (v : V) (m : MV), vs = [v] ∧ MoveAt K H v m ∧ VMove m ∧ ∀ H', Same H H' → Q (.str (mvT m)) H'
theorem ok_move_text {f : Addr} {fd : FuncData} (F : Fun K "move_text" "move_text" s_move_text f fd) (T : Txt K mg) : FnOk P w K mg base CX0 1 f fd ["move"] (sp_move_text K) := by
  refine F.ok sc_move_text (fun vs H Q E h => ?_) (fun cdv A outer s H vs Q E hr h => ?_)
  · obtain ⟨v, m, rfl, _⟩ := h
    rfl
  · obtain ⟨v, ⟨m1, m2, m3⟩, rfl, ⟨p, rfl, hp⟩, vm, q⟩ := h
    obtain ⟨a1, a2, a3⟩ := vm_sm vm
    refine ⟨_, (pss_one (ps_ret (pe_bm PySem.F.plainAttrs_str PySem.F.slot_str_join PySem.F.type_str_join mt_join pe_str (pa_cons (pe_lc (own := [("number", 1)]) (g := (gName 1)) (tt := tYes) (by rfl) sc_move_text.nd (pi_tup (pv 0)) (blkOk_by (own := [("number", 1)]) (N := ["move", "number"]) (sc := defScope s_move_text) (by decide +kernel)) (fun _ _ _ _ _ => (pg_name (i := 1) sc_move_text.nd rfl (Or.inl rfl))) (fun _ _ _ _ _ => pts_nil) (fun _ _ _ _ _ => (pe_callTy call_str_int (by rfl) T.b_str (by decide +kernel) (pa_cons (pv 1) pa_nil)))) pa_nil)))), ?_⟩
    refine ⟨rfl, _, rfl, p, rfl, ⟨_, hp⟩, fun D hD => ?_⟩
    refine lcmap_tup (xs := [.int m1, .int m2, .int m3]) ([nT m1, nT m2, nT m3].map V.str) rfl (by show 3 ≤ 1000; decide) hp hD (fun i x y H2 R Z hx hy s2 hR => ?_) (fun H2 s2 hL => ?_)
    · obtain ⟨n, rfl, rfl, sn⟩ : ∃ n, x = .int n ∧ y = .str (nT n) ∧ Sm n := by
        match i, hx, hy with
        | 0, hx, hy => cases hx; cases hy; exact ⟨_, rfl, rfl, a1⟩
        | 1, hx, hy => cases hx; cases hy; exact ⟨_, rfl, rfl, a2⟩
        | 2, hx, hy => cases hx; cases hy; exact ⟨_, rfl, rfl, a3⟩
        | k + 3, hx, hy => cases hx
      exact ⟨rfl, yes_ok ⟨_, rfl, n, rfl, log_small sn, hR _ (Same.refl _)⟩⟩
    · refine ⟨_, D, _, rfl, rfl, .inl (.inl (.inl hL)), ?_, q _ s2⟩
      exact Nat.le_trans (join_bound (n := 3) (B := 3) (by decide) (fun p hp => (mv_parts vm p hp).1) (by show 3 ≤ 3; decide)) (by decide)
def sp_row_text (K : PySem.W.Frag) : Sp := fun vs H Q _ => ∃ (v : V) (r : RW), vs = [v] ∧ RowAt K H v r ∧ VRow r ∧ ∀ H', Same H H' → Q (.str (rwT r)) H'
theorem ok_row_text {f : Addr} {fd : FuncData} (F : Fun K "row_text" "row_text" s_row_text f fd) (T : Txt K mg) : FnOk P w K mg base CX0 1 f fd ["row"] (sp_row_text K) := by
  refine F.ok sc_row_text (fun vs H Q E h => ?_) (fun cdv A outer s H vs Q E hr h => ?_)
  · obtain ⟨v, m, rfl, _⟩ := h
    rfl
  · obtain ⟨v, ⟨m1, m2⟩, rfl, ⟨p, rfl, hp⟩, vm, q⟩ := h
    obtain ⟨a1, a2⟩ := vr_sm vm
    refine ⟨_, (pss_one (ps_ret (pe_bm PySem.F.plainAttrs_str PySem.F.slot_str_join PySem.F.type_str_join mt_join pe_str (pa_cons (pe_lc (own := [("number", 1)]) (g := (gName 1)) (tt := tYes) (by rfl) sc_row_text.nd (pi_tup (pv 0)) (blkOk_by (own := [("number", 1)]) (N := ["row", "number"]) (sc := defScope s_row_text) (by decide +kernel)) (fun _ _ _ _ _ => (pg_name (i := 1) sc_row_text.nd rfl (Or.inl rfl))) (fun _ _ _ _ _ => pts_nil) (fun _ _ _ _ _ => (pe_callTy call_str_int (by rfl) T.b_str (by decide +kernel) (pa_cons (pv 1) pa_nil)))) pa_nil)))), ?_⟩
    refine ⟨rfl, _, rfl, p, rfl, ⟨_, hp⟩, fun D hD => ?_⟩
    refine lcmap_tup (xs := [.int m1, .int m2]) ([nT m1, nT m2].map V.str) rfl (by show 2 ≤ 1000; decide) hp hD (fun i x y H2 R Z hx hy s2 hR => ?_) (fun H2 s2 hL => ?_)
    · obtain ⟨n, rfl, rfl, sn⟩ : ∃ n, x = .int n ∧ y = .str (nT n) ∧ Sm n := by
        match i, hx, hy with
        | 0, hx, hy => cases hx; cases hy; exact ⟨_, rfl, rfl, a1⟩
        | 1, hx, hy => cases hx; cases hy; exact ⟨_, rfl, rfl, a2⟩
        | k + 2, hx, hy => cases hx
      exact ⟨rfl, yes_ok ⟨_, rfl, n, rfl, log_small sn, hR _ (Same.refl _)⟩⟩
    · refine ⟨_, D, _, rfl, rfl, .inl (.inl (.inl hL)), ?_, q _ s2⟩
      exact Nat.le_trans (join_bound (n := 2) (B := 3) (by decide) (fun p hp => (rw_parts vm p hp).1) (by show 2 ≤ 2; decide)) (by decide)
def sp_window_text (K : PySem.W.Frag) : Sp := fun vs H Q _ => ∃ (v : V) (x y : Int) (ms : List MV), vs = [v] ∧ WinAt K H v x y ms ∧ VWin x y ms ∧ ∀ H', Same H H' → Q (.str (winT x y ms)) H'
theorem ok_window_text {f : Addr} {fd : FuncData} (F : Fun K "window_text" "window_text" s_window_text f fd) (T : Txt K mg) (D_move_text : Cl P w K mg base 1 "move_text" ["move"] (sp_move_text K)) : FnOk P w K mg base CX0 2 f fd ["window"] (sp_window_text K) := by
  refine F.ok sc_window_text (fun vs H Q E h => ?_) (fun cdv A outer s H vs Q E hr h => ?_)
  · obtain ⟨v, x, y, ms, rfl, _⟩ := h
    rfl
  · obtain ⟨v, x, y, ms, rfl, ⟨p, mv, rfl, hp, pm, us, rfl, hm, pd⟩, vw, q⟩ := h
    have lus := Paired.length pd
    have sx : Sm x := ⟨by have := vw.1; omega, by have := vw.1; omega⟩
    have sy : Sm y := ⟨by have := vw.2.1; omega, by have := vw.2.1; omega⟩
    have l8 := vw.2.2.1
    refine ⟨_, (pss_cons (ps_asg (pv 0) (pg_tup (by rfl) (pgs_cons (pg_name (i := 1) sc_window_text.nd rfl (Or.inl rfl)) (pgs_cons (pg_name (i := 2) sc_window_text.nd rfl (Or.inl rfl)) (pgs_cons (pg_name (i := 3) sc_window_text.nd rfl (Or.inl rfl)) pgs_nil)))))
      (pss_one (ps_ret (pe_bm PySem.F.plainAttrs_str PySem.F.slot_str_join PySem.F.type_str_join mt_join pe_str (pa_cons (pe_op op_cat (pe_lst (pa_cons pe_str (pa_cons (pe_callTy call_str_int (by rfl) T.b_str (by decide +kernel) (pa_cons (pv 1) pa_nil)) (pa_cons (pe_callTy call_str_int (by rfl) T.b_str (by decide +kernel) (pa_cons (pv 2) pa_nil)) pa_nil)))) (pe_lc (own := [("move", 4)]) (g := (gName 4)) (tt := tYes) (by rfl) sc_window_text.nd (pi_tup (pv 3)) (blkOk_by (own := [("move", 4)]) (N := ["window", "x", "y", "moves", "move"]) (sc := defScope s_window_text) (by decide +kernel)) (fun _ _ _ _ _ => (pg_name (i := 4) sc_window_text.nd rfl (Or.inl rfl))) (fun _ _ _ _ _ => pts_nil) (fun _ _ _ _ _ => (pe_own D_move_text (hr.mono (by omega)) (by rfl) (pa_cons (pv 4) pa_nil))))) pa_nil))))), ?_⟩
    refine ⟨_, rfl, p, _, rfl, hp, rfl, _, _, rfl, _, _, rfl, _, _, rfl, rfl, ?_⟩
    refine ⟨rfl, _, rfl, _, rfl, log_small sx, _, rfl, _, rfl, log_small sy, (by show 3 ≤ sizeLine; decide), fun p1 np1 => ?_⟩
    obtain ⟨s1, e1⟩ := new_at (.lst [.str "window", .str (Str.ofString (toString x)), .str (Str.ofString (toString y))]) np1
    generalize upd H p1 (.lst [.str "window", .str (Str.ofString (toString x)), .str (Str.ofString (toString y))]) = H1 at s1 e1 ⊢
    refine ⟨_, rfl, pm, rfl, ⟨_, Same.sqT s1 hm⟩, fun D hD => ?_⟩
    refine lcmap_tup (xs := us) ((ms.map mvT).map V.str) (by rw [List.length_map, List.length_map, lus]) (by omega) (Same.sqT s1 hm) hD (fun i u y H2 R Z hx hy s2 hR => ?_) (fun H2 s2 hL => ?_)
    · obtain ⟨m, hm1, hmv⟩ := Paired.at pd hx
      rw [List.getElem?_map, List.getElem?_map, hm1] at hy
      cases hy
      exact ⟨rfl, yes_ok ⟨_, rfl, u, m, rfl, hmv.keep (Same.tk (s1.trans s2)), vw.2.2.2 m (List.mem_of_getElem? hm1), hR⟩⟩
    · refine ⟨p1, D, _, _, rfl, rfl, s2 _ _ e1, hL, ?_, fun p3 np3 => ?_⟩
      · rw [List.length_map, List.length_map]
        exact Nat.le_of_lt (small1000 (by show 3 + ms.length ≤ 1000; omega))
      refine ⟨_, p3, winW x y ms, rfl, rfl, .inl (.inl (.inl ?_)), ?_, q _ ((s1.trans s2).trans (same_upd np3))⟩
      · rw [upd_same]
        unfold winW
        rw [List.map_append]
        rfl
      · exact Nat.le_trans (join_bound (n := 11) (B := 12) (by decide) (fun p hp => (winW_f vw p hp).1) (winW_len vw)) (by decide)
def sp_layer_text (K : PySem.W.Frag) : Sp := fun vs H Q _ => ∃ (v : V) (l : LY), vs = [v] ∧ LyAt K H v l ∧ VLy l ∧ ∀ H', Same H H' → Q (.str (layT l)) H'
theorem ok_layer_text {f : Addr} {fd : FuncData} (F : Fun K "layer_text" "layer_text" s_layer_text f fd) (T : Txt K mg) (D_row_text : Cl P w K mg base 1 "row_text" ["row"] (sp_row_text K)) : FnOk P w K mg base CX0 2 f fd ["layer"] (sp_layer_text K) := by
  refine F.ok sc_layer_text (fun vs H Q E h => ?_) (fun cdv A outer s H vs Q E hr h => ?_)
  · obtain ⟨v, l, rfl, _⟩ := h
    rfl
  · obtain ⟨v, ⟨rs, bk⟩, rfl, ⟨p, rv, rfl, hp, pr, us, rfl, hm, pd⟩, vl, q⟩ := h
    have lus : us.length = rs.length := Paired.length pd
    have l8 : rs.length ≤ 8 := vl.1.1
    refine ⟨_, (pss_cons (ps_asg (pv 0) (pg_tup (by rfl) (pgs_cons (pg_name (i := 1) sc_layer_text.nd rfl (Or.inl rfl)) (pgs_cons (pg_name (i := 2) sc_layer_text.nd rfl (Or.inl rfl)) pgs_nil))))
      (pss_one (ps_ret (pe_bm PySem.F.plainAttrs_str PySem.F.slot_str_join PySem.F.type_str_join mt_join pe_str (pa_cons (pe_op op_cat (pe_lst (pa_cons pe_str (pa_cons (pe_ifExp (pt_cmpR op_isN (pv 2) pe_non (nomark _)) pe_str (pe_callTy call_str_int (by rfl) T.b_str (by decide +kernel) (pa_cons (pv 2) pa_nil))) pa_nil))) (pe_lc (own := [("row", 3)]) (g := (gName 3)) (tt := tYes) (by rfl) sc_layer_text.nd (pi_tup (pv 1)) (blkOk_by (own := [("row", 3)]) (N := ["layer", "rows", "back", "row"]) (sc := defScope s_layer_text) (by decide +kernel)) (fun _ _ _ _ _ => (pg_name (i := 3) sc_layer_text.nd rfl (Or.inl rfl))) (fun _ _ _ _ _ => pts_nil) (fun _ _ _ _ _ => (pe_own D_row_text (hr.mono (by omega)) (by rfl) (pa_cons (pv 3) pa_nil))))) pa_nil))))), ?_⟩
    refine ⟨_, rfl, p, _, rfl, hp, rfl, _, _, rfl, _, _, rfl, rfl, ?_⟩
    refine ⟨rfl, _, rfl, rfl, _, rfl, ite2 (fun e => ?g1) (fun e => ?g2)⟩
    case' g1 =>
      obtain ⟨z, ez, hz⟩ : ∃ z : Str, z = "-" ∧ z = bkT bk := by
        cases bk with
        | none => exact ⟨_, rfl, rfl⟩
        | some b => cases e
      rw [← ez]
    case' g2 =>
      obtain ⟨b, rfl⟩ : ∃ b, bk = some b := by
        cases bk with
        | none => exact absurd rfl e
        | some b => exact ⟨b, rfl⟩
      refine ⟨_, rfl, b, rfl, log_small (vb_sm vl rfl), ?_⟩
      obtain ⟨z, ez, hz⟩ : ∃ z : Str, z = Str.ofString (toString b) ∧ z = bkT (some b) := ⟨_, rfl, rfl⟩
      rw [← ez]
    all_goals
      refine ⟨(by show 2 ≤ sizeLine; decide), fun p1 np1 => ?_⟩
      obtain ⟨s1, e1⟩ := new_at (.lst [.str "layer", .str z]) np1
      generalize upd H p1 (.lst [.str "layer", .str z]) = H1 at s1 e1 ⊢
      refine ⟨_, rfl, pr, rfl, ⟨_, Same.sqT s1 hm⟩, fun D hD => ?_⟩
      refine lcmap_tup (xs := us) ((rs.map rwT).map V.str) (by rw [List.length_map, List.length_map, lus]) (by omega) (Same.sqT s1 hm) hD (fun i u y H2 R Z hx hy s2 hR => ?_) (fun H2 s2 hL => ?_)
      · obtain ⟨m, hm1, hmv⟩ := Paired.at pd hx
        rw [List.getElem?_map, List.getElem?_map, hm1] at hy
        cases hy
        exact ⟨rfl, yes_ok ⟨_, rfl, u, m, rfl, hmv.keep (Same.tk (s1.trans s2)), vl.1.2 m (List.mem_of_getElem? hm1), hR⟩⟩
      · refine ⟨p1, D, _, _, rfl, rfl, s2 _ _ e1, hL, ?_, fun p3 np3 => ?_⟩
        · rw [List.length_map, List.length_map]
          exact Nat.le_of_lt (small1000 (by show 2 + rs.length ≤ 1000; omega))
        refine ⟨_, p3, layW (rs, _), rfl, rfl, .inl (.inl (.inl ?_)), ?_, q _ ((s1.trans s2).trans (same_upd np3))⟩
        · rw [upd_same]
          unfold layW
          rw [List.map_append, hz]
          rfl
        · exact Nat.le_trans (join_bound (n := 11) (B := 12) (by decide) (fun p hp => (layW_f vl p hp).1) (layW_len vl)) (by decide)
def sp_text_of (K : PySem.W.Frag) : Sp := fun vs H Q _ => ∃ (v : V) (ls : List LY) (x y : Int) (ms : List MV), vs = [v] ∧ ShAt K H v ls x y ms ∧ VLays ls ∧ VWin x y ms ∧ ∀ H', Same H H' → Q (.str (shT ls x y ms)) H'
theorem ok_text_of {f : Addr} {fd : FuncData} (F : Fun K "text_of" "text_of" s_text_of f fd) (T : Txt K mg) (D_window_text : Cl P w K mg base 2 "window_text" ["window"] (sp_window_text K)) (D_layer_text : Cl P w K mg base 2 "layer_text" ["layer"] (sp_layer_text K)) : FnOk P w K mg base CX0 3 f fd ["sheet"] (sp_text_of K) := by
  refine F.ok sc_text_of (fun vs H Q E h => ?_) (fun cdv A outer s H vs Q E hr h => ?_)
  · obtain ⟨v, ls, x, y, ms, rfl, _⟩ := h
    rfl
  · obtain ⟨v, ls, x, y, ms, rfl, ⟨p, lv, wv, rfl, hp, ⟨pl, us, rfl, hm, pd⟩, hw⟩, vL, vw, q⟩ := h
    have lus := Paired.length pd
    have l4 := vL.2.1
    refine ⟨_, (pss_cons (ps_asg (pv 0) (pg_tup (by rfl) (pgs_cons (pg_name (i := 1) sc_text_of.nd rfl (Or.inl rfl)) (pgs_cons (pg_name (i := 2) sc_text_of.nd rfl (Or.inl rfl)) pgs_nil))))
      (pss_cons (ps_set (i := 3) sc_text_of.nd rfl (Or.inl rfl) (pe_op op_cat (pe_lst (pa_cons (pe_own D_window_text (hr.mono (by omega)) (by rfl) (pa_cons (pv 2) pa_nil)) pa_nil)) (pe_lc (own := [("layer", 4)]) (g := (gName 4)) (tt := tYes) (by rfl) sc_text_of.nd (pi_tup (pv 1)) (blkOk_by (own := [("layer", 4)]) (N := ["sheet", "layers", "window", "lines", "layer", "line"]) (sc := defScope s_text_of) (by decide +kernel)) (fun _ _ _ _ _ => (pg_name (i := 4) sc_text_of.nd rfl (Or.inl rfl))) (fun _ _ _ _ _ => pts_nil) (fun _ _ _ _ _ => (pe_own D_layer_text (hr.mono (by omega)) (by rfl) (pa_cons (pv 4) pa_nil))))))
      (pss_one (ps_ret (pe_bm PySem.F.plainAttrs_str PySem.F.slot_str_join PySem.F.type_str_join mt_join pe_str (pa_cons (pe_lc (own := [("line", 5)]) (g := (gName 5)) (tt := tYes) (by rfl) sc_text_of.nd (pi_list (pv 3)) (blkOk_by (own := [("line", 5)]) (N := ["sheet", "layers", "window", "lines", "layer", "line"]) (sc := defScope s_text_of) (by decide +kernel)) (fun _ _ _ _ _ => (pg_name (i := 5) sc_text_of.nd rfl (Or.inl rfl))) (fun _ _ _ _ _ => pts_nil) (fun _ _ _ _ _ => (pe_op op_add_str (pv 5) pe_str))) pa_nil)))))), ?_⟩
    refine ⟨_, rfl, p, _, rfl, hp, rfl, _, _, rfl, _, _, rfl, rfl, ?_⟩
    refine ⟨_, rfl, wv, x, y, ms, rfl, hw, vw, fun H1 s1 => ⟨(by show 1 ≤ sizeLine; decide), fun p2 np2 => ?_⟩⟩
    obtain ⟨s2, e2⟩ := new_at (.lst [.str (winT x y ms)]) np2
    generalize upd H1 p2 (.lst [.str (winT x y ms)]) = H2 at s2 e2 ⊢
    have s12 := s1.trans s2
    refine ⟨_, rfl, pl, rfl, ⟨_, Same.sqT s12 hm⟩, fun D hD => ?_⟩
    refine lcmap_tup (xs := us) ((ls.map layT).map V.str) (by rw [List.length_map, List.length_map, lus]) (by omega) (Same.sqT s12 hm) hD (fun i u y H3 R Z hx hy s3 hR => ?_) (fun H3 s3 hL => ?_)
    · obtain ⟨l, hl1, hly⟩ := Paired.at pd hx
      rw [List.getElem?_map, List.getElem?_map, hl1] at hy
      cases hy
      exact ⟨rfl, yes_ok ⟨_, rfl, u, l, rfl, hly.keep (Same.tk (s12.trans s3)), vL.2.2 l (List.mem_of_getElem? hl1), hR⟩⟩
    · refine ⟨p2, D, _, _, rfl, rfl, s3 _ _ e2, hL, ?_, fun p4 np4 => ?_⟩
      · rw [List.length_map, List.length_map]
        exact Nat.le_of_lt (small1000 (by show 1 + ls.length ≤ 1000; omega))
      obtain ⟨s4, e4⟩ := new_at (.lst ([V.str (winT x y ms)] ++ (ls.map layT).map V.str)) np4
      generalize upd H3 p4 (.lst ([V.str (winT x y ms)] ++ (ls.map layT).map V.str)) = H4 at s4 e4 ⊢
      have e4' : H4 p4 = some (.lst ((linT ls x y ms).map V.str)) := by
        rw [e4]
        unfold linT
        rw [List.map_append]
        rfl
      have sA := (s12.trans s3).trans s4
      refine ⟨rfl, _, rfl, p4, rfl, ⟨_, .inl (.inl e4')⟩, fun D2 hD2 => ?_⟩
      have ll := linT_len (x := x) (y := y) (ms := ms) vL
      refine lcmap_list (((linT ls x y ms).map fun z : Str => z ++ "\n").map V.str) (by simp) (by rw [List.length_map]; omega) (.inl (.inl e4')) hD2 (fun i u y' H5 R Z hx hy s5 hR => ?_) (fun H5 s5 hL5 => ?_)
      · obtain ⟨z, hz1, rfl⟩ := list_str2 hx
        rw [List.getElem?_map, List.getElem?_map, hz1] at hy
        cases hy
        have lz := (linT_f vL vw z (List.mem_of_getElem? hz1)).1
        exact ⟨rfl, yes_ok ⟨_, rfl, _, _, rfl, rfl, Nat.le_trans (Nat.add_le_add_right lz _) (by decide), hR _ (Same.refl _)⟩⟩
      · refine ⟨_, D2, _, rfl, rfl, .inl (.inl (.inl hL5)), ?_, q _ (sA.trans s5)⟩
        refine Nat.le_trans (join_bound (n := 5) (B := 144) (by decide) (fun p hp => ?_) (by rw [List.length_map]; exact ll)) (by decide)
        obtain ⟨z, hz, rfl⟩ := List.mem_map.mp hp
        have lz := (linT_f vL vw z hz).1
        exact js_len lz (n := 1) (by decide)
def sp_sheet_text (K : PySem.W.Frag) : Sp := fun vs H Q _ => ∃ (v : V) (ls : List LY) (x y : Int) (ms : List MV), vs = [v] ∧ ShAt K H v ls x y ms ∧ VLays ls ∧ VWin x y ms ∧ ∀ H', Same H H' → Q (.str (shT ls x y ms)) H'
theorem ok_sheet_text {f : Addr} {fd : FuncData} (F : Fun K "sheet_text" "sheet_text" s_sheet_text f fd) (T : Txt K mg) (D_need_sheet : Cl P w K mg base 7 "need_sheet" ["thing"] (sp_need_sheet K)) (D_text_of : Cl P w K mg base 3 "text_of" ["sheet"] (sp_text_of K)) : FnOk P w K mg base CX0 8 f fd ["sheet"] (sp_sheet_text K) := by
  refine F.ok sc_sheet_text (fun vs H Q E h => ?_) (fun cdv A outer s H vs Q E hr h => ?_)
  · obtain ⟨v, ls, x, y, ms, rfl, _⟩ := h
    rfl
  · obtain ⟨v, ls, x, y, ms, rfl, hs, vL, vw, q⟩ := h
    refine ⟨_, (pss_cons (ps_expr (pe_own D_need_sheet (hr.mono (by omega)) (by rfl) (pa_cons (pv 0) pa_nil)))
      (pss_one (ps_ret (pe_own D_text_of (hr.mono (by omega)) (by rfl) (pa_cons (pv 0) pa_nil))))), ?_⟩
    exact ⟨_, rfl, v, ls, x, y, ms, rfl, hs, vL, vw, fun H1 s1 => ⟨_, rfl, v, ls, x, y, ms, rfl, hs.keep (Same.tk s1), vL, vw, fun H2 s2 => q _ (s1.trans s2)⟩⟩
end

theorem lcnew_list {α : Type} {K : PySem.W.Frag} {a : Addr} {xs : List V} {g : TG} {tt : TT} {te : TE} {vs : List Nat} {σ : L2.St} {H1 : Hp} {D : Addr} {Qd : Hp → Prop} (At : Hp → V → α → Prop) (as : List α) (keep : ∀ {H H' : Hp} {v : V} {c : α}, TKeep K H H' → At H v c → At H' v c) (hl : as.length = xs.length) (hz : xs.length ≤ 1000) (hS : SqL K H1 a xs) (hD : H1 D = none)
    (hs : ∀ (i : Nat) (x : V) (c : α) (H : Hp) (R : V → Hp → Prop) (Z : Hp → Prop), xs[i]? = some x → as[i]? = some c → Same H1 H → (∀ y H4, Same H H4 → At H4 y c → R y H4) → g x (wipe σ vs) H fun σ2 H2 => wipe σ2 vs = wipe σ vs ∧ tt σ2 H2 fun b H3 => if b = true then te σ2 H3 R else Z H3)
    (hd : ∀ H ts, Same H1 H → H D = some (.lst ts) → Paired (At H) ts as → Qd H) :
    ∃ W : Nat → Nat → Hp → Prop, (∃ m, W 0 m (upd H1 D (.lst []))) ∧ ∀ i m H, W i m H →
      ((Itl K a).stop i H ∧ Qd H) ∨ ((Itl K a).go i H ∧ ∃ Nx : Hp → Prop, (∀ H', Nx H' → ∃ m', m' < m ∧ W (i + 1) m' H') ∧ ∀ x H', (Itl K a).yld i H x H' → g x (wipe σ vs) H' fun σ2 H2 => wipe σ2 vs = wipe σ vs ∧ tt σ2 H2 fun b H3 =>
        if b = true then te σ2 H3 fun y H4 => ∃ acc, H4 D = some (.lst acc) ∧ acc.length < sizeLine ∧ Nx (upd H4 D (.lst (acc ++ [y]))) else Nx H3) := by
  refine lc_list (K := K) (a := a) (xs := xs) (fun i H => Same H1 H ∧ ∃ ts, H D = some (.lst ts) ∧ ts.length = i ∧ Paired (At H) ts (as.take i)) ⟨same_upd hD, [], upd_same, rfl, .nil⟩ (fun i H _ p => p.1.seq hS) (fun i x H hx p => ?_) (fun H p => ?_)
  · have hi : i < xs.length := (List.getElem?_eq_some_iff.mp hx).1
    obtain ⟨c, hc⟩ : ∃ c, as[i]? = some c := ⟨_, List.getElem?_eq_getElem (by omega)⟩
    obtain ⟨s0, ts, eD, lt, pd⟩ := p
    refine hs i x c H _ _ hx hc s0 (fun y H4 s4 hy => ⟨ts, s4 _ _ eD, small1000 (by omega), ?_, ts ++ [y], upd_same, by rw [List.length_append, lt]; rfl, ?_⟩)
    · intro b o e
      rw [upd_ne (ne_of_none e hD)]
      exact s4 _ _ (s0 _ _ e)
    · have k : TKeep K H4 (upd H4 D (.lst (ts ++ [y]))) := fun a zs h => tk_updL (s4 _ _ eD) _ _ h
      rw [List.take_add_one, hc]
      exact Paired.snocP (Paired.mono pd fun _ _ h => keep k (keep (Same.tk s4) h)) (keep k hy)
  · obtain ⟨s0, ts, eD, lt, pd⟩ := p
    refine hd H ts s0 eD ?_
    rw [List.take_of_length_le (by omega)] at pd
    exact pd
theorem at_k {xs : List V} {v : V} (k : Nat) (h : xs[k]? = some v) : atI xs (k : Int) = some v := by
  unfold atI ixN
  have : k < xs.length := (List.getElem?_eq_some_iff.mp h).1
  rw [if_pos (by omega), if_pos (by omega)]
  show xs[(k : Int).toNat]? = _
  rw [Int.toNat_natCast]
  exact h
theorem cut_3 (xs : List V) : cutV xs (some 3) none = xs.drop 3 := cut_from xs 3
theorem cut_2 (xs : List V) : cutV xs (some 2) none = xs.drop 2 := cut_from xs 2
theorem cut_1 (xs : List V) : cutV xs (some 1) none = xs.drop 1 := cut_from xs 1
section
variable {P : Program} {w : World} {K : PySem.W.Frag} {mg : Str → Option Value} {base : Heap}
def sp_window_in (K : PySem.W.Frag) : Sp := fun vs H Q _ => ∃ (x y : Int) (ms : List MV), vs = [.str (winT x y ms)] ∧ VWin x y ms ∧ ∀ H' v, Same H H' → WinAt K H' v x y ms → Q v H'
theorem ok_window_in {f : Addr} {fd : FuncData} (F : Fun K "window_in" "window_in" s_window_in f fd) (T : Txt K mg) (D_numbers_in : Cl P w K mg base 3 "numbers_in" ["word", "between"] (sp_numbers_in K)) (D_number_in : Cl P w K mg base 2 "number_in" ["word"] (sp_number_in K)) : FnOk P w K mg base CX0 4 f fd ["line"] (sp_window_in K) := by
  refine F.ok sc_window_in (fun vs H Q E h => ?_) (fun cdv A outer s H vs Q E hr h => ?_)
  · obtain ⟨x, y, ms, rfl, _⟩ := h
    rfl
  · obtain ⟨x, y, ms, rfl, vw, q⟩ := h
    have sx : Sm x := ⟨by have := vw.1; omega, by have := vw.1; omega⟩
    have sy : Sm y := ⟨by have := vw.2.1; omega, by have := vw.2.1; omega⟩
    have l8 := vw.2.2.1
    refine ⟨_, (pss_cons (ps_set (i := 1) sc_window_in.nd rfl (Or.inl rfl) (pe_bm PySem.F.plainAttrs_str PySem.F.slot_str_split PySem.F.type_str_split mt_split (pv 0) (pa_cons pe_str pa_nil)))
      (pss_cons (ps_if (PW.pt (pw_or (pt_cmpR op_ne (pe_ix ix_list (pv 1) pe_int (fun _ _ => rfl)) pe_str (nomark _)) (pw_or1 (pt_cmpR op_lt (pe_callB call_len_seq (by rfl) T.b_len (by decide +kernel) (pa_cons (pv 1) pa_nil)) pe_int (nomark _))))) (pss_one (ps_ret pe_non)) pss_nil)
      (pss_cons (ps_set (i := 2) sc_window_in.nd rfl (Or.inl rfl) (pe_callTy call_tuple_of (by rfl) T.b_tuple (by decide +kernel) (pa_cons (pe_lc (own := [("word", 3)]) (g := (gName 3)) (tt := tYes) (by rfl) sc_window_in.nd (pi_list (pe_slice sl_list (pv 1) (po_some pe_int) po_none)) (blkOk_by (own := [("word", 3)]) (N := ["line", "words", "moves", "word"]) (sc := defScope s_window_in) (by decide +kernel)) (fun _ _ _ _ _ => (pg_name (i := 3) sc_window_in.nd rfl (Or.inl rfl))) (fun _ _ _ _ _ => pts_nil) (fun _ _ _ _ _ => (pe_own D_numbers_in (hr.mono (by omega)) (by rfl) (pa_cons (pv 3) (pa_cons pe_str pa_nil))))) pa_nil)))
      (pss_one (ps_ret (pe_tup (pa_cons (pe_own D_number_in (hr.mono (by omega)) (by rfl) (pa_cons (pe_ix ix_list (pv 1) pe_int (fun _ _ => rfl)) pa_nil)) (pa_cons (pe_own D_number_in (hr.mono (by omega)) (by rfl) (pa_cons (pe_ix ix_list (pv 1) pe_int (fun _ _ => rfl)) pa_nil)) (pa_cons (pv 2) pa_nil))))))))), ?_⟩
    refine ⟨_, rfl, rfl, _, _, rfl, rfl, by decide, Nat.le_trans (Nat.add_le_add_right (winT_f vw).1 2) (by decide), fun p1 np1 => ?_⟩
    rw [win_split vw]
    obtain ⟨s1, e1⟩ := new_at (.lst ((winW x y ms).map V.str)) np1
    generalize upd H p1 (.lst ((winW x y ms).map V.str)) = H1 at s1 e1 ⊢
    refine ⟨_, rfl, p1, _, 0, .str "window", rfl, rfl, .inl (.inl e1), at_k 0 rfl, rfl, _, rfl, iteF ?_⟩
    refine ⟨_, rfl, p1, _, rfl, .inl (.inl (.inl e1)), _, 3, rfl, rfl, _, rfl, ?_⟩
    rw [decide_eq_false (show ¬ (((winW x y ms).map V.str).length : Int) < 3 by rw [List.length_map]; unfold winW; rw [List.length_append]; show ¬ (((3 + _ : Nat)) : Int) < 3; omega)]
    refine iteF ?_
    refine ⟨_, rfl, 3, rfl, p1, _, rfl, .inl (.inl e1), fun p2 np2 => ?_⟩
    rw [cut_3, show ((winW x y ms).map V.str).drop 3 = (ms.map mvT).map V.str from rfl]
    obtain ⟨s2, e2⟩ := new_at (.lst ((ms.map mvT).map V.str)) np2
    generalize upd H1 p2 (.lst ((ms.map mvT).map V.str)) = H2 at s2 e2 ⊢
    refine ⟨p2, rfl, ⟨_, .inl (.inl e2)⟩, fun D hD => ?_⟩
    refine lcnew_list (MoveAt K) ms (fun k h => h.keep k) (by rw [List.length_map, List.length_map]) (by rw [List.length_map, List.length_map]; omega) (.inl (.inl e2)) hD (fun i u m H3 R Z hx hm s3 hR => ?_) (fun H3 ts s3 hL pd => ?_)
    · have vm := vw.2.2.2 m (List.mem_of_getElem? hm)
      rw [List.getElem?_map, List.getElem?_map, hm] at hx
      cases hx
      obtain ⟨a1, a2, a3⟩ := vm_sm vm
      refine ⟨rfl, yes_ok ⟨_, rfl, mvT m, ",", [m.1, m.2.1, m.2.2], rfl, mv_split vm, fun n hn => ?_, Nat.le_trans (mvT_f vm).1 (by decide), by decide, (Nat.le_of_ble_eq_true rfl), fun H4 p4 s4 h4 => hR _ _ s4 ⟨p4, rfl, h4⟩⟩⟩
      rcases mem3 hn with rfl | rfl | rfl <;> assumption
    · refine ⟨D, ts, rfl, .inl ⟨.inl (.inl hL), fun l nl => ?_⟩⟩
      obtain ⟨s4, e4⟩ := new_at (.tup ts) nl
      generalize upd H3 l (.tup ts) = H4 at s4 e4 ⊢
      have e14 := s4 _ _ (s3 _ _ (s2 _ _ e1))
      refine ⟨_, rfl, p1, _, 1, _, rfl, rfl, .inl (.inl e14), at_k 1 rfl, x, rfl, sx, ?_⟩
      refine ⟨_, rfl, p1, _, 2, _, rfl, rfl, .inl (.inl e14), at_k 2 rfl, y, rfl, sy, _, rfl, (by show 3 ≤ sizeLine; decide), fun p5 np5 => ?_⟩
      have s5 := same_upd (o := .tup [.int x, .int y, .ref l]) np5
      exact q _ _ (((s1.trans s2).trans s3).trans (s4.trans s5)) ⟨p5, _, rfl, .inl (.inl upd_same), l, ts, rfl, .inl (.inl (s5 _ _ e4)), Paired.mono pd fun _ _ h => h.keep (Same.tk (s4.trans s5))⟩
def sp_layer_in (K : PySem.W.Frag) : Sp := fun vs H Q _ => ∃ (l : LY), vs = [.str (layT l)] ∧ VLy l ∧ ∀ H' v, Same H H' → LyAt K H' v l → Q v H'
theorem ok_layer_in {f : Addr} {fd : FuncData} (F : Fun K "layer_in" "layer_in" s_layer_in f fd) (T : Txt K mg) (D_numbers_in : Cl P w K mg base 3 "numbers_in" ["word", "between"] (sp_numbers_in K)) (D_number_in : Cl P w K mg base 2 "number_in" ["word"] (sp_number_in K)) : FnOk P w K mg base CX0 4 f fd ["line"] (sp_layer_in K) := by
  refine F.ok sc_layer_in (fun vs H Q E h => ?_) (fun cdv A outer s H vs Q E hr h => ?_)
  · obtain ⟨l, rfl, _⟩ := h
    rfl
  · obtain ⟨⟨rs, bk⟩, rfl, vl, q⟩ := h
    have l8 : rs.length ≤ 8 := vl.1.1
    refine ⟨_, (pss_cons (ps_set (i := 1) sc_layer_in.nd rfl (Or.inl rfl) (pe_bm PySem.F.plainAttrs_str PySem.F.slot_str_split PySem.F.type_str_split mt_split (pv 0) (pa_cons pe_str pa_nil)))
      (pss_cons (ps_if (PW.pt (pw_or (pt_cmpR op_ne (pe_ix ix_list (pv 1) pe_int (fun _ _ => rfl)) pe_str (nomark _)) (pw_or1 (pt_cmpR op_lt (pe_callB call_len_seq (by rfl) T.b_len (by decide +kernel) (pa_cons (pv 1) pa_nil)) pe_int (nomark _))))) (pss_one (ps_ret pe_non)) pss_nil)
      (pss_cons (ps_set (i := 2) sc_layer_in.nd rfl (Or.inl rfl) (pe_callTy call_tuple_of (by rfl) T.b_tuple (by decide +kernel) (pa_cons (pe_lc (own := [("word", 3)]) (g := (gName 3)) (tt := tYes) (by rfl) sc_layer_in.nd (pi_list (pe_slice sl_list (pv 1) (po_some pe_int) po_none)) (blkOk_by (own := [("word", 3)]) (N := ["line", "words", "rows", "word"]) (sc := defScope s_layer_in) (by decide +kernel)) (fun _ _ _ _ _ => (pg_name (i := 3) sc_layer_in.nd rfl (Or.inl rfl))) (fun _ _ _ _ _ => pts_nil) (fun _ _ _ _ _ => (pe_own D_numbers_in (hr.mono (by omega)) (by rfl) (pa_cons (pv 3) (pa_cons pe_str pa_nil))))) pa_nil)))
      (pss_one (ps_ret (pe_tup (pa_cons (pv 2) (pa_cons (pe_ifExp (pt_cmpR op_eq (pe_ix ix_list (pv 1) pe_int (fun _ _ => rfl)) pe_str (nomark _)) pe_non (pe_own D_number_in (hr.mono (by omega)) (by rfl) (pa_cons (pe_ix ix_list (pv 1) pe_int (fun _ _ => rfl)) pa_nil))) pa_nil)))))))), ?_⟩
    refine ⟨_, rfl, rfl, _, _, rfl, rfl, by decide, Nat.le_trans (Nat.add_le_add_right (layT_f vl).1 2) (by decide), fun p1 np1 => ?_⟩
    rw [lay_split vl]
    obtain ⟨s1, e1⟩ := new_at (.lst ((layW (rs, bk)).map V.str)) np1
    generalize upd H p1 (.lst ((layW (rs, bk)).map V.str)) = H1 at s1 e1 ⊢
    refine ⟨_, rfl, p1, _, 0, .str "layer", rfl, rfl, .inl (.inl e1), at_k 0 rfl, rfl, _, rfl, iteF ?_⟩
    refine ⟨_, rfl, p1, _, rfl, .inl (.inl (.inl e1)), _, 2, rfl, rfl, _, rfl, ?_⟩
    rw [decide_eq_false (show ¬ (((layW (rs, bk)).map V.str).length : Int) < 2 by rw [List.length_map]; unfold layW; rw [List.length_append]; show ¬ (((2 + _ : Nat)) : Int) < 2; omega)]
    refine iteF ?_
    refine ⟨_, rfl, 2, rfl, p1, _, rfl, .inl (.inl e1), fun p2 np2 => ?_⟩
    rw [cut_2, show ((layW (rs, bk)).map V.str).drop 2 = (rs.map rwT).map V.str from rfl]
    obtain ⟨s2, e2⟩ := new_at (.lst ((rs.map rwT).map V.str)) np2
    generalize upd H1 p2 (.lst ((rs.map rwT).map V.str)) = H2 at s2 e2 ⊢
    refine ⟨p2, rfl, ⟨_, .inl (.inl e2)⟩, fun D hD => ?_⟩
    refine lcnew_list (RowAt K) rs (fun k h => h.keep k) (by rw [List.length_map, List.length_map]) (by rw [List.length_map, List.length_map]; omega) (.inl (.inl e2)) hD (fun i u m H3 R Z hx hm s3 hR => ?_) (fun H3 ts s3 hL pd => ?_)
    · have vm := vl.1.2 m (List.mem_of_getElem? hm)
      rw [List.getElem?_map, List.getElem?_map, hm] at hx
      cases hx
      obtain ⟨a1, a2⟩ := vr_sm vm
      refine ⟨rfl, yes_ok ⟨_, rfl, rwT m, "x", [m.1, m.2], rfl, rw_split vm, fun n hn => ?_, Nat.le_trans (rwT_f vm).1 (by decide), by decide, (Nat.le_of_ble_eq_true rfl), fun H4 p4 s4 h4 => hR _ _ s4 ⟨p4, rfl, h4⟩⟩⟩
      rcases mem2 hn with rfl | rfl <;> assumption
    · refine ⟨D, ts, rfl, .inl ⟨.inl (.inl hL), fun l nl => ?_⟩⟩
      obtain ⟨s4, e4⟩ := new_at (.tup ts) nl
      generalize upd H3 l (.tup ts) = H4 at s4 e4 ⊢
      have e14 := s4 _ _ (s3 _ _ (s2 _ _ e1))
      have sA := ((s1.trans s2).trans s3).trans s4
      have fin : ∀ p5, H4 p5 = none → LyAt K (upd H4 p5 (.tup [.ref l, bkV bk])) (.ref p5) (rs, bk) := fun p5 np5 => by
        have s5 := same_upd (o := .tup [.ref l, bkV bk]) np5
        exact ⟨p5, _, rfl, .inl (.inl upd_same), l, ts, rfl, .inl (.inl (s5 _ _ e4)), Paired.mono pd fun _ _ h => h.keep (Same.tk (s4.trans s5))⟩
      refine ⟨_, rfl, _, rfl, p1, _, 1, .str (bkT bk), rfl, rfl, .inl (.inl e14), at_k 1 rfl, rfl, _, rfl, ite2 (fun e => ?_) (fun e => ?_)⟩
      · cases bk with
        | none => exact ⟨(by show 2 ≤ sizeLine; decide), fun p5 np5 => q _ _ (sA.trans (same_upd np5)) (fin p5 np5)⟩
        | some b =>
          have : V.str (nT b) = .str "-" := of_decide_eq_true e
          exact absurd (V.str.inj this) (vb_sm vl rfl).f.nd
      · cases bk with
        | none => exact absurd (decide_eq_true rfl) e
        | some b => exact ⟨_, rfl, p1, _, 1, _, rfl, rfl, .inl (.inl e14), at_k 1 rfl, b, rfl, vb_sm vl rfl, (by show 2 ≤ sizeLine; decide), fun p5 np5 => q _ _ (sA.trans (same_upd np5)) (fin p5 np5)⟩
def sp_sheet_in (K : PySem.W.Frag) : Sp := fun vs H Q _ => ∃ (ls : List LY) (x y : Int) (ms : List MV), vs = [.str (shT ls x y ms)] ∧ VLays ls ∧ VWin x y ms ∧ ∀ H' v, Same H H' → ShAt K H' v ls x y ms → Q v H'
theorem ok_sheet_in {f : Addr} {fd : FuncData} (F : Fun K "sheet_in" "sheet_in" s_sheet_in f fd) (T : Txt K mg) (D_window_in : Cl P w K mg base 4 "window_in" ["line"] (sp_window_in K)) (D_layer_in : Cl P w K mg base 4 "layer_in" ["line"] (sp_layer_in K)) : FnOk P w K mg base CX0 5 f fd ["text"] (sp_sheet_in K) := by
  refine F.ok sc_sheet_in (fun vs H Q E h => ?_) (fun cdv A outer s H vs Q E hr h => ?_)
  · obtain ⟨ls, x, y, ms, rfl, _⟩ := h
    rfl
  · obtain ⟨ls, x, y, ms, rfl, vL, vw, q⟩ := h
    have l4 := vL.2.1
    rw [shT_eq]
    have lz := lin_len vL vw
    refine ⟨_, (pss_cons (ps_if (pt_not (pt_val (pe_bm PySem.F.plainAttrs_str PySem.F.slot_str_endswith PySem.F.type_str_endswith mt_endswith (pv 0) (pa_cons pe_str pa_nil)))) (pss_one (ps_ret pe_non)) pss_nil)
      (pss_cons (ps_set (i := 1) sc_sheet_in.nd rfl (Or.inl rfl) (pe_bm PySem.F.plainAttrs_str PySem.F.slot_str_split PySem.F.type_str_split mt_split (pe_slice sl_str (pv 0) po_none (po_some (pe_un un_neg pe_int))) (pa_cons pe_str pa_nil)))
      (pss_one (ps_ret (pe_tup (pa_cons (pe_callTy call_tuple_of (by rfl) T.b_tuple (by decide +kernel) (pa_cons (pe_lc (own := [("line", 2)]) (g := (gName 2)) (tt := tYes) (by rfl) sc_sheet_in.nd (pi_list (pe_slice sl_list (pv 1) (po_some pe_int) po_none)) (blkOk_by (own := [("line", 2)]) (N := ["text", "lines", "line"]) (sc := defScope s_sheet_in) (by decide +kernel)) (fun _ _ _ _ _ => (pg_name (i := 2) sc_sheet_in.nd rfl (Or.inl rfl))) (fun _ _ _ _ _ => pts_nil) (fun _ _ _ _ _ => (pe_own D_layer_in (hr.mono (by omega)) (by rfl) (pa_cons (pv 2) pa_nil)))) pa_nil)) (pa_cons (pe_own D_window_in (hr.mono (by omega)) (by rfl) (pa_cons (pe_ix ix_list (pv 1) pe_int (fun _ _ => rfl)) pa_nil)) pa_nil))))))), ?_⟩
    refine ⟨_, rfl, rfl, _, _, rfl, rfl, _, rfl, ?_⟩
    rw [ends_nl]
    refine iteF ?_
    refine ⟨_, rfl, 1, rfl, -1, rfl, _, rfl, ?_, ?_⟩
    · rw [strLen_append]
      exact Nat.le_trans (Nat.add_le_add_right lz _) (by decide)
    rw [cut_nl]
    refine ⟨rfl, _, _, rfl, rfl, by decide, Nat.le_trans (Nat.add_le_add_right lz 2) (by decide), fun p1 np1 => ?_⟩
    rw [lin_split vL vw]
    obtain ⟨s1, e1⟩ := new_at (.lst ((linT ls x y ms).map V.str)) np1
    generalize upd H p1 (.lst ((linT ls x y ms).map V.str)) = H1 at s1 e1 ⊢
    refine ⟨_, rfl, 1, rfl, p1, _, rfl, .inl (.inl e1), fun p2 np2 => ?_⟩
    rw [cut_1, show ((linT ls x y ms).map V.str).drop 1 = (ls.map layT).map V.str from rfl]
    obtain ⟨s2, e2⟩ := new_at (.lst ((ls.map layT).map V.str)) np2
    generalize upd H1 p2 (.lst ((ls.map layT).map V.str)) = H2 at s2 e2 ⊢
    refine ⟨p2, rfl, ⟨_, .inl (.inl e2)⟩, fun D hD => ?_⟩
    refine lcnew_list (LyAt K) ls (fun k h => h.keep k) (by rw [List.length_map, List.length_map]) (by rw [List.length_map, List.length_map]; omega) (.inl (.inl e2)) hD (fun i u m H3 R Z hx hm s3 hR => ?_) (fun H3 ts s3 hL pd => ?_)
    · have vm := vL.2.2 m (List.mem_of_getElem? hm)
      rw [List.getElem?_map, List.getElem?_map, hm] at hx
      cases hx
      exact ⟨rfl, yes_ok ⟨_, rfl, m, rfl, vm, fun H4 p4 s4 h4 => hR _ _ s4 h4⟩⟩
    · refine ⟨D, ts, rfl, .inl ⟨.inl (.inl hL), fun l nl => ?_⟩⟩
      obtain ⟨s4, e4⟩ := new_at (.tup ts) nl
      generalize upd H3 l (.tup ts) = H4 at s4 e4 ⊢
      have e14 := s4 _ _ (s3 _ _ (s2 _ _ e1))
      refine ⟨_, rfl, p1, _, 0, _, rfl, rfl, .inl (.inl e14), at_k 0 rfl, x, y, ms, rfl, vw, fun H5 v5 s5 hw => ⟨(by show 2 ≤ sizeLine; decide), fun p6 np6 => ?_⟩⟩
      have s6 := same_upd (o := .tup [.ref l, v5]) np6
      exact q _ _ ((((s1.trans s2).trans s3).trans s4).trans (s5.trans s6)) ⟨p6, _, _, rfl, .inl (.inl upd_same), ⟨l, ts, rfl, .inl (.inl (s6 _ _ (s5 _ _ e4))), Paired.mono pd fun _ _ h => h.keep (Same.tk (s4.trans (s5.trans s6)))⟩, hw.keep (Same.tk s6)⟩
def sp_read_sheet (K : PySem.W.Frag) : Sp := fun vs H Q _ => ∃ (ls : List LY) (x y : Int) (ms : List MV), vs = [.str (shT ls x y ms)] ∧ VLays ls ∧ VWin x y ms ∧ ∀ H' v, Same H H' → ShAt K H' v ls x y ms → Q v H'
theorem ok_read_sheet {f : Addr} {fd : FuncData} (F : Fun K "read_sheet" "read_sheet" s_read_sheet f fd) (T : Txt K mg) (D_sheet_in : Cl P w K mg base 5 "sheet_in" ["text"] (sp_sheet_in K)) (D_is_sheet : Cl P w K mg base 6 "is_sheet" ["thing"] (sp_is_sheet K)) : FnOk P w K mg base CX0 7 f fd ["text"] (sp_read_sheet K) := by
  refine F.ok sc_read_sheet (fun vs H Q E h => ?_) (fun cdv A outer s H vs Q E hr h => ?_)
  · obtain ⟨ls, x, y, ms, rfl, _⟩ := h
    rfl
  · obtain ⟨ls, x, y, ms, rfl, vL, vw, q⟩ := h
    refine ⟨_, (pss_cons (ps_set (i := 1) sc_read_sheet.nd rfl (Or.inl rfl) (pe_ifExp (pt_val (pe_callB call_isi (by rfl) T.b_isinstance (by decide +kernel) (pa_cons (pv 0) (pa_cons (pe_bltn (v := .ty "str") (by rfl) T.b_str (by decide +kernel) rfl) pa_nil)))) (pe_own D_sheet_in (hr.mono (by omega)) (by rfl) (pa_cons (pv 0) pa_nil)) pe_non))
      (pss_cons (ps_if (pt_not (pt_val (pe_own D_is_sheet (hr.mono (by omega)) (by rfl) (pa_cons (pv 1) pa_nil)))) (pss_one ps_never) pss_nil)
      (pss_one (ps_ret (pv 1))))), ?_⟩
    refine ⟨_, rfl, _, _, _, _, true, rfl, .ty _, .base (.str _), kit_ty (by decide +kernel), _, rfl, iteT ?_⟩
    refine ⟨_, rfl, ls, x, y, ms, rfl, vL, vw, fun H1 v s1 hv => ?_⟩
    refine ⟨_, rfl, v, ls, x, y, ms, rfl, hv, vL, vw, fun H2 s2 => ⟨_, rfl, iteF ⟨_, rfl, q _ _ (s1.trans s2) (hv.keep (Same.tk s2))⟩⟩⟩
end

/-! ### what a paper tells -/
def nxt (cs1 md : List PIC) (c : PIC) : List PIC := if c ∈ cs1 then md else if c ∈ md then md else md ++ [c]
def entE (cs1 md : List PIC) (c : PIC) : PyData := if c ∈ cs1 then .tuple [.str (Str.ofString "kept"), .int ((cs1.idxOf c : Nat) : Int)] else .tuple [.str (Str.ofString "made"), .int (((nxt cs1 md c).idxOf c : Nat) : Int)]
def papE (cs1 : List PIC) : List PIC → List PIC → List PyData
  | _, [] => []
  | md, c :: cs => entE cs1 md c :: papE cs1 (nxt cs1 md c) cs
def frs (cs1 : List PIC) : List PIC → List PIC → List PIC
  | md, [] => md
  | md, c :: cs => frs cs1 (nxt cs1 md c) cs
theorem frs_snoc {cs1 : List PIC} {c : PIC} : ∀ {cs md : List PIC}, frs cs1 md (cs ++ [c]) = nxt cs1 (frs cs1 md cs) c
  | [], _ => rfl
  | _ :: cs, _ => frs_snoc (cs := cs)
theorem papE_snoc {cs1 : List PIC} {c : PIC} : ∀ {cs md : List PIC}, papE cs1 md (cs ++ [c]) = papE cs1 md cs ++ [entE cs1 (frs cs1 md cs) c]
  | [], _ => rfl
  | d :: cs, md => by
    show entE cs1 md d :: papE cs1 _ (cs ++ [c]) = entE cs1 md d :: (papE cs1 _ cs ++ [_])
    rw [papE_snoc (cs := cs)]
    rfl
theorem papE_len {cs1 : List PIC} : ∀ {cs md : List PIC}, (papE cs1 md cs).length = cs.length
  | [], _ => rfl
  | _ :: cs, _ => congrArg (· + 1) (papE_len (cs := cs))
theorem nxt_no {cs1 md : List PIC} {c : PIC} (h : c ∉ cs1) (h2 : c ∉ md) : nxt cs1 md c = md ++ [c] := by
  unfold nxt
  rw [if_neg h, if_neg h2]
theorem nxt_in {cs1 md : List PIC} {c : PIC} (h2 : c ∈ md) : nxt cs1 md c = md := by
  unfold nxt
  rw [if_pos h2, ite_self]
theorem at_idx {c : PIC} : ∀ {l : List PIC}, c ∈ l → l[l.idxOf c]? = some c
  | [], h => by cases h
  | a :: t, h => by
    by_cases e : a = c
    · subst e
      simp [List.idxOf_cons]
    · have ht : c ∈ t := by
        rcases List.mem_cons.mp h with z | z
        · exact absurd z.symm e
        · exact z
      have : (a == c) = false := beq_eq_false_iff_ne.mpr e
      rw [List.idxOf_cons, this]
      exact at_idx ht
theorem nxt_kept {cs1 md : List PIC} {c : PIC} (h : c ∈ cs1) : nxt cs1 md c = md := by
  unfold nxt
  rw [if_pos h]
theorem idx_new {md : List PIC} {c : PIC} (h : c ∉ md) : (md ++ [c]).idxOf c = md.length := by
  rw [List.idxOf_append, if_neg h]
  simp
theorem nxt_le {cs1 md : List PIC} {c : PIC} : (nxt cs1 md c).length ≤ md.length + 1 := by
  unfold nxt
  split
  · exact Nat.le_succ _
  · split
    · exact Nat.le_succ _
    · rw [List.length_append]; exact Nat.le_refl _
theorem frs_le {cs1 : List PIC} : ∀ {cs md : List PIC}, (frs cs1 md cs).length ≤ md.length + cs.length
  | [], _ => Nat.le_refl _
  | c :: cs, md => by
    have h1 := frs_le (cs1 := cs1) (cs := cs) (md := nxt cs1 md c)
    have h2 := nxt_le (cs1 := cs1) (md := md) (c := c)
    rw [List.length_cons]
    show (frs cs1 (nxt cs1 md c) cs).length ≤ _
    omega
theorem mem_nxt {cs1 md : List PIC} {c d : PIC} : d ∈ nxt cs1 md c ↔ d ∈ md ∨ (d = c ∧ c ∉ cs1) := by
  unfold nxt
  by_cases h : c ∈ cs1
  · rw [if_pos h]
    exact ⟨.inl, fun z => z.elim id fun y => absurd h y.2⟩
  · rw [if_neg h]
    by_cases h2 : c ∈ md
    · rw [if_pos h2]
      exact ⟨.inl, fun z => z.elim id fun y => by rw [y.1]; exact h2⟩
    · rw [if_neg h2, List.mem_append, List.mem_singleton]
      exact ⟨fun z => z.imp id fun y => ⟨y, h⟩, fun z => z.imp id fun y => y.1⟩
theorem mem_frs {cs1 : List PIC} {d : PIC} : ∀ {cs md : List PIC}, d ∈ frs cs1 md cs ↔ d ∈ md ∨ (d ∈ cs ∧ d ∉ cs1)
  | [], md => ⟨.inl, fun z => z.elim id fun y => by cases y.1⟩
  | c :: cs, md => by
    show d ∈ frs cs1 (nxt cs1 md c) cs ↔ _
    rw [mem_frs (cs := cs), mem_nxt, List.mem_cons]
    constructor
    · rintro ((h | ⟨rfl, h⟩) | ⟨h1, h2⟩)
      · exact .inl h
      · exact .inr ⟨.inl rfl, h⟩
      · exact .inr ⟨.inr h1, h2⟩
    · rintro (h | ⟨rfl | h1, h2⟩)
      · exact .inl (.inl h)
      · exact .inl (.inr ⟨rfl, h2⟩)
      · exact .inr ⟨h1, h2⟩
theorem nxt_nd {cs1 md : List PIC} {c : PIC} (h : md.Nodup) : (nxt cs1 md c).Nodup := by
  unfold nxt
  split
  · exact h
  · split
    · exact h
    · rename_i h2
      rw [List.nodup_append]
      refine ⟨h, by simp, fun a ha b hb => ?_⟩
      rw [List.mem_singleton.mp hb]
      exact fun z => h2 (by rw [← z]; exact ha)
theorem frs_nd {cs1 : List PIC} : ∀ {cs md : List PIC}, md.Nodup → (frs cs1 md cs).Nodup
  | [], _, h => h
  | _ :: cs, _, h => frs_nd (cs := cs) (nxt_nd h)
/-- it is a paper -/
structure Bt (K : PySem.W.Frag) (D : Addr) (H H' : Hp) : Prop where
  k : TKeep K H H'
  s : ∀ b o, b ≠ D → H b = some o → H' b = some o
theorem Bt.rfl' {K : PySem.W.Frag} {D : Addr} {H : Hp} : Bt K D H H := ⟨fun _ _ h => h, fun _ _ _ h => h⟩
theorem Bt.trans {K : PySem.W.Frag} {D : Addr} {A B C : Hp} (a : Bt K D A B) (b : Bt K D B C) : Bt K D A C := ⟨fun _ _ h => b.k _ _ (a.k _ _ h), fun _ _ n h => b.s _ _ n (a.s _ _ n h)⟩
theorem Bt.of {K : PySem.W.Frag} {D : Addr} {H H' : Hp} (s : Same H H') : Bt K D H H' := ⟨Same.tk s, fun b o _ e => s b o e⟩
theorem Bt.up {K : PySem.W.Frag} {D : Addr} {H : Hp} {kvs : List (Key × V)} {o : HO} (e : H D = some (.dK kvs)) : Bt K D H (upd H D o) := ⟨tk_d e, fun b o n h => by rw [upd_ne n]; exact h⟩
def pcs (ls : List LY) (x y : Int) (ms : List MV) (n : Int) : List PIC := (List.range n.toNat).map fun i : Nat => pic ls x y ms (0 + (i : Int))
theorem pcs_len {ls : List LY} {x y : Int} {ms : List MV} {n : Int} : (pcs ls x y ms n).length = n.toNat := by
  unfold pcs
  rw [List.length_map, List.length_range]
/-- two sheets, valid, with as many layers -/
structure Pair8 (K : PySem.W.Frag) (H : Hp) (v u : V) (ls ls' : List LY) (x y x' y' : Int) (ms ms' : List MV) : Prop where
  a : ShAt K H v ls x y ms
  b : ShAt K H u ls' x' y' ms'
  va : VLays ls
  vb : VLays ls'
  wa : VWin x y ms
  wb : VWin x' y' ms'
  e : ls.length = ls'.length
theorem Pair8.keep {K : PySem.W.Frag} {H H' : Hp} {v u : V} {ls ls' : List LY} {x y x' y' : Int} {ms ms' : List MV} (h : Pair8 K H v u ls ls' x y x' y' ms ms') (s : TKeep K H H') : Pair8 K H' v u ls ls' x y x' y' ms ms' := ⟨h.a.keep s, h.b.keep s, h.va, h.vb, h.wa, h.wb, h.e⟩
/-- two sheets, valid -/
structure Pair7 (K : PySem.W.Frag) (H : Hp) (v u : V) (ls ls' : List LY) (x y x' y' : Int) (ms ms' : List MV) : Prop where
  a : ShAt K H v ls x y ms
  b : ShAt K H u ls' x' y' ms'
  va : VLays ls
  vb : VLays ls'
  wa : VWin x y ms
  wb : VWin x' y' ms'
theorem Pair8.p7 {K : PySem.W.Frag} {H : Hp} {v u : V} {ls ls' : List LY} {x y x' y' : Int} {ms ms' : List MV} (h : Pair8 K H v u ls ls' x y x' y' ms ms') : Pair7 K H v u ls ls' x y x' y' ms ms' := ⟨h.a, h.b, h.va, h.vb, h.wa, h.wb⟩
section
variable {P : Program} {w : World} {K : PySem.W.Frag} {mg : Str → Option Value} {base : Heap}
def sp_need_pair (K : PySem.W.Frag) (c : Nat → Addr) : Sp := fun vs H Q E => ∃ (v u : V) (ls ls' : List LY) (x y x' y' : Int) (ms ms' : List MV) (n : Int), vs = [v, u, .int n] ∧ Pair7 K H v u ls ls' x y x' y' ms ms' ∧ 0 ≤ n ∧ n ≤ 200 ∧ (ls.length = ls'.length → ∀ H', Same H H' → Q .non H') ∧ (ls.length ≠ ls'.length → ∀ H', Same H H' → E (.ref (c 7)) none H')
theorem ok_need_pair {f : Addr} {fd : FuncData} {c : Nat → Addr} {LE : Addr} (F : Fun K "need_pair" "need_pair" s_need_pair f fd) (T : Txt K mg) (TX : ExcN K mg c LE) (D_need_sheet : Cl P w K mg base 7 "need_sheet" ["thing"] (sp_need_sheet K)) (D_need_number : Cl P w K mg base 3 "need_number" ["thing", "least", "most"] (sp_need_number K)) (D_need_as_many_layers : ClX P w K mg base 1 "need_as_many_layers" ["one", "other"] (sp_need_as_many_layers K c)) : FnOk P w K mg base (L2.CX P w) 8 f fd ["one", "other", "many"] (sp_need_pair K c) := by
  refine F.okX sc_need_pair (fun vs H Q E h => ?_) (fun cdv A outer s H vs Q E hr h => ?_)
  · obtain ⟨v, u, ls, ls', x, y, x', y', ms, ms', n, rfl, _⟩ := h
    rfl
  · obtain ⟨v, u, ls, ls', x, y, x', y', ms, ms', n, rfl, h7, n0, n1, q1, q2⟩ := h
    refine ⟨_, (pss_cons (ps_expr (pe_own D_need_sheet (hr.mono (by omega)) (by rfl) (pa_cons (pv 0) pa_nil)))
      (pss_cons (ps_expr (pe_own D_need_sheet (hr.mono (by omega)) (by rfl) (pa_cons (pv 1) pa_nil)))
      (pss_cons (ps_expr (pe_own D_need_number (hr.mono (by omega)) (by rfl) (pa_cons (pv 2) (pa_cons pe_int (pa_cons (pe_gint (by rfl) T.c_MOST_PICTURES) pa_nil)))))
      (pss_one (ps_expr (pe_ownX D_need_as_many_layers (hr.mono (by omega)) (takes_of rfl rfl rfl rfl) (by rfl) (pa_cons (pv 0) (pa_cons (pv 1) pa_nil)))))))), ?_⟩
    refine ⟨_, rfl, v, ls, x, y, ms, rfl, h7.a, h7.va, h7.wa, fun H1 s1 => ?_⟩
    have k1 := Same.tk (K := K) s1
    refine ⟨_, rfl, u, ls', x', y', ms', rfl, h7.b.keep k1, h7.vb, h7.wb, fun H2 s2 => ?_⟩
    have s12 := s1.trans s2
    have k2 := Same.tk (K := K) s12
    refine ⟨_, rfl, n, 0, 200, rfl, n0, n1, ?_⟩
    exact ⟨_, rfl, _, rfl, v, u, ls, ls', x, y, x', y', ms, ms', rfl, h7.a.keep k2, h7.b.keep k2, fun e => q1 e _ s12, fun e => q2 e _ s12⟩
end

section
variable {P : Program} {w : World} {K : PySem.W.Frag} {mg : Str → Option Value} {base : Heap}
def sp_plates (K : PySem.W.Frag) : Sp := fun vs H Q _ => ∃ (v : V) (ls : List LY) (x y : Int) (ms : List MV) (n : Int), vs = [v, .int n] ∧ ShAt K H v ls x y ms ∧ VLays ls ∧ VWin x y ms ∧ 0 ≤ n ∧ n ≤ 200 ∧
  ∀ H' p us ps, Same H H' → H p = none → H' p = some (.lst us) → Paired (PicAt K H') us ps → IsPl ((List.range n.toNat).map fun i : Nat => pic ls x y ms (0 + (i : Int))) ps → ps.length ≤ 200 → Q (.ref p) H'
theorem ok_plates {f : Addr} {fd : FuncData} (F : Fun K "plates" "plates" s_plates f fd) (T : Txt K mg) (D_pictures_from : Cl P w K mg base 8 "pictures_from" ["sheet", "moment", "many"] (sp_pictures_from K)) : FnOk P w K mg base CX0 9 f fd ["sheet", "many"] (sp_plates K) := by
  refine F.ok sc_plates (fun vs H Q E h => ?_) (fun cdv A outer s H vs Q E hr h => ?_)
  · obtain ⟨v, ls, x, y, ms, n, rfl, _⟩ := h
    rfl
  · obtain ⟨v, ls, x, y, ms, n, rfl, hsh, vL, vw, n0, n1, q⟩ := h
    refine ⟨_, (pss_one (ps_ret (pe_callB (cr_sortN rfl hr.units) (by rfl) T.b_sorted (by decide +kernel) (pa_cons (pe_callTy (cr_setN rfl hr.units) (by rfl) T.b_set (by decide +kernel) (pa_cons (pe_own D_pictures_from (hr.mono (by omega)) (by rfl) (pa_cons (pv 0) (pa_cons pe_int (pa_cons (pv 1) pa_nil)))) pa_nil)) pa_nil)))), ?_⟩
    refine ⟨_, rfl, _, rfl, v, ls, x, y, ms, 0, n, rfl, hsh, vL, vw, by decide, by decide, n0, n1, fun H1 p us s1 np1 e1 pd1 => ?_⟩
    have lus := Paired.length pd1
    rw [List.length_map, List.length_range] at lus
    exact plates_q (.inl (.inl e1)) pd1 (by omega) fun H2 p2 us2 ps s2 np2 e2 pd2 ip lp => q _ p2 us2 ps (s1.trans s2) (s1.free np2) e2 pd2 ip lp
end

/-! ### the least paper, exact -/
theorem valN_app {a b : List (NestedKey × V)} {k : NestedKey} : valN (a ++ b) k = (valN a k).or (valN b k) := by
  unfold valN
  rw [List.find?_append]
  cases a.find? fun p => decide (p.1 = k) <;> rfl
/-- a dict that tells where each picture of a list stands first -/
def KvP (kvs : List (NestedKey × V)) (l : List PIC) : Prop := ∀ c, valN kvs (picK c) = if c ∈ l then some (.int ((l.idxOf c : Nat) : Int)) else none
theorem kvp_nil : KvP [] [] := fun c => by
  rw [if_neg (fun z => by cases z)]
  rfl
theorem KvP.some' {kvs : List (NestedKey × V)} {l : List PIC} (h : KvP kvs l) {c : PIC} {z : V} (e : valN kvs (picK c) = some z) : c ∈ l ∧ z = .int ((l.idxOf c : Nat) : Int) := by
  rw [h c] at e
  by_cases hc : c ∈ l
  · rw [if_pos hc] at e
    exact ⟨hc, (Option.some.inj e).symm⟩
  · rw [if_neg hc] at e
    cases e
theorem KvP.none' {kvs : List (NestedKey × V)} {l : List PIC} (h : KvP kvs l) {c : PIC} (e : valN kvs (picK c) = none) : c ∉ l := fun hc => by
  rw [h c, if_pos hc] at e
  cases e
theorem KvP.same {kvs : List (NestedKey × V)} {l : List PIC} {c : PIC} (h : KvP kvs l) (hc : c ∈ l) : KvP kvs (l ++ [c]) := fun d => by
  rw [h d]
  by_cases hd : d ∈ l
  · rw [if_pos hd, if_pos (List.mem_append_left _ hd), List.idxOf_append, if_pos hd]
  · rw [if_neg hd, if_neg]
    intro z
    rcases List.mem_append.mp z with z | z
    · exact hd z
    · rw [List.mem_singleton.mp z] at hd
      exact hd hc
theorem KvP.add {kvs : List (NestedKey × V)} {l : List PIC} {c : PIC} {n : Nat} (h : KvP kvs l) (hc : c ∉ l) (hn : n = l.length) : KvP (kvs ++ [(picK c, .int (n : Int))]) (l ++ [c]) := fun d => by
  rw [valN_app, h d]
  by_cases hd : d ∈ l
  · rw [if_pos hd, if_pos (List.mem_append_left _ hd), List.idxOf_append, if_pos hd]
    rfl
  · rw [if_neg hd, Option.none_or]
    by_cases e : d = c
    · subst e
      rw [if_pos (List.mem_append_right _ (List.mem_singleton.mpr rfl)), idx_new hc, ← hn]
      simp [valN]
    · rw [if_neg]
      · have : ¬ picK c = picK d := fun z => e (picK_inj z).symm
        simp [valN, this]
      · intro z
        rcases List.mem_append.mp z with z | z
        · exact hd z
        · exact e (List.mem_singleton.mp z)
theorem tk_next {cs : List PIC} {i : Nat} {c : PIC} (h : cs[i]? = some c) : cs.take (i + 1) = cs.take i ++ [c] := by rw [List.take_add_one, h]; rfl
/-- an entry of a paper that is told -/
def EntAt (K : PySem.W.Frag) (H : Hp) (v : V) (d : PyData) : Prop := ∃ (a : Addr) (X : Str) (k : Int), v = .ref a ∧ SqT K H a [.str X, .int k] ∧ d = .tuple [.str X, .int k] ∧ (X = Str.ofString "kept" ∨ X = Str.ofString "made") ∧ 0 ≤ k ∧ k ≤ 200
theorem EntAt.keep {K : PySem.W.Frag} {H H' : Hp} {v : V} {d : PyData} (t : TKeep K H H') : EntAt K H v d → EntAt K H' v d := fun ⟨a, X, k, e, h, r⟩ => ⟨a, X, k, e, t _ _ h, r⟩
/-- all stands but two -/
structure Bt2 (K : PySem.W.Frag) (D L : Addr) (H H' : Hp) : Prop where
  k : TKeep K H H'
  s : ∀ b o, b ≠ D → b ≠ L → H b = some o → H' b = some o
theorem Bt2.trans {K : PySem.W.Frag} {D L : Addr} {A B C : Hp} (a : Bt2 K D L A B) (b : Bt2 K D L B C) : Bt2 K D L A C := ⟨fun _ _ h => b.k _ _ (a.k _ _ h), fun _ _ n m h => b.s _ _ n m (a.s _ _ n m h)⟩
theorem Bt2.of {K : PySem.W.Frag} {D L : Addr} {H H' : Hp} (s : Same H H') : Bt2 K D L H H' := ⟨Same.tk s, fun b o _ _ e => s b o e⟩
theorem for_enumL {K : PySem.W.Frag} {a : Addr} {xs : List V} {g : TG} {tb : TS} {D : Ends} {σ : L2.St} {H : Hp} (Pv : Nat → L2.St → Hp → Prop) (h0 : Pv 0 σ H) (hl : ∀ i σ H, i ≤ xs.length → Pv i σ H → SqL K H a xs)
    (hs : ∀ (i : Nat) (x : V) (T : Addr) (σ : L2.St) (H : Hp), xs[i]? = some x → Pv i σ H → H T = none → g (.ref T) σ (upd H T (.tup [.int (i : Nat), x])) fun σ2 H2 => tb { D with nx := Pv (i + 1), ct := Pv (i + 1), bk := D.nx } σ2 H2) (hd : ∀ σ H, Pv xs.length σ H → D.nx σ H) :
    ∃ W : Nat → Nat → L2.St → Hp → Prop, (∃ m, W 0 m σ H) ∧ ∀ i m σ H, W i m σ H →
      ((Ite K a).stop i H ∧ D.nx σ H) ∨ ((Ite K a).go i H ∧ ∃ N : L2.St → Hp → Prop, (∀ σ' H', N σ' H' → ∃ m', m' < m ∧ W (i + 1) m' σ' H') ∧ ∀ x H', (Ite K a).yld i H x H' → g x σ H' fun σ2 H2 => tb { D with nx := N, ct := N, bk := D.nx } σ2 H2) := by
  refine ⟨fun i m σ H => m = xs.length - i ∧ i ≤ xs.length ∧ Pv i σ H, ⟨xs.length, by simp, Nat.zero_le _, h0⟩, fun i m σ H hW => ?_⟩
  obtain ⟨rfl, hi, p⟩ := hW
  have q := hl i σ H hi p
  rcases Nat.lt_or_ge i xs.length with lt | ge
  · refine .inr ⟨⟨xs, xs[i], q, by simp [lt]⟩, Pv (i + 1), fun σ' H' z => ⟨xs.length - (i + 1), by omega, rfl, by omega, z⟩, fun v H' hv => ?_⟩
    obtain ⟨T, x, rfl, nT, rfl, hx⟩ := hv
    exact hs i x T σ H (hx xs q) p nT
  · have e : i = xs.length := by omega
    subst e
    exact .inl ⟨⟨xs, q, Nat.le_refl _⟩, hd σ H p⟩
section
variable {P : Program} {w : World} {K : PySem.W.Frag} {mg : Str → Option Value} {base : Heap}
def sp_least_paper (K : PySem.W.Frag) (c : Nat → Addr) : Sp := fun vs H Q E => ∃ (v u : V) (ls ls' : List LY) (x y x' y' : Int) (ms ms' : List MV) (n : Int), vs = [v, u, .int n] ∧ Pair7 K H v u ls ls' x y x' y' ms ms' ∧ 0 ≤ n ∧ n ≤ 200 ∧ ((ls.length ≠ ls'.length ∧ ∀ H', Same H H' → E (.ref (c 7)) none H') ∨ (ls.length = ls'.length ∧ ∀ H' a xs, Same H H' → SqT K H' a xs → Paired (EntAt K H') xs (papE (pcs ls x y ms n) [] (pcs ls' x' y' ms' n)) → Q (.ref a) H'))
theorem ok_least_paper {f : Addr} {fd : FuncData} {c : Nat → Addr} {LE : Addr} (F : Fun K "least_paper" "least_paper" s_least_paper f fd) (T : Txt K mg) (TX : ExcN K mg c LE) (D_need_pair : ClX P w K mg base 8 "need_pair" ["one", "other", "many"] (sp_need_pair K c)) (D_pictures_of : Cl P w K mg base 6 "pictures_of" ["sheet", "moment", "many"] (sp_pictures_of K)) : FnOk P w K mg base (L2.CX P w) 9 f fd ["one", "other", "many"] (sp_least_paper K c) := by
  refine F.okX sc_least_paper (fun vs H Q E h => ?_) (fun cdv A outer s H vs Q E hr h => ?_)
  · obtain ⟨v, u, ls, ls', x, y, x', y', ms, ms', n, rfl, _⟩ := h
    rfl
  · obtain ⟨v, u, ls, ls', x, y, x', y', ms, ms', n, rfl, h7, n0, n1, q⟩ := h
    refine ⟨_, (pss_cons (ps_expr (pe_ownX D_need_pair (hr.mono (by omega)) (takes_of rfl rfl rfl rfl) (by rfl) (pa_cons (pv 0) (pa_cons (pv 1) (pa_cons (pv 2) pa_nil)))))
      (pss_cons (ps_set (i := 3) sc_least_paper.nd rfl (Or.inl rfl) pe_dnewK)
      (pss_cons (ps_for (passes_of rfl) rfl (pi_enum (by rfl) T.b_enumerate (pa_cons (pe_own D_pictures_of (hr.mono (by omega)) (by rfl) (pa_cons (pv 0) (pa_cons pe_int (pa_cons (pv 2) pa_nil)))) pa_nil)) (pg_tup (by rfl) (pgs_cons (pg_name (i := 4) sc_least_paper.nd rfl (Or.inl rfl)) (pgs_cons (pg_name (i := 5) sc_least_paper.nd rfl (Or.inl rfl)) pgs_nil)))
        (pss_one (ps_expr (pe_dsetN (units8 hr) (pv 3) (pv 5) (pv 4) ⟨rfl, rfl, rfl, rfl⟩))))
      (pss_cons (ps_set (i := 6) sc_least_paper.nd rfl (Or.inl rfl) pe_dnewK)
      (pss_cons (ps_set (i := 7) sc_least_paper.nd rfl (Or.inl rfl) (pe_lst pa_nil))
      (pss_cons (ps_for (passes_of rfl) rfl (pi_list (pe_own D_pictures_of (hr.mono (by omega)) (by rfl) (pa_cons (pv 1) (pa_cons pe_int (pa_cons (pv 2) pa_nil))))) (pg_name (i := 5) sc_least_paper.nd rfl (Or.inl rfl))
        (pss_one (ps_if (pt_cmpR (or_inN (units8' hr)) (pv 5) (pv 3) (by rfl)) (pss_one (ps_expr (pe_bm PySem.F.plainAttrs_list PySem.F.slot_list_append PySem.F.type_list_append mt_append (pv 7) (pa_cons (pe_tup (pa_cons pe_str (pa_cons (pe_ix (ix_N (units8' hr)) (pv 3) (pv 5) (fun _ _ => rfl)) pa_nil))) pa_nil)))) (pss_one (ps_expr (pe_bm PySem.F.plainAttrs_list PySem.F.slot_list_append PySem.F.type_list_append mt_append (pv 7) (pa_cons (pe_tup (pa_cons pe_str (pa_cons (pe_dsetN (units8 hr) (pv 6) (pv 5) (pe_callB call_lenN (by rfl) T.b_len (by decide +kernel) (pa_cons (pv 6) pa_nil)) ⟨rfl, rfl, rfl, rfl⟩) pa_nil))) pa_nil)))))))
      (pss_one (ps_ret (pe_callTy call_tuple_of (by rfl) T.b_tuple (by decide +kernel) (pa_cons (pv 7) pa_nil)))))))))), ?_⟩
    rcases q with ⟨ne, q⟩ | ⟨eq, q⟩
    · exact ⟨_, rfl, _, rfl, _, rfl, v, u, ls, ls', x, y, x', y', ms, ms', n, rfl, h7, n0, n1, fun e => absurd e ne, fun _ => q⟩
    have h8 : Pair8 K H v u ls ls' x y x' y' ms ms' := ⟨h7.a, h7.b, h7.va, h7.vb, h7.wa, h7.wb, eq⟩
    refine ⟨_, rfl, _, rfl, _, rfl, v, u, ls, ls', x, y, x', y', ms, ms', n, rfl, h7, n0, n1, fun _ H1 s1 => ?_, fun e => absurd eq e⟩
    obtain ⟨cs1, ecs1⟩ : ∃ cs1, pcs ls x y ms n = cs1 := ⟨_, rfl⟩
    obtain ⟨cs2, ecs2⟩ : ∃ cs2, pcs ls' x' y' ms' n = cs2 := ⟨_, rfl⟩
    have lc1 : cs1.length = n.toNat := by rw [← ecs1, pcs_len]
    have lc2 : cs2.length = n.toNat := by rw [← ecs2, pcs_len]
    rw [ecs1, ecs2] at q
    intro D nD
    have s12 := same_upd (o := .dK []) nD
    have eD : upd H1 D (.dK []) D = some (.dK []) := upd_same
    generalize upd H1 D (.dK []) = H2 at s12 eD ⊢
    have h82 := h8.keep (Same.tk (s1.trans s12))
    refine ⟨_, rfl, _, rfl, v, ls, x, y, ms, 0, n, rfl, h82.a, h82.va, h82.wa, by decide, by decide, n0, n1, fun H3 p vs3 s3 np3 e3 pd3 => ?_⟩
    have pd3 : Paired (PicAt K H3) vs3 cs1 := by rw [← ecs1]; exact pd3
    have lvs := Paired.length pd3
    rw [lc1] at lvs
    have s13 := (s1.trans s12).trans s3
    have eD3 := s3 _ _ eD
    have nDp : p ≠ D := fun z => by
      rw [← z, np3] at eD
      cases eD
    refine ⟨p, vs3, rfl, .inl (.inl e3), ?_⟩
    refine for_enumL (xs := vs3) (fun i σ H' => Bt K D H3 H' ∧ (∃ y4 y5, σ = [some v, some u, some (.int n), some (.ref D), y4, y5, none, none]) ∧ ∃ kvs, DictN P w K H' D kvs ∧ kvs.length ≤ i ∧ KvP kvs (cs1.take i) ∧ i ≤ 200)
      ⟨Bt.rfl', ⟨_, _, rfl⟩, [], .inl ⟨rfl, eD3⟩, Nat.le_refl _, kvp_nil, Nat.zero_le _⟩
      (fun i σ H' _ z => .inl (.inl (z.1.s _ _ nDp e3))) ?_ ?_
    · rintro i u1 T σ H5 hu1 ⟨t5, ⟨y4, y5, rfl⟩, kvs, dn, lk, kp, li⟩ nT
      obtain ⟨sT, eT⟩ := new_at (.tup [.int (i : Nat), u1]) nT
      generalize upd H5 T (.tup [.int (i : Nat), u1]) = H6 at sT eT ⊢
      have t6 := t5.trans (Bt.of (K := K) (D := D) sT)
      obtain ⟨c1, hc1, pc1⟩ := Paired.at pd3 hu1
      have pc6 := pc1.keep t6.k
      obtain ⟨b1, b2, b3, rfl, hb⟩ := id pc6
      have hi : i < vs3.length := (List.getElem?_eq_some_iff.mp hu1).1
      have dn6 := dn.same sT
      refine ⟨T, _, rfl, .inl (.inl eT), rfl, _, _, rfl, _, _, rfl, rfl, ?_⟩
      refine ⟨_, rfl, D, rfl, ⟨kvs, dn6⟩, _, rfl, _, rfl, b1, kvs, picK c1, rfl, dn6, by rw [picK_data]; exact pc6.dp, picK_depth, by omega, fun z hz => ?_, fun hn o tk dn7 => ?_⟩
      · exact ⟨t6, ⟨_, _, rfl⟩, kvs, dn6, by omega, by rw [tk_next hc1]; exact kp.same (kp.some' hz).1, by omega⟩
      · exact ⟨t6.trans ⟨tk, fun b o' n h => by rw [upd_ne n]; exact h⟩, ⟨_, _, rfl⟩, _, dn7, by rw [List.length_append]; exact Nat.succ_le_succ lk, by rw [tk_next hc1]; exact kp.add (kp.none' hn) (by rw [List.length_take]; omega), by omega⟩
    · rintro σ H5 ⟨t5, ⟨y4, y5, rfl⟩, kvs, dn, lk, kp, li⟩
      rw [List.take_of_length_le (by omega)] at kp
      have s15 : Same H1 H5 := fun b o e => t5.s _ _ (fun z => by
        rw [z, nD] at e
        cases e) (s3 _ _ (s12 _ _ e))
      intro D2 nD2
      have s56 := same_upd (o := .dK []) nD2
      have eD2 : upd H5 D2 (.dK []) D2 = some (.dK []) := upd_same
      generalize upd H5 D2 (.dK []) = H6 at s56 eD2 ⊢
      refine ⟨Nat.zero_le _, fun L nL => ?_⟩
      have s67 := same_upd (o := .lst []) nL
      have eL : upd H6 L (.lst []) L = some (.lst []) := upd_same
      generalize upd H6 L (.lst []) = H7 at s67 eL ⊢
      have s17 := (s15.trans s56).trans s67
      have h87 := h8.keep (Same.tk (s1.trans s17))
      have dn7 := (dn.same s56).same s67
      refine ⟨_, rfl, _, rfl, u, ls', x', y', ms', 0, n, rfl, h87.b, h87.vb, h87.wb, by decide, by decide, n0, n1, fun H8 p2 us8 s78 np8 e8 pd8 => ?_⟩
      have pd8 : Paired (PicAt K H8) us8 cs2 := by rw [← ecs2]; exact pd8
      have lus := Paired.length pd8
      rw [lc2] at lus
      have hx5 : ∀ {b : Addr} {o : HO}, H5 b = some o → b ≠ D2 := fun e z => by
        rw [z, nD2] at e
        cases e
      have nDD2 : D ≠ D2 := fun z => by
        rcases dn with ⟨_, e⟩ | ⟨xs, e, _⟩
        · exact hx5 e z
        · exact hx5 e z
      have hx6 : ∀ {b : Addr} {o : HO}, H6 b = some o → b ≠ L := fun e z => by
        rw [z, nL] at e
        cases e
      have nDL : D ≠ L := fun z => by
        rcases dn.same s56 with ⟨_, e⟩ | ⟨xs, e, _⟩
        · exact hx6 e z
        · exact hx6 e z
      have nD2L : D2 ≠ L := hx6 eD2
      have hx7 : ∀ {b : Addr} {o : HO}, H7 b = some o → p2 ≠ b := fun e z => by
        rw [← z, np8] at e
        cases e
      have np2D2 : p2 ≠ D2 := hx7 (s67 _ _ eD2)
      have np2L : p2 ≠ L := hx7 eL
      have fin : ∀ (i : Nat) (H9 : Hp) (kvs2 : List (NestedKey × V)) (ws : List V) (ds : List PyData) (X : Str) (j : Int) (p5 : Addr), Bt2 K D2 L H8 H9 → DictN P w K H9 D kvs → DictN P w K H9 D2 kvs2 → H9 L = some (.lst ws) → ws.length = i → Paired (EntAt K H9) ws ds → 0 ≤ j → j ≤ 200 → (X = Str.ofString "kept" ∨ X = Str.ofString "made") → H9 p5 = none →
          upd H9 p5 (.tup [.str X, .int j]) L = some (.lst ws) ∧ Bt2 K D2 L H8 (upd (upd H9 p5 (.tup [.str X, .int j])) L (.lst (ws ++ [.ref p5]))) ∧ DictN P w K (upd (upd H9 p5 (.tup [.str X, .int j])) L (.lst (ws ++ [.ref p5]))) D kvs ∧ DictN P w K (upd (upd H9 p5 (.tup [.str X, .int j])) L (.lst (ws ++ [.ref p5]))) D2 kvs2 ∧
            ∃ ws', upd (upd H9 p5 (.tup [.str X, .int j])) L (.lst (ws ++ [.ref p5])) L = some (.lst ws') ∧ ws'.length = i + 1 ∧ Paired (EntAt K (upd (upd H9 p5 (.tup [.str X, .int j])) L (.lst (ws ++ [.ref p5])))) ws' (ds ++ [.tuple [.str X, .int j]]) := by
        intro i H9 kvs2 ws ds X j p5 b2 d1 d2 e9 lw pw j0 j1 hX n5
        obtain ⟨sT, eT⟩ := new_at (.tup [.str X, .int j]) n5
        generalize upd H9 p5 (.tup [.str X, .int j]) = H10 at sT eT ⊢
        have e10 := sT _ _ e9
        have kL : TKeep K H10 (upd H10 L (.lst (ws ++ [.ref p5]))) := fun a xs h => tk_updL e10 _ _ h
        have tt : TKeep K H9 (upd H10 L (.lst (ws ++ [.ref p5]))) := fun a xs h => kL _ _ (Same.tk sT _ _ h)
        have up : ∀ {b : Addr} {o : HO}, b ≠ L → H9 b = some o → upd H10 L (.lst (ws ++ [.ref p5])) b = some o := fun nb e => by
          rw [upd_ne nb]
          exact sT _ _ e
        refine ⟨e10, b2.trans ⟨tt, fun b o _ nb e => up nb e⟩, d1.keep tt fun o e => up nDL e, d2.keep tt fun o e => up nD2L e, ws ++ [.ref p5], upd_same, by rw [List.length_append, lw]; rfl, ?_⟩
        exact Paired.snocP (Paired.mono pw fun _ _ z => z.keep tt) ⟨p5, X, j, rfl, kL _ _ (.inl (.inl eT)), rfl, hX, j0, j1⟩
      refine ⟨p2, rfl, ⟨_, .inl (.inl e8)⟩, ?_⟩
      refine for_list (xs := us8) (fun i σ H' => Bt2 K D2 L H8 H' ∧ (∃ y5, σ = [some v, some u, some (.int n), some (.ref D), y4, y5, some (.ref D2), some (.ref L)]) ∧ DictN P w K H' D kvs ∧ (∃ kvs2, DictN P w K H' D2 kvs2 ∧ kvs2.length = (frs cs1 [] (cs2.take i)).length ∧ KvP kvs2 (frs cs1 [] (cs2.take i))) ∧ ∃ ws, H' L = some (.lst ws) ∧ ws.length = i ∧ Paired (EntAt K H') ws (papE cs1 [] (cs2.take i)))
        ⟨Bt2.of (Same.refl _), ⟨_, rfl⟩, dn7.same s78, ⟨[], .inl ⟨rfl, s78 _ _ (s67 _ _ eD2)⟩, rfl, kvp_nil⟩, [], s78 _ _ eL, rfl, .nil⟩
        (fun i σ H' _ z => .inl (.inl (z.1.s _ _ np2D2 np2L e8))) ?_ ?_
      · rintro i u1 σ H9 hu1 ⟨b2, ⟨y6, rfl⟩, d1, ⟨kvs2, d2, lk2, kp2⟩, ws, e9, lw, pw⟩
        obtain ⟨c1, hc1, pc1⟩ := Paired.at pd8 hu1
        have pc9 := pc1.keep b2.k
        obtain ⟨b1, bb2, bb3, rfl, hb⟩ := id pc9
        have hi : i < us8.length := (List.getElem?_eq_some_iff.mp hu1).1
        have dk : Dp K H9 (.ref b1) (picK c1).data := by
          rw [picK_data]
          exact pc9.dp
        have lf : (frs cs1 [] (cs2.take i)).length ≤ i := by
          have := frs_le (cs1 := cs1) (cs := cs2.take i) (md := [])
          rw [List.length_take] at this
          simp at this
          omega
        rw [tk_next hc1, frs_snoc, papE_snoc]
        generalize frs cs1 [] (cs2.take i) = md at lk2 kp2 lf ⊢
        generalize papE cs1 [] (cs2.take i) = ds at pw ⊢
        refine ⟨_, rfl, _, rfl, b1, D, picK c1, kvs, rfl, rfl, d1, dk, picK_depth, _, rfl, ?_⟩
        cases hv : valN kvs (picK c1) with
        | some z =>
          refine iteT ?_
          obtain ⟨in1, rfl⟩ := kp.some' hv
          have lt1 := List.idxOf_lt_length_of_mem in1
          have ee : entE cs1 md c1 = .tuple [.str (Str.ofString "kept"), .int ((cs1.idxOf c1 : Nat) : Int)] := if_pos in1
          rw [ee, nxt_kept in1]
          refine ⟨_, rfl, .inl ⟨rfl, _, .inl (.inl e9)⟩, ?_⟩
          refine ⟨_, rfl, _, rfl, D, b1, picK c1, kvs, _, rfl, rfl, d1, dk, picK_depth, hv, (by show 2 ≤ sizeLine; decide), fun p5 n5 => ?_⟩
          obtain ⟨f1, f2, f3, f4, f5⟩ := fin i H9 kvs2 ws ds (Str.ofString "kept") ((cs1.idxOf c1 : Nat) : Int) p5 b2 d1 d2 e9 lw pw (by omega) (by omega) (.inl rfl) n5
          exact ⟨L, ws, _, rfl, rfl, f1, small1000 (by omega), f2, ⟨_, rfl⟩, f3, ⟨kvs2, f4, lk2, kp2⟩, f5⟩
        | none =>
          refine iteF ?_
          have out1 := kp.none' hv
          have ee : entE cs1 md c1 = .tuple [.str (Str.ofString "made"), .int (((nxt cs1 md c1).idxOf c1 : Nat) : Int)] := if_neg out1
          rw [ee]
          refine ⟨_, rfl, .inl ⟨rfl, _, .inl (.inl e9)⟩, ?_⟩
          refine ⟨_, rfl, D2, rfl, ⟨kvs2, d2⟩, _, rfl, _, rfl, D2, kvs2, rfl, d2, b1, kvs2, picK c1, rfl, d2, dk, picK_depth, by omega, fun z hz => ?_, fun hn o tk d2' => ?_⟩
          · obtain ⟨in2, rfl⟩ := kp2.some' hz
            have lt2 := List.idxOf_lt_length_of_mem in2
            rw [nxt_in in2]
            refine ⟨(by show 2 ≤ sizeLine; decide), fun p5 n5 => ?_⟩
            obtain ⟨f1, f2, f3, f4, f5⟩ := fin i H9 kvs2 ws ds (Str.ofString "made") ((md.idxOf c1 : Nat) : Int) p5 b2 d1 d2 e9 lw pw (by omega) (by omega) (.inr rfl) n5
            exact ⟨L, ws, _, rfl, rfl, f1, small1000 (by omega), f2, ⟨_, rfl⟩, f3, ⟨kvs2, f4, lk2, kp2⟩, f5⟩
          · have out2 := kp2.none' hn
            have b2' : Bt2 K D2 L H8 (upd H9 D2 o) := b2.trans ⟨tk, fun b o' n _ h => by rw [upd_ne n]; exact h⟩
            have e9' : upd H9 D2 o L = some (.lst ws) := by
              rw [upd_ne (Ne.symm nD2L)]
              exact e9
            have d1' : DictN P w K (upd H9 D2 o) D kvs := d1.keep tk fun o' h => by
              rw [upd_ne nDD2]
              exact h
            have pw' := Paired.mono pw fun _ _ z => EntAt.keep tk z
            have kp2' := kp2.add out2 lk2
            rw [nxt_no out1 out2, idx_new out2, ← lk2]
            refine ⟨(by show 2 ≤ sizeLine; decide), fun p5 n5 => ?_⟩
            obtain ⟨f1, f2, f3, f4, f5⟩ := fin i (upd H9 D2 o) _ ws ds (Str.ofString "made") kvs2.length p5 b2' d1' d2' e9' lw pw' (by omega) (by omega) (.inr rfl) n5
            exact ⟨L, ws, _, rfl, rfl, f1, small1000 (by omega), f2, ⟨_, rfl⟩, f3, ⟨_, f4, by rw [List.length_append, List.length_append, lk2]; rfl, kp2'⟩, f5⟩
      · rintro σ H9 ⟨b2, ⟨y6, rfl⟩, d1, _, ws, e9, lw, pw⟩
        rw [List.take_of_length_le (by omega)] at pw
        have s89 : Same H5 H9 := fun b o e => b2.s _ _ (hx5 e) (hx6 (s56 _ _ e)) (s78 _ _ (s67 _ _ (s56 _ _ e)))
        have sH9 := (s1.trans s15).trans s89
        refine ⟨_, rfl, L, ws, rfl, .inl ⟨.inl (.inl e9), fun l nl => ?_⟩⟩
        have sl := same_upd (o := .tup ws) nl
        exact q _ l ws (sH9.trans sl) (.inl (.inl upd_same)) (Paired.mono pw fun _ _ z => z.keep (Same.tk sl))
end

section
variable {P : Program} {w : World} {K : PySem.W.Frag} {mg : Str → Option Value} {base : Heap}
def sp__law_cell_at (K : PySem.W.Frag) : Sp := fun vs H Q _ => ∃ (a : Addr) (ns : List Int) (k : Int), vs = [.ref a, .int k] ∧ SqL K H a (ns.map V.int) ∧ 0 ≤ k ∧ ∀ c, Q (.int c) H
theorem ok__law_cell_at {f : Addr} {fd : FuncData} (F : Fun K "_law_cell_at" "_law_cell_at" s__law_cell_at f fd) (T : Txt K mg) : FnOk P w K mg base CX0 1 f fd ["_law_script", "_law_k"] (sp__law_cell_at K) := by
  refine F.ok sc__law_cell_at (fun vs H Q E h => ?_) (fun cdv A outer s H vs Q E hr h => ?_)
  · obtain ⟨a, ns, k, rfl, _⟩ := h
    rfl
  · obtain ⟨a, ns, k, rfl, hS, hk, q⟩ := h
    refine ⟨_, (pss_cons (ps_if (pt_cmpR op_lt (pv 1) (pe_callB call_len_seq (by rfl) T.b_len (by decide +kernel) (pa_cons (pv 0) pa_nil)) (nomark _)) (pss_one (ps_ret (pe_ix ix_list (pv 0) (pv 1) (fun _ _ => rfl)))) pss_nil)
      (pss_one (ps_ret pe_int))), ?_⟩
    refine ⟨_, rfl, _, rfl, a, _, rfl, .inl hS, k, _, rfl, rfl, _, rfl, ite2 (fun e => ?_) (fun _ => q 0)⟩
    have e1 : k < ((ns.map V.int).length : Int) := of_decide_eq_true e
    rw [List.length_map] at e1
    have hj : k.toNat < ns.length := by omega
    have g : (ns.map V.int)[k.toNat]? = some (.int ns[k.toNat]) := by
      rw [List.getElem?_map, List.getElem?_eq_getElem hj]
      rfl
    exact ⟨_, rfl, _, rfl, a, _, k, _, rfl, rfl, hS, at_of (j := k.toNat) (by omega) g, q _⟩
def sp__law_state (K : PySem.W.Frag) : Sp := fun vs H Q _ => ∃ (a : Addr) (ns : List Int) (k : Int), vs = [.ref a, .int k] ∧ SqL K H a (ns.map V.int) ∧ 0 ≤ k ∧ ∀ H' p, Same H H' → H p = none → IsSx H' p → Q (.ref p) H'
theorem ok__law_state {f : Addr} {fd : FuncData} (F : Fun K "_law_state" "_law_state" s__law_state f fd) (T : Txt K mg) (D__law_cell_at : Cl P w K mg base 1 "_law_cell_at" ["_law_script", "_law_k"] (sp__law_cell_at K)) : FnOk P w K mg base CX0 2 f fd ["_law_script", "_law_k"] (sp__law_state K) := by
  refine F.ok sc__law_state (fun vs H Q E h => ?_) (fun cdv A outer s H vs Q E hr h => ?_)
  · obtain ⟨a, ns, k, rfl, _⟩ := h
    rfl
  · obtain ⟨a, ns, k, rfl, hS, hk, q⟩ := h
    refine ⟨_, (pss_cons (ps_set (i := 2) sc__law_state.nd rfl (Or.inl rfl) (pe_own D__law_cell_at (hr.mono (by omega)) (by rfl) (pa_cons (pv 0) (pa_cons (pv 1) pa_nil))))
      (pss_cons (ps_if (pt_cmpR op_ge (pv 2) (pe_op op_pow pe_int pe_int) (nomark _)) (pss_one (ps_ret (pe_lst (pa_cons (pe_op op_sub (pv 2) (pe_op op_pow pe_int pe_int)) (pa_cons pe_bl pa_nil))))) pss_nil)
      (pss_one (ps_ret (pe_lst (pa_cons (pe_op op_modN (pv 2) pe_int) (pa_cons pe_bl pa_nil))))))), ?_⟩
    refine ⟨_, rfl, _, rfl, a, ns, k, rfl, hS, hk, fun c => ?_⟩
    refine ⟨_, rfl, 10, 18, rfl, rfl, ⟨by decide, by decide, by decide⟩, _, _, rfl, rfl, _, rfl, ite2 (fun e => ?_) (fun e => ?_)⟩
    · have e1 := of_decide_eq_true e
      refine ⟨_, rfl, 10, 18, rfl, rfl, ⟨by decide, by decide, by decide⟩, _, _, rfl, rfl, (by show 2 ≤ sizeLine; decide), fun p np => ?_⟩
      exact q _ p (same_upd np) np ⟨_, _, upd_same, by omega, fun z => Bool.noConfusion z⟩
    · refine ⟨_, rfl, _, _, rfl, rfl, (by show (2147483647 : Int) ≠ 0; decide), (by show 2 ≤ sizeLine; decide), fun p np => ?_⟩
      exact q _ p (same_upd np) np ⟨_, _, upd_same, (fm (by decide)).1, fun _ => (fm (by decide)).2⟩
def sp__law_take (K : PySem.W.Frag) : Sp := fun vs H Q _ => ∃ (st : Addr) (n : Int), vs = [.ref st, .int n] ∧ IsSx H st ∧ 0 < n ∧ n < 1073741824 ∧ ∀ r H', 0 ≤ r → r < n → Gx st H H' → Q (.int r) H'
theorem ok__law_take {f : Addr} {fd : FuncData} (F : Fun K "_law_take" "_law_take" s__law_take f fd) (T : Txt K mg) : FnOk P w K mg base CX0 1 f fd ["_law_state_here", "_law_many"] (sp__law_take K) := by
  refine F.ok sc__law_take (fun vs H Q E h => ?_) (fun cdv A outer s H vs Q E hr h => ?_)
  · obtain ⟨st, n, rfl, _⟩ := h
    rfl
  · obtain ⟨st, n, rfl, ⟨a, b, hs, ha, hb⟩, n0, n1, q⟩ := h
    refine ⟨_, (pss_cons (ps_if (pt_val (pe_ix ix_list (pv 0) pe_int (fun _ _ => rfl))) (pss_cons (ps_set (i := 2) sc__law_take.nd rfl (Or.inl rfl) (pe_op op_modN (pe_ix ix_list (pv 0) pe_int (fun _ _ => rfl)) (pv 1)))
      (pss_cons (ps_asg (pe_op op_fdivN (pe_ix ix_list (pv 0) pe_int (fun _ _ => rfl)) (pv 1)) (pg_sub (pv 0) pe_int set_list))
      (pss_one (ps_ret (pv 2))))) pss_nil)
      (pss_cons (ps_asg (pe_op op_modN (pe_op op_add (pe_op op_mul (pe_ix ix_list (pv 0) pe_int (fun _ _ => rfl)) pe_int) pe_int) pe_int) (pg_sub (pv 0) pe_int set_list))
      (pss_cons (ps_set (i := 3) sc__law_take.nd rfl (Or.inl rfl) (pe_op op_modN (pe_op op_add (pe_op op_add (pe_op op_mul (pe_ix ix_list (pv 0) pe_int (fun _ _ => rfl)) (pe_ix ix_list (pv 0) pe_int (fun _ _ => rfl))) (pe_op op_mul pe_int (pe_ix ix_list (pv 0) pe_int (fun _ _ => rfl)))) pe_int) pe_int))
      (pss_cons (ps_set (i := 3) sc__law_take.nd rfl (Or.inl rfl) (pe_op op_modN (pe_op op_add (pe_op op_mul (pv 3) (pv 3)) (pe_op op_mul pe_int (pv 3))) pe_int))
      (pss_one (ps_ret (pe_op op_modN (pe_op op_fdivN (pv 3) pe_int) (pv 1)))))))), ?_⟩
    refine ⟨_, rfl, st, _, 1, _, rfl, rfl, .inl (.inl hs), rfl, b, rfl, ?_⟩
    cases b with
    | true =>
      refine iteT ?_
      refine ⟨_, rfl, st, _, 0, _, rfl, rfl, .inl (.inl hs), rfl, _, rfl, a, n, rfl, rfl, by omega, ?_⟩
      refine ⟨_, rfl, st, _, 0, _, rfl, rfl, .inl (.inl hs), rfl, _, rfl, a, n, rfl, rfl, ⟨by omega, by omega⟩, _, rfl, st, _, 0, 0, rfl, rfl, hs, rfl, ?_⟩
      refine ⟨_, rfl, q _ _ (fm n0).1 (fm n0).2 (gx_set hs ?_ (fun z => Bool.noConfusion z))⟩
      rw [Int.fdiv_eq_ediv_of_nonneg _ (by omega)]
      exact Int.ediv_nonneg ha (by omega)
    | false =>
      have hb1 := hb rfl
      refine iteF ?_
      refine ⟨_, rfl, st, _, 0, _, rfl, rfl, .inl (.inl hs), rfl, a, 48271, rfl, rfl, .inl ⟨by omega, by omega⟩, _, _, rfl, rfl, _, _, rfl, rfl, (by show (2147483647 : Int) ≠ 0; decide), _, rfl, st, _, 0, 0, rfl, rfl, hs, rfl, ?_⟩
      dsimp only
      have f1 := fm (x := a * 48271 + 29) (m := 2147483647) (by decide)
      generalize (a * 48271 + 29).fmod 2147483647 = b1 at f1 ⊢
      obtain ⟨f1a, f1b⟩ := f1
      have hs1 : (upd H st (.lst [.int b1, .bl false])) st = some (.lst [.int b1, .bl false]) := upd_same
      refine ⟨_, rfl, st, _, 0, _, rfl, rfl, .inl (.inl hs1), rfl, _, rfl, st, _, 0, _, rfl, rfl, .inl (.inl hs1), rfl, b1, b1, rfl, rfl, .inl ⟨by omega, by omega⟩, _, rfl, st, _, 0, _, rfl, rfl, .inl (.inl hs1), rfl, 39373, b1, rfl, rfl, .inl ⟨by decide, by decide⟩, _, _, rfl, rfl, _, _, rfl, rfl, _, _, rfl, rfl, (by show (2147483629 : Int) ≠ 0; decide), ?_⟩
      dsimp only
      have f2 := fm (x := b1 * b1 + 39373 * b1 + 7) (m := 2147483629) (by decide)
      generalize (b1 * b1 + 39373 * b1 + 7).fmod 2147483629 = b2 at f2 ⊢
      obtain ⟨f2a, f2b⟩ := f2
      refine ⟨_, rfl, _, rfl, b2, b2, rfl, rfl, .inl ⟨by omega, by omega⟩, _, rfl, 16807, b2, rfl, rfl, .inl ⟨by decide, by decide⟩, _, _, rfl, rfl, _, _, rfl, rfl, (by show (2147483587 : Int) ≠ 0; decide), ?_⟩
      dsimp only
      generalize (b2 * b2 + 16807 * b2).fmod 2147483587 = b3
      refine ⟨_, rfl, b3, 8, rfl, rfl, ⟨by decide, by decide⟩, _, rfl, _, n, rfl, rfl, by omega, ?_⟩
      exact q _ _ (fm n0).1 (fm n0).2 (gx_set hs f1a (fun _ => f1b))
end

section
variable {P : Program} {w : World} {K : PySem.W.Frag} {mg : Str → Option Value} {base : Heap}
def sp__law_row (K : PySem.W.Frag) : Sp := fun vs H Q _ => ∃ (st : Addr), vs = [.ref st] ∧ IsSx H st ∧ ∀ (r : RW) (p : Addr) (H' : Hp), VRow r → Gx st H H' → H' p = some (.tup [.int r.1, .int r.2]) → Q (.ref p) H'
theorem ok__law_row {f : Addr} {fd : FuncData} (F : Fun K "_law_row" "_law_row" s__law_row f fd) (T : Txt K mg) (D__law_take : Cl P w K mg base 1 "_law_take" ["_law_state_here", "_law_many"] (sp__law_take K)) : FnOk P w K mg base CX0 2 f fd ["_law_state_here"] (sp__law_row K) := by
  refine F.ok sc__law_row (fun vs H Q E h => ?_) (fun cdv A outer s H vs Q E hr h => ?_)
  · obtain ⟨st, rfl, _⟩ := h
    rfl
  · obtain ⟨st, rfl, hs, q⟩ := h
    refine ⟨_, (pss_cons (ps_set (i := 1) sc__law_row.nd rfl (Or.inl rfl) (pe_ix ix_list (pe_lst (pa_cons (pe_own D__law_take (hr.mono (by omega)) (by rfl) (pa_cons (pv 0) (pa_cons pe_int pa_nil))) (pa_cons (pe_own D__law_take (hr.mono (by omega)) (by rfl) (pa_cons (pv 0) (pa_cons pe_int pa_nil))) pa_nil))) (pe_own D__law_take (hr.mono (by omega)) (by rfl) (pa_cons (pv 0) (pa_cons pe_int pa_nil))) (fun _ _ => rfl)))
      (pss_one (ps_ret (pe_tup (pa_cons (pv 1) (pa_cons (pe_op op_add pe_int (pe_own D__law_take (hr.mono (by omega)) (by rfl) (pa_cons (pv 0) (pa_cons (pe_ix ix_list (pe_lst (pa_cons pe_int (pa_cons pe_int (pa_cons pe_int pa_nil)))) (pe_own D__law_take (hr.mono (by omega)) (by rfl) (pa_cons (pv 0) (pa_cons pe_int pa_nil))) (fun _ _ => rfl)) pa_nil)))) pa_nil)))))), ?_⟩
    refine ⟨_, rfl, st, 10, rfl, hs, by decide, by decide, fun r1 H1 a1 b1 g1 => ?_⟩
    refine ⟨_, rfl, st, 3, rfl, g1.2.1 hs, by decide, by decide, fun r2 H2 a2 b2 g2 => ?_⟩
    have g12 := g1.trans g2
    refine ⟨(by show 2 ≤ sizeLine; decide), fun p np => ?_⟩
    obtain ⟨s3, e3⟩ := new_at (.lst [.int r1, .int r2]) np
    have np' := sx_ne (g12.2.1 hs) np
    generalize upd H2 p (.lst [.int r1, .int r2]) = H3 at s3 e3 ⊢
    have g13 := g12.trans (gx_same (st := st) s3)
    refine ⟨_, rfl, st, 2, rfl, g13.2.1 hs, by decide, by decide, fun r4 H4 a4 b4 g4 => ?_⟩
    have g14 := g13.trans g4
    obtain ⟨d, d0, d1, ed⟩ : ∃ d : Int, 0 ≤ d ∧ d ≤ 9 ∧ atI [V.int r1, .int r2] r4 = some (.int d) := by
      rcases (by omega : r4 = 0 ∨ r4 = 1) with e | e <;> subst e
      · exact ⟨r1, by omega, by omega, rfl⟩
      · exact ⟨r2, by omega, by omega, rfl⟩
    refine ⟨p, _, _, _, rfl, rfl, .inl (.inl (g4.1 _ _ np' lst_tbl e3)), ed, ?_⟩
    refine ⟨_, rfl, _, rfl, (by show 3 ≤ sizeLine; decide), fun p2 np2 => ?_⟩
    obtain ⟨s5, e5⟩ := new_at (.lst [.int 24, .int 3, .int 6]) np2
    have np2' := sx_ne (g14.2.1 hs) np2
    generalize upd H4 p2 (.lst [.int 24, .int 3, .int 6]) = H5 at s5 e5 ⊢
    have g15 := g14.trans (gx_same (st := st) s5)
    refine ⟨_, rfl, st, 3, rfl, g15.2.1 hs, by decide, by decide, fun r6 H6 a6 b6 g6 => ?_⟩
    have g16 := g15.trans g6
    obtain ⟨m, m0, m1, em⟩ : ∃ m : Int, 0 < m ∧ m ≤ 24 ∧ atI [V.int 24, .int 3, .int 6] r6 = some (.int m) := by
      rcases (by omega : r6 = 0 ∨ r6 = 1 ∨ r6 = 2) with e | e | e <;> subst e
      · exact ⟨24, by omega, by omega, rfl⟩
      · exact ⟨3, by omega, by omega, rfl⟩
      · exact ⟨6, by omega, by omega, rfl⟩
    refine ⟨p2, _, r6, _, rfl, rfl, .inl (.inl (g6.1 _ _ np2' lst_tbl e5)), em, st, m, rfl, g16.2.1 hs, m0, by omega, fun r7 H7 a7 b7 g7 => ?_⟩
    refine ⟨_, _, rfl, rfl, (by show 2 ≤ sizeLine; decide), fun p8 np8 => ?_⟩
    exact q (d, 1 + r7) p8 _ ⟨d0, d1, by show 1 ≤ 1 + r7; omega, by show 1 + r7 ≤ 24; omega⟩ ((g16.trans g7).trans (gx_same (same_upd np8))) upd_same
def sp__law_layer (K : PySem.W.Frag) : Sp := fun vs H Q _ => ∃ (st : Addr) (mo : Int) (en : Bool), vs = [.ref st, .int mo, .bl en] ∧ IsSx H st ∧ 0 ≤ mo ∧ mo ≤ 8 ∧
  ∀ (v : V) (l : LY) (H' : Hp), Gx st H H' → LyAt K H' v l → VLy l → (l.1.length : Int) ≤ mo → (en = true → l.2 = none) → Q v H'
theorem ok__law_layer {f : Addr} {fd : FuncData} (F : Fun K "_law_layer" "_law_layer" s__law_layer f fd) (T : Txt K mg) (D__law_row : Cl P w K mg base 2 "_law_row" ["_law_state_here"] (sp__law_row K)) (D__law_take : Cl P w K mg base 1 "_law_take" ["_law_state_here", "_law_many"] (sp__law_take K)) : FnOk P w K mg base CX0 3 f fd ["_law_state_here", "_law_most", "_law_ended"] (sp__law_layer K) := by
  refine F.ok sc__law_layer (fun vs H Q E h => ?_) (fun cdv A outer s H vs Q E hr h => ?_)
  · obtain ⟨st, mo, en, rfl, _⟩ := h
    rfl
  · obtain ⟨st, mo, en, rfl, hs, mo0, mo1, q⟩ := h
    refine ⟨_, (pss_cons (ps_set (i := 3) sc__law_layer.nd rfl (Or.inl rfl) (pe_callTy call_tuple_of (by rfl) T.b_tuple (by decide +kernel) (pa_cons (pe_lc (own := [("_law_turn", 6)]) (g := (gName 6)) (tt := tYes) (by rfl) sc__law_layer.nd (pi_range1 (by rfl) T.b_range (pa_cons (pe_own D__law_take (hr.mono (by omega)) (by rfl) (pa_cons (pv 0) (pa_cons (pe_op op_add (pv 1) pe_int) pa_nil))) pa_nil)) (blkOk_by (own := [("_law_turn", 6)]) (N := ["_law_state_here", "_law_most", "_law_ended", "_law_rows", "_law_way", "_law_back", "_law_turn"]) (sc := defScope s__law_layer) (by decide +kernel)) (fun _ _ _ _ _ => (pg_name (i := 6) sc__law_layer.nd rfl (Or.inl rfl))) (fun _ _ _ _ _ => pts_nil) (fun _ _ _ _ _ => (pe_own D__law_row (hr.mono (by omega)) (by rfl) (pa_cons (pv 0) pa_nil)))) pa_nil)))
      (pss_cons (ps_par (i := 4) (j := 5) (by rfl) sc__law_layer.nd rfl rfl (by decide) rfl rfl (pa_cons (pe_own D__law_take (hr.mono (by omega)) (by rfl) (pa_cons (pv 0) (pa_cons pe_int pa_nil))) (pa_cons (pe_own D__law_take (hr.mono (by omega)) (by rfl) (pa_cons (pv 0) (pa_cons (pe_callB (call_max2 rfl) (by rfl) T.b_max (by decide +kernel) (pa_cons pe_int (pa_cons (pe_callB call_len_seq (by rfl) T.b_len (by decide +kernel) (pa_cons (pv 3) pa_nil)) pa_nil))) pa_nil))) pa_nil)) (by rfl))
      (pss_one (ps_ret (pe_tup (pa_cons (pv 3) (pa_cons (pe_ifExp (PW.pt (pw_or (pt_truth (pv 2) (by intro _; rfl)) (pw_or (pt_cmpR (op_eqD hr.units) (pv 3) (pe_tup pa_nil) (nomark _)) (pw_or1 (pt_cmpR op_eq (pv 4) pe_int (nomark _)))))) pe_non (pv 5)) pa_nil))))))), ?_⟩
    refine ⟨_, rfl, _, rfl, mo, 1, rfl, rfl, st, mo + 1, rfl, hs, by omega, by omega, fun mn H1 m0 m1 g1 => ?_⟩
    have hs1 := g1.2.1 hs
    refine ⟨mn, rfl, by omega, by omega, fun D hD => ?_⟩
    have nD := sx_ne hs1 hD
    have gD : Gx st H1 (upd H1 D (.lst [])) := gx_same (same_upd hD)
    refine lc_range (lo := 0) (n := mn.toNat) (fun i H' => Gx st H1 H' ∧ ∃ (vs : List V) (rs : List RW), H' D = some (.lst vs) ∧ vs.length = i ∧ Paired (RowAt K H') vs rs ∧ ∀ r ∈ rs, VRow r)
      ⟨gD, [], [], upd_same, rfl, .nil, fun r hr => by cases hr⟩ (fun i H7 hi p7 => ?_) (fun H7 p7 => ?_)
    · obtain ⟨g7, vs, rs, hL, hlen, pd, vr⟩ := p7
      refine ⟨rfl, yes_ok ⟨_, rfl, st, rfl, g7.2.1 hs1, fun r p8 H8 vr8 g8 e8 => ?_⟩⟩
      have hL8 := g8.1 D _ nD lst_tbl hL
      refine ⟨vs, hL8, small1000 (by omega), gx_upd (g7.trans g8) hD nD hL8 _, vs ++ [.ref p8], rs ++ [r], upd_same, ?_, ?_, ?_⟩
      · rw [List.length_append, hlen]
        rfl
      · have k1 : TKeep K H7 (upd H8 D (.lst (vs ++ [.ref p8]))) := fun a xs h => tk_updL hL8 _ _ (g8.sqT (g7.2.1 hs1) h)
        exact Paired.snocP (Paired.mono pd fun _ _ => RowAt.keep k1) ⟨p8, rfl, tk_updL hL8 _ _ (.inl (.inl e8))⟩
      · intro x hx
        rcases List.mem_append.mp hx with z | z
        · exact vr x z
        · rw [List.mem_singleton.mp z]
          exact vr8
    obtain ⟨g7, vs, rs, hL, hlen, pd, vr⟩ := p7
    have hl : vs.length = rs.length := Paired.length pd
    refine ⟨D, vs, rfl, .inl ⟨.inl (.inl hL), fun l nl => ?_⟩⟩
    obtain ⟨s8, e8⟩ := new_at (.tup vs) nl
    generalize upd H7 l (.tup vs) = H8 at s8 e8 ⊢
    have g8 := (g1.trans g7).trans (gx_same (st := st) s8)
    have hr8 : RowsAt K H8 (.ref l) rs := ⟨l, vs, rfl, .inl (.inl e8), Paired.mono pd fun _ _ => RowAt.keep (Same.tk s8)⟩
    refine ⟨_, rfl, st, 2, rfl, g8.2.1 hs, by decide, by decide, fun wy H9 w0 w1 g9 => ?_⟩
    have g19 := g8.trans g9
    have hr9 := hr8.keep (g9.tk (g8.2.1 hs))
    obtain ⟨l', vs', el, hq9, pd9⟩ := id hr9
    cases el
    have hl9 : vs'.length = rs.length := Paired.length pd9
    refine ⟨_, rfl, _, rfl, l, vs', rfl, .inr hq9, _, _, rfl, ?_⟩
    obtain ⟨mx, x0, x1, x2, ex⟩ : ∃ m : Int, 1 ≤ m ∧ m ≤ 8 ∧ (0 < rs.length → m = (rs.length : Int)) ∧ (if (vs'.length : Int) > 1 then (vs'.length : Int) else 1) = m := by
      refine ⟨_, ?_, ?_, ?_, rfl⟩ <;> split <;> omega
    rw [ex]
    refine ⟨st, mx, rfl, g19.2.1 hs, by omega, by omega, fun bk H10 b0 b1 g10 => ⟨_, _, rfl, ?_⟩⟩
    have g110 := g19.trans g10
    have hr10 := hr9.keep (g10.tk (g19.2.1 hs))
    have vR : VRows rs := ⟨by omega, vr⟩
    have done : ∀ (o : Option Int) (H11 : Hp), Same H10 H11 → VBack rs o → (en = true → o = none) → ∀ p, H11 p = none → Q (.ref p) (upd H11 p (.tup [.ref l, bkV o])) := fun o H11 s11 vb he p np => by
      have sp' := same_upd (o := .tup [.ref l, bkV o]) np
      exact q _ (rs, o) _ ((g110.trans (gx_same s11)).trans (gx_same sp')) ⟨p, _, rfl, .inl (.inl upd_same), hr10.keep (Same.tk (s11.trans sp'))⟩ ⟨vR, vb⟩ (by show (rs.length : Int) ≤ mo; omega) he
    refine ⟨_, rfl, _, rfl, _, rfl, ?_⟩
    cases en with
    | true => exact iteT (iteT ⟨(by show 2 ≤ sizeLine; decide), done none H10 (Same.refl _) (fun i e => nomatch e) (fun _ => rfl)⟩)
    | false =>
      refine iteF ⟨_, rfl, (by show 0 ≤ sizeLine; decide), fun t nt => ?_⟩
      obtain ⟨s11, e11⟩ := new_at (.tup []) nt
      generalize upd H10 t (.tup []) = H11 at s11 e11 ⊢
      have dr : Dp K H11 (.ref l) (.tuple (rs.map rwD)) := by
        obtain ⟨l2, vs2, e2, hq2, pd2⟩ := hr10.keep (Same.tk s11)
        cases e2
        exact .tup hq2 (dpAll_of (fun _ _ h => h.dp) pd2)
      refine eq_data (k := 2) dr (.tup (.inl (.inl e11)) .nil) (Sd.tup fun e he => ?_) (Sd.tup fun e he => by cases he) (by decide) fun b hb => ⟨_, rfl, ?_⟩
      · obtain ⟨r, _, rfl⟩ := List.mem_map.mp he
        exact sd_rw r
      cases b with
      | true => exact iteT (iteT ⟨(by show 2 ≤ sizeLine; decide), done none H11 s11 (fun i e => nomatch e) (fun _ => rfl)⟩)
      | false =>
        have ne : 0 < rs.length := by
          rcases Nat.eq_zero_or_pos rs.length with z | z
          · exfalso
            rw [List.length_eq_zero_iff.mp z] at hb
            exact Bool.noConfusion (hb.mpr rfl)
          · exact z
        have := x2 ne
        refine iteF ⟨_, rfl, rfl, _, rfl, ite2 (fun e => ?_) (fun e => ?_)⟩
        · exact ⟨(by show 2 ≤ sizeLine; decide), done none H11 s11 (fun i e => nomatch e) (fun _ => rfl)⟩
        · exact ⟨_, rfl, (by show 2 ≤ sizeLine; decide), done (some bk) H11 s11 (fun i e => by cases e; exact ⟨b0, by omega⟩) (fun z => Bool.noConfusion z)⟩
end

section
variable {P : Program} {w : World} {K : PySem.W.Frag} {mg : Str → Option Value} {base : Heap}
def sp__law_window (K : PySem.W.Frag) : Sp := fun vs H Q _ => ∃ (st : Addr) (mo : Int), vs = [.ref st, .int mo] ∧ IsSx H st ∧ 0 ≤ mo ∧ mo ≤ 8 ∧
  ∀ (v : V) (x y : Int) (ms : List MV) (H' : Hp), Gx st H H' → WinAt K H' v x y ms → VWin x y ms → (ms.length : Int) ≤ mo → Q v H'
theorem ok__law_window {f : Addr} {fd : FuncData} (F : Fun K "_law_window" "_law_window" s__law_window f fd) (T : Txt K mg) (D__law_take : Cl P w K mg base 1 "_law_take" ["_law_state_here", "_law_many"] (sp__law_take K)) : FnOk P w K mg base CX0 2 f fd ["_law_state_here", "_law_most"] (sp__law_window K) := by
  refine F.ok sc__law_window (fun vs H Q E h => ?_) (fun cdv A outer s H vs Q E hr h => ?_)
  · obtain ⟨st, mo, rfl, _⟩ := h
    rfl
  · obtain ⟨st, mo, rfl, hs, mo0, mo1, q⟩ := h
    refine ⟨_, (pss_cons (ps_set (i := 2) sc__law_window.nd rfl (Or.inl rfl) (pe_lst pa_nil))
      (pss_cons (ps_for PassesOwn.never rfl (pi_range1 (by rfl) T.b_range (pa_cons (pe_own D__law_take (hr.mono (by omega)) (by rfl) (pa_cons (pv 0) (pa_cons (pe_op op_add (pv 1) pe_int) pa_nil))) pa_nil)) (pg_name (i := 3) sc__law_window.nd rfl (Or.inl rfl))
        (pss_cons (ps_set (i := 4) sc__law_window.nd rfl (Or.inl rfl) (pe_ix ix_list (pe_lst (pa_cons (pe_own D__law_take (hr.mono (by omega)) (by rfl) (pa_cons (pv 0) (pa_cons pe_int pa_nil))) (pa_cons (pe_own D__law_take (hr.mono (by omega)) (by rfl) (pa_cons (pv 0) (pa_cons pe_int pa_nil))) pa_nil))) (pe_own D__law_take (hr.mono (by omega)) (by rfl) (pa_cons (pv 0) (pa_cons pe_int pa_nil))) (fun _ _ => rfl)))
      (pss_one (ps_expr (pe_bm PySem.F.plainAttrs_list PySem.F.slot_list_append PySem.F.type_list_append mt_append (pv 2) (pa_cons (pe_tup (pa_cons (pe_op op_sub (pe_own D__law_take (hr.mono (by omega)) (by rfl) (pa_cons (pv 0) (pa_cons pe_int pa_nil))) pe_int) (pa_cons (pe_op op_sub (pe_own D__law_take (hr.mono (by omega)) (by rfl) (pa_cons (pv 0) (pa_cons pe_int pa_nil))) pe_int) (pa_cons (pv 4) pa_nil)))) pa_nil))))))
      (pss_one (ps_ret (pe_tup (pa_cons (pe_op op_sub (pe_own D__law_take (hr.mono (by omega)) (by rfl) (pa_cons (pv 0) (pa_cons pe_int pa_nil))) pe_int) (pa_cons (pe_op op_sub (pe_own D__law_take (hr.mono (by omega)) (by rfl) (pa_cons (pv 0) (pa_cons pe_int pa_nil))) pe_int) (pa_cons (pe_callTy call_tuple_of (by rfl) T.b_tuple (by decide +kernel) (pa_cons (pv 2) pa_nil)) pa_nil)))))))), ?_⟩
    refine ⟨Nat.zero_le _, fun F nF => ?_⟩
    have nFs := sx_ne hs nF
    have gF : Gx st H (upd H F (.lst [])) := gx_same (same_upd nF)
    have eF : (upd H F (.lst [])) F = some (.lst []) := upd_same
    generalize upd H F (.lst []) = H0 at gF eF ⊢
    have hs0 := gF.2.1 hs
    refine ⟨_, rfl, _, rfl, mo, 1, rfl, rfl, st, mo + 1, rfl, hs0, by omega, by omega, fun mn H1 m0 m1 g1 => ?_⟩
    have g01 := gF.trans g1
    refine ⟨mn, rfl, by omega, by omega, ?_⟩
    refine for_range (lo := 0) (n := mn.toNat) (fun i σ H' => Gx st H H' ∧ ∃ (y3 y4 : Option V) (vs : List V) (ms : List MV), σ = [some (.ref st), some (.int mo), some (.ref F), y3, y4] ∧ H' F = some (.lst vs) ∧ vs.length = i ∧ Paired (MoveAt K H') vs ms ∧ ∀ m ∈ ms, VMove m)
      ⟨g01, _, _, [], [], rfl, g1.1 _ _ nFs lst_tbl eF, rfl, .nil, fun m hm => by cases hm⟩ ?_ ?_
    · rintro i σ H2 hi ⟨g2, y3, y4, vs, ms, rfl, hF, hlen, pd, vm⟩
      have hs2 := g2.2.1 hs
      refine ⟨_, rfl, st, 25, rfl, hs2, by decide, by decide, fun r3 H3 a3 b3 g3 => ⟨_, rfl, st, 4, rfl, g3.2.1 hs2, by decide, by decide, fun r4 H4 a4 b4 g4 => ?_⟩⟩
      have g34 := g3.trans g4
      refine ⟨(by show 2 ≤ sizeLine; decide), fun p np => ?_⟩
      obtain ⟨s5, e5⟩ := new_at (.lst [.int r3, .int r4]) np
      have np' := sx_ne (g34.2.1 hs2) np
      generalize upd H4 p (.lst [.int r3, .int r4]) = H5 at s5 e5 ⊢
      have g35 := g34.trans (gx_same (st := st) s5)
      refine ⟨_, rfl, st, 2, rfl, g35.2.1 hs2, by decide, by decide, fun r6 H6 a6 b6 g6 => ?_⟩
      have g36 := g35.trans g6
      obtain ⟨n, n0, n1, en⟩ : ∃ n : Int, 0 ≤ n ∧ n ≤ 24 ∧ atI [V.int r3, .int r4] r6 = some (.int n) := by
        rcases (by omega : r6 = 0 ∨ r6 = 1) with e | e <;> subst e
        · exact ⟨r3, by omega, by omega, rfl⟩
        · exact ⟨r4, by omega, by omega, rfl⟩
      refine ⟨p, _, _, _, rfl, rfl, .inl (.inl (g6.1 _ _ np' lst_tbl e5)), en, ?_⟩
      refine ⟨_, rfl, .inl ⟨rfl, _, .inl (.inl (g36.1 _ _ nFs lst_tbl hF))⟩, ?_⟩
      refine ⟨_, rfl, st, 41, rfl, g36.2.1 hs2, by decide, by decide, fun r7 H7 a7 b7 g7 => ⟨_, _, rfl, rfl, ?_⟩⟩
      have g37 := g36.trans g7
      refine ⟨_, rfl, st, 41, rfl, g37.2.1 hs2, by decide, by decide, fun r8 H8 a8 b8 g8 => ⟨_, _, rfl, rfl, _, rfl, (by show 3 ≤ sizeLine; decide), fun q9 nq9 => ?_⟩⟩
      have g38 := g37.trans g8
      obtain ⟨s9, e9⟩ := new_at (.tup [.int (r7 - 20), .int (r8 - 20), .int n]) nq9
      generalize upd H8 q9 (.tup [.int (r7 - 20), .int (r8 - 20), .int n]) = H9 at s9 e9 ⊢
      have g39 := g38.trans (gx_same (st := st) s9)
      have hF9 := g39.1 _ _ nFs lst_tbl hF
      refine ⟨F, _, _, rfl, rfl, hF9, small1000 (by omega), ?_⟩
      have k1 : TKeep K H2 (upd H9 F (.lst (vs ++ [.ref q9]))) := fun a xs h => tk_updL hF9 _ _ (g39.sqT hs2 h)
      refine ⟨gx_upd (g2.trans g39) nF nFs hF9 _, _, _, vs ++ [.ref q9], ms ++ [(r7 - 20, r8 - 20, n)], rfl, upd_same, ?_, ?_, ?_⟩
      · rw [List.length_append, hlen]
        rfl
      · exact Paired.snocP (Paired.mono pd fun _ _ => MoveAt.keep k1) ⟨q9, rfl, tk_updL hF9 _ _ (.inl (.inl e9))⟩
      · intro x hx
        rcases List.mem_append.mp hx with z | z
        · exact vm x z
        · rw [List.mem_singleton.mp z]
          refine ⟨⟨?_, ?_⟩, ⟨?_, ?_⟩, n0, n1⟩
          · show -20 ≤ r7 - 20; omega
          · show r7 - 20 ≤ 20; omega
          · show -20 ≤ r8 - 20; omega
          · show r8 - 20 ≤ 20; omega
    · rintro σ H2 ⟨g2, y3, y4, vs, ms, rfl, hF, hlen, pd, vm⟩
      have hs2 := g2.2.1 hs
      have hl : vs.length = ms.length := Paired.length pd
      refine ⟨_, rfl, st, 41, rfl, hs2, by decide, by decide, fun r3 H3 a3 b3 g3 => ⟨_, _, rfl, rfl, ?_⟩⟩
      refine ⟨_, rfl, st, 41, rfl, g3.2.1 hs2, by decide, by decide, fun r4 H4 a4 b4 g4 => ⟨_, _, rfl, rfl, ?_⟩⟩
      have g34 := g3.trans g4
      have hF4 := g34.1 _ _ nFs lst_tbl hF
      refine ⟨_, rfl, F, vs, rfl, .inl ⟨.inl (.inl hF4), fun l nl => ?_⟩⟩
      obtain ⟨s5, e5⟩ := new_at (.tup vs) nl
      generalize upd H4 l (.tup vs) = H5 at s5 e5 ⊢
      refine ⟨(by show 3 ≤ sizeLine; decide), fun p6 np6 => ?_⟩
      have s6 := same_upd (o := .tup [.int (r3 - 20), .int (r4 - 20), .ref l]) np6
      have k : TKeep K H2 (upd H5 p6 (.tup [.int (r3 - 20), .int (r4 - 20), .ref l])) := (g34.trans (gx_same (st := st) (s5.trans s6))).tk hs2
      refine q _ (r3 - 20) (r4 - 20) ms _ ((g2.trans g34).trans (gx_same (s5.trans s6))) ⟨p6, _, rfl, .inl (.inl upd_same), l, vs, rfl, .inl (.inl (s6 _ _ e5)), Paired.mono pd fun _ _ => MoveAt.keep k⟩ ⟨⟨by omega, by omega⟩, ⟨by omega, by omega⟩, by omega, vm⟩ (by omega)
def sp__law_sheet (K : PySem.W.Frag) : Sp := fun vs H Q _ => ∃ (st : Addr) (n mo : Int) (en : Bool), vs = [.ref st, .int n, .int mo, .bl en] ∧ IsSx H st ∧ 1 ≤ n ∧ n ≤ 4 ∧ 0 ≤ mo ∧ mo ≤ 8 ∧
  ∀ (v : V) (ls : List LY) (x y : Int) (ms : List MV) (H' : Hp), Gx st H H' → ShAt K H' v ls x y ms → VLays ls → VWin x y ms → (ls.length : Int) = n → (∀ l ∈ ls, (l.1.length : Int) ≤ mo) → (ms.length : Int) ≤ mo → (en = true → ∀ l ∈ ls, l.2 = none) → Q v H'
theorem ok__law_sheet {f : Addr} {fd : FuncData} (F : Fun K "_law_sheet" "_law_sheet" s__law_sheet f fd) (T : Txt K mg) (D__law_window : Cl P w K mg base 2 "_law_window" ["_law_state_here", "_law_most"] (sp__law_window K)) (D__law_layer : Cl P w K mg base 3 "_law_layer" ["_law_state_here", "_law_most", "_law_ended"] (sp__law_layer K)) : FnOk P w K mg base CX0 4 f fd ["_law_state_here", "_law_layers", "_law_most", "_law_ended"] (sp__law_sheet K) := by
  refine F.ok sc__law_sheet (fun vs H Q E h => ?_) (fun cdv A outer s H vs Q E hr h => ?_)
  · obtain ⟨st, n, mo, en, rfl, _⟩ := h
    rfl
  · obtain ⟨st, n, mo, en, rfl, hs, n1, n4, mo0, mo8, q⟩ := h
    refine ⟨_, (pss_one (ps_ret (pe_tup (pa_cons (pe_callTy call_tuple_of (by rfl) T.b_tuple (by decide +kernel) (pa_cons (pe_lc (own := [("_law_turn", 4)]) (g := (gName 4)) (tt := tYes) (by rfl) sc__law_sheet.nd (pi_range1 (by rfl) T.b_range (pa_cons (pv 1) pa_nil)) (blkOk_by (own := [("_law_turn", 4)]) (N := ["_law_state_here", "_law_layers", "_law_most", "_law_ended", "_law_turn"]) (sc := defScope s__law_sheet) (by decide +kernel)) (fun _ _ _ _ _ => (pg_name (i := 4) sc__law_sheet.nd rfl (Or.inl rfl))) (fun _ _ _ _ _ => pts_nil) (fun _ _ _ _ _ => (pe_own D__law_layer (hr.mono (by omega)) (by rfl) (pa_cons (pv 0) (pa_cons (pv 2) (pa_cons (pv 3) pa_nil)))))) pa_nil)) (pa_cons (pe_own D__law_window (hr.mono (by omega)) (by rfl) (pa_cons (pv 0) (pa_cons (pv 2) pa_nil))) pa_nil))))), ?_⟩
    refine ⟨_, rfl, n, rfl, by omega, by omega, fun D hD => ?_⟩
    have nD := sx_ne hs hD
    refine lc_range (lo := 0) (n := n.toNat) (fun i H' => Gx st H H' ∧ ∃ (vs : List V) (ls : List LY), H' D = some (.lst vs) ∧ vs.length = i ∧ Paired (LyAt K H') vs ls ∧ ∀ l ∈ ls, VLy l ∧ (l.1.length : Int) ≤ mo ∧ (en = true → l.2 = none))
      ⟨gx_same (same_upd hD), [], [], upd_same, rfl, .nil, fun r hr => by cases hr⟩ (fun i H7 hi p7 => ?_) (fun H7 p7 => ?_)
    · obtain ⟨g7, vs, ls, hL, hlen, pd, vl⟩ := p7
      refine ⟨rfl, yes_ok ⟨_, rfl, _, rfl, _, rfl, st, mo, en, rfl, g7.2.1 hs, mo0, mo8, fun v8 l H8 g8 h8 vl8 ll8 en8 => ?_⟩⟩
      have hL8 := g8.1 D _ nD lst_tbl hL
      refine ⟨vs, hL8, small1000 (by omega), gx_upd (g7.trans g8) hD nD hL8 _, vs ++ [v8], ls ++ [l], upd_same, ?_, ?_, ?_⟩
      · rw [List.length_append, hlen]
        rfl
      · have k1 : TKeep K H7 (upd H8 D (.lst (vs ++ [v8]))) := fun a xs h => tk_updL hL8 _ _ (g8.sqT (g7.2.1 hs) h)
        exact Paired.snocP (Paired.mono pd fun _ _ => LyAt.keep k1) (h8.keep fun a xs h => tk_updL hL8 _ _ h)
      · intro x hx
        rcases List.mem_append.mp hx with z | z
        · exact vl x z
        · rw [List.mem_singleton.mp z]
          exact ⟨vl8, ll8, en8⟩
    · obtain ⟨g7, vs, ls, hL, hlen, pd, vl⟩ := p7
      have hl : vs.length = ls.length := Paired.length pd
      have hs7 := g7.2.1 hs
      refine ⟨D, vs, rfl, .inl ⟨.inl (.inl hL), fun l nl => ?_⟩⟩
      obtain ⟨s8, e8⟩ := new_at (.tup vs) nl
      generalize upd H7 l (.tup vs) = H8 at s8 e8 ⊢
      have g78 := gx_same (st := st) s8
      have hs8 := g78.2.1 hs7
      refine ⟨_, rfl, _, rfl, st, mo, rfl, hs8, mo0, mo8, fun wv x y ms H9 g9 hw vw lm => ⟨(by show 2 ≤ sizeLine; decide), fun p np => ?_⟩⟩
      have sp' := same_upd (o := .tup [.ref l, wv]) np
      have g79 := (g78.trans g9).trans (gx_same (st := st) sp')
      have k : TKeep K H7 (upd H9 p (.tup [.ref l, wv])) := g79.tk hs7
      refine q _ ls x y ms _ (g7.trans g79) ⟨p, _, _, rfl, .inl (.inl upd_same), ⟨l, vs, rfl, ?_, Paired.mono pd fun _ _ => LyAt.keep k⟩, hw.keep (Same.tk sp')⟩ ⟨by omega, by omega, fun l hl => (vl l hl).1⟩ vw (by omega) (fun l hl => (vl l hl).2.1) lm (fun he l hl => (vl l hl).2.2 he)
      exact Same.sqT sp' (g9.sqT hs8 (.inl (.inl e8)))
end

section
variable {P : Program} {w : World} {K : PySem.W.Frag} {mg : Str → Option Value} {base : Heap}
def sp__law_length (K : PySem.W.Frag) : Sp := fun vs H Q _ => ∃ (v : V) (rs : List RW), vs = [v] ∧ RowsAt K H v rs ∧ rs.length ≤ 1000 ∧ ∀ H', Same H H' → Q (.int (tot rs)) H'
theorem ok__law_length {f : Addr} {fd : FuncData} (F : Fun K "_law_length" "_law_length" s__law_length f fd) (T : Txt K mg) : FnOk P w K mg base CX0 1 f fd ["_law_rows"] (sp__law_length K) := by
  refine F.ok sc__law_length (fun vs H Q E h => ?_) (fun cdv A outer s H vs Q E hr h => ?_)
  · obtain ⟨v, rs, rfl, _⟩ := h
    rfl
  · obtain ⟨v, rs, rfl, ⟨pr, vs, rfl, hq, pd⟩, hz, q⟩ := h
    have hl : vs.length = rs.length := Paired.length pd
    refine ⟨_, (pss_one (ps_ret (pe_callB (cr_sum rfl) (by rfl) T.b_sum (by decide +kernel) (pa_cons (pe_lc (own := [("_law_drawing_here", 1), ("_law_hold", 2)]) (g := (gTup _ 2 (gCons (gName 1) (gCons (gName 2) gNil)))) (tt := tYes) (by rfl) sc__law_length.nd (pi_tup (pv 0)) (blkOk_by (own := [("_law_drawing_here", 1), ("_law_hold", 2)]) (N := ["_law_rows", "_law_drawing_here", "_law_hold"]) (sc := defScope s__law_length) (by decide +kernel)) (fun _ _ _ _ _ => (pg_tup (by rfl) (pgs_cons (pg_name (i := 1) sc__law_length.nd rfl (Or.inl rfl)) (pgs_cons (pg_name (i := 2) sc__law_length.nd rfl (Or.inl rfl)) pgs_nil)))) (fun _ _ _ _ _ => pts_nil) (fun _ _ _ _ _ => (pv 2))) pa_nil)))), ?_⟩
    refine ⟨_, rfl, pr, rfl, ⟨_, hq⟩, fun D hD => ?_⟩
    refine lcmap_tup ((rs.map (·.2)).map V.int) (by simp [hl]) (by omega) hq hD (fun i x y H2 R Z hx hy s2 hR => ?_) (fun H2 s2 hL => ?_)
    · obtain ⟨r, hr1, p, rfl, hrow⟩ := Paired.at pd hx
      have ey : y = .int r.2 := by
        rw [List.map_map, List.getElem?_map, hr1] at hy
        exact (Option.some.inj hy).symm
      subst ey
      exact ⟨p, _, rfl, Same.sqT s2 hrow, rfl, _, _, rfl, _, _, rfl, rfl, rfl, yes_ok ⟨_, rfl, hR _ (Same.refl _)⟩⟩
    · exact ⟨D, _, rfl, .inl (.inl hL), q _ s2⟩
end

theorem near_lt {rs : List RW} {bk : Option Int} {m : Int} (v : VRows rs) (vb : VBack rs bk) (h : m < tot rs) (m0 : 0 ≤ m) : near rs bk m = m := by
  cases bk with
  | none => rfl
  | some b =>
    unfold near
    dsimp only
    split
    · rfl
    · have s := tot_split rs b.toNat
      rw [Int.emod_eq_of_lt (by omega) (by omega)]
      omega
section
variable {P : Program} {w : World} {K : PySem.W.Frag} {mg : Str → Option Value} {base : Heap}
def sp__law_drawing (K : PySem.W.Frag) : Sp := fun vs H Q _ => ∃ (v : V) (rs : List RW) (bk : Option Int) (m : Int), vs = [v, .int m] ∧ LayAt K H v rs bk ∧ VRows rs ∧ VBack rs bk ∧ 0 ≤ m ∧ ∀ H', Same H H' → Q (.int (shown rs bk m)) H'
theorem ok__law_drawing {f : Addr} {fd : FuncData} (F : Fun K "_law_drawing" "_law_drawing" s__law_drawing f fd) (T : Txt K mg) (D__law_length : Cl P w K mg base 1 "_law_length" ["_law_rows"] (sp__law_length K)) : FnOk P w K mg base CX0 2 f fd ["_law_layer_here", "_law_moment"] (sp__law_drawing K) := by
  refine F.ok sc__law_drawing (fun vs H Q E h => ?_) (fun cdv A outer s H vs Q E hr h => ?_)
  · obtain ⟨v, rs, bk, m, rfl, _⟩ := h
    rfl
  · obtain ⟨v, rs, bk, m, rfl, ⟨p, rv, rfl, hp, pr, vs, rfl, hq, pd⟩, vR, vb, m0, q⟩ := h
    have v8 := vR.1
    have vr := vR.2
    have hl : vs.length = rs.length := Paired.length pd
    have hdl := dwg_len vr
    have htt := tot_nonneg vr
    refine ⟨_, (pss_cons (ps_asg (pv 0) (pg_tup (by rfl) (pgs_cons (pg_name (i := 2) sc__law_drawing.nd rfl (Or.inl rfl)) (pgs_cons (pg_name (i := 3) sc__law_drawing.nd rfl (Or.inl rfl)) pgs_nil))))
      (pss_cons (ps_set (i := 4) sc__law_drawing.nd rfl (Or.inl rfl) (pe_lst pa_nil))
      (pss_cons (ps_for PassesOwn.never rfl (pi_tup (pv 2)) (pg_tup (by rfl) (pgs_cons (pg_name (i := 5) sc__law_drawing.nd rfl (Or.inl rfl)) (pgs_cons (pg_name (i := 6) sc__law_drawing.nd rfl (Or.inl rfl)) pgs_nil)))
        (pss_one (ps_set (i := 4) sc__law_drawing.nd rfl (Or.inl rfl) (pe_op op_cat (pv 4) (pe_op op_rep (pe_lst (pa_cons (pv 5) pa_nil)) (pv 6))))))
      (pss_cons (ps_if (pt_cmpR op_lt (pv 1) (pe_callB call_len_seq (by rfl) T.b_len (by decide +kernel) (pa_cons (pv 4) pa_nil)) (nomark _)) (pss_one (ps_ret (pe_ix ix_list (pv 4) (pv 1) (fun _ _ => rfl)))) pss_nil)
      (pss_cons (ps_if (pt_cmpR op_isN (pv 3) pe_non (nomark _)) (pss_one (ps_ret pe_int)) pss_nil)
      (pss_cons (ps_set (i := 7) sc__law_drawing.nd rfl (Or.inl rfl) (pe_own D__law_length (hr.mono (by omega)) (by rfl) (pa_cons (pe_slice sl_tupA (pv 2) po_none (po_opt (pv 3))) pa_nil)))
      (pss_one (ps_ret (pe_ix ix_list (pv 4) (pe_op op_add (pv 7) (pe_op op_modN (pe_op op_sub (pv 1) (pv 7)) (pe_op op_sub (pe_callB call_len_seq (by rfl) T.b_len (by decide +kernel) (pa_cons (pv 4) pa_nil)) (pv 7)))) (fun _ _ => rfl)))))))))), ?_⟩
    refine ⟨_, rfl, p, _, rfl, hp, rfl, _, _, rfl, _, _, rfl, rfl, ?_⟩
    refine ⟨Nat.zero_le _, fun F nF => ?_⟩
    refine ⟨_, rfl, pr, rfl, ⟨_, Same.sqT (same_upd nF) hq⟩, for_tup (K := K) (a := pr) (xs := vs) (fun i σ H' => Same H H' ∧ ∃ R y5 y6, σ = [some (.ref p), some (.int m), some (.ref pr), some (bkV bk), some (.ref R), y5, y6, none] ∧ H' R = some (.lst ((dwg (rs.take i)).map V.int)))
      ⟨same_upd nF, F, none, none, rfl, upd_same⟩ (fun i σ H' _ z => Same.sqT z.1 hq) ?_ ?_⟩
    · rintro i x σ H2 hx ⟨s2, R, y5, y6, rfl, eR⟩
      obtain ⟨r, hr1, pw, rfl, hrow⟩ := Paired.at pd hx
      obtain ⟨_, _, r3, r4⟩ := vr r (List.mem_of_getElem? hr1)
      have et : rs.take (i + 1) = rs.take i ++ [r] := by rw [List.take_add_one, hr1]; rfl
      have e1 := dwg_len (rs := rs.take i) fun q hq => vr q (List.mem_of_mem_take hq)
      have e2 := tot_take_le vr hr1
      refine ⟨pw, _, rfl, Same.sqT s2 hrow, rfl, _, _, rfl, _, _, rfl, rfl, ?_⟩
      refine ⟨_, rfl, _, rfl, (by show 1 ≤ sizeLine; decide), fun p3 np3 => ⟨_, rfl, p3, r.2, _, rfl, rfl, upd_same, by omega, by omega, ?_, fun p4 np4 => ?_⟩⟩
      · show 1 * r.2.toNat ≤ sizeLine
        exact Nat.le_of_lt (small1000 (by omega))
      have s3 := same_upd (o := .lst [.int r.1]) np3
      have s4 := same_upd (o := .lst (List.replicate r.2.toNat [V.int r.1]).flatten) np4
      refine ⟨R, p4, _, _, rfl, rfl, s4 _ _ (s3 _ _ eR), upd_same, ?_, fun p5 np5 => ?_⟩
      · rw [List.length_map]
        have : (List.replicate r.2.toNat [V.int r.1]).flatten.length = r.2.toNat := by simp
        rw [this]
        exact Nat.le_of_lt (small1000 (by omega))
      · refine ⟨((s2.trans s3).trans s4).trans (same_upd np5), p5, _, _, rfl, ?_⟩
        rw [upd_same, et, dwg_append, List.map_append]
        congr 3
        show _ = (List.replicate r.2.toNat r.1 ++ []).map V.int
        rw [List.append_nil, List.map_replicate]
        generalize r.2.toNat = k
        induction k with
        | zero => rfl
        | succ k ih => rw [List.replicate_succ, List.replicate_succ, List.flatten_cons, ih]; rfl
    · rintro σ H2 ⟨s2, R, y5, y6, rfl, eR⟩
      rw [List.take_of_length_le (by omega)] at eR
      refine ⟨_, rfl, _, rfl, R, _, rfl, .inl (.inl (.inl eR)), m, _, rfl, rfl, _, rfl, ite2 (fun c => ?_) (fun c => ?_)⟩
      · have c1 : m < (((dwg rs).map V.int).length : Int) := of_decide_eq_true c
        rw [List.length_map, hdl] at c1
        obtain ⟨j, rfl⟩ : ∃ j : Nat, m = (j : Int) := ⟨m.toNat, by omega⟩
        refine ⟨_, rfl, _, rfl, R, _, _, _, rfl, rfl, .inl (.inl eR), at_of (j := j) rfl (by rw [List.getElem?_map, dwg_at vr c1]; rfl), ?_⟩
        have := q H2 s2
        unfold shown at this
        rw [near_lt vR vb c1 m0] at this
        exact this
      · have c1 : ¬ m < (((dwg rs).map V.int).length : Int) := fun z => c (decide_eq_true z)
        rw [List.length_map, hdl] at c1
        refine ⟨_, rfl, rfl, _, rfl, ?_⟩
        cases bk with
        | none =>
          refine ite2 (fun _ => ?_) (fun e => absurd (decide_eq_true rfl) e)
          have := q H2 s2
          rw [shown_end vr (by omega)] at this
          exact this
        | some b =>
          refine ite2 (fun e => nomatch (of_decide_eq_true e)) (fun _ => ?_)
          have hb := vb b rfl
          obtain ⟨k, rfl⟩ : ∃ k : Nat, b = (k : Int) := ⟨b.toNat, by omega⟩
          have hq2 := Same.sqT s2 hq
          refine ⟨_, rfl, _, rfl, ?_⟩
          dsimp only [tNoPart]
          refine ⟨some (k : Int), rfl, sl_rows (rs.take k) hq2 (by rw [cut_to]; exact Paired.takeP k (Paired.mono pd fun _ _ => RowAt.keep (Same.tk s2))) (fun H3 v3 s3 h3 => ?_)⟩
          refine ⟨v3, rs.take k, rfl, h3, by rw [List.length_take]; omega, fun H4 s4 => ?_⟩
          have s := tot_split rs k
          have a0 := (tot_nonneg (rs := rs.take k) fun q hq => vr q (List.mem_of_mem_take hq)).1
          have cpos : 0 < tot (rs.drop k) := by
            have := (tot_nonneg (rs := rs.drop k) fun q hq => vr q (List.mem_of_mem_drop hq)).1
            rw [List.length_drop] at this
            omega
          have eR4 := s4 _ _ (s3 _ _ eR)
          have q' := q H4 ((s2.trans s3).trans s4)
          have en : near rs (some (k : Int)) m = tot (rs.take k) + (m - tot (rs.take k)) % tot (rs.drop k) := by
            unfold near
            dsimp only
            rw [Int.toNat_natCast, if_neg (by omega)]
          have f0 := Int.emod_nonneg (m - tot (rs.take k)) (show tot (rs.drop k) ≠ 0 by omega)
          have f1 := Int.emod_lt_of_pos (m - tot (rs.take k)) cpos
          unfold shown at q'
          rw [en] at q'
          obtain ⟨j, ej⟩ : ∃ j : Nat, tot (rs.take k) + (m - tot (rs.take k)) % tot (rs.drop k) = (j : Int) := ⟨(tot (rs.take k) + (m - tot (rs.take k)) % tot (rs.drop k)).toNat, by omega⟩
          rw [ej] at q'
          refine ⟨_, rfl, _, rfl, _, rfl, _, rfl, _, _, rfl, rfl, _, rfl, R, _, rfl, .inl (.inl (.inl eR4)), _, rfl, _, _, rfl, rfl, _, tot (rs.drop k), rfl, ?_, (by show tot (rs.drop k) ≠ 0; omega), _, _, rfl, rfl, R, _, _, _, rfl, rfl, .inl (.inl eR4), at_of (j := j) ?_ (by rw [List.getElem?_map, dwg_at vr (by omega)]; rfl), q'⟩
          · show V.int ((((dwg rs).map V.int).length : Int) - tot (rs.take k)) = _
            rw [List.length_map, hdl]
            congr 1
            omega
          · show tot (rs.take k) + (m - tot (rs.take k)).fmod (tot (rs.drop k)) = (j : Int)
            rw [Int.fmod_eq_emod_of_nonneg _ (by omega)]
            exact ej
def sp__law_fraction (K : PySem.W.Frag) : Sp := fun vs H Q _ => ∃ t b : Int, vs = [.int t, .int b] ∧ 1 ≤ b ∧ b ≤ 1000 ∧ ∀ H' v, Same H H' → RowAt K H' v (lo t b) → Q v H'
theorem ok__law_fraction {f : Addr} {fd : FuncData} (F : Fun K "_law_fraction" "_law_fraction" s__law_fraction f fd) (T : Txt K mg) : FnOk P w K mg base CX0 1 f fd ["_law_top", "_law_bottom"] (sp__law_fraction K) := by
  refine F.ok sc__law_fraction (fun vs H Q E h => ?_) (fun cdv A outer s H vs Q E hr h => ?_)
  · obtain ⟨t, b, rfl, _⟩ := h
    rfl
  · obtain ⟨t, b, rfl, h1, h2, q⟩ := h
    refine ⟨_, (pss_cons (ps_par (i := 2) (j := 3) (by rfl) sc__law_fraction.nd rfl rfl (by decide) rfl rfl (pa_cons (pv 1) (pa_cons (pe_callB call_abs (by rfl) T.b_abs (by decide +kernel) (pa_cons (pv 0) pa_nil)) pa_nil)) (by rfl))
      (pss_cons (ps_while PassesOwn.never (pt_cmpR op_gt (pv 3) pe_int (nomark _)) (pss_one (ps_par (i := 2) (j := 3) (by rfl) sc__law_fraction.nd rfl rfl (by decide) rfl rfl (pa_cons (pv 3) (pa_cons (pe_op op_modN (pv 2) (pv 3)) pa_nil)) (by rfl))))
      (pss_one (ps_ret (pe_tup (pa_cons (pe_op op_fdivN (pv 0) (pv 2)) (pa_cons (pe_op op_fdivN (pv 1) (pv 2)) pa_nil))))))), ?_⟩
    obtain ⟨g, t', b', eg, gp, et, eb, bp, el, gle, _⟩ := gcd_facts (t := t) (show 0 < b by omega)
    refine ⟨_, rfl, _, rfl, t, rfl, _, _, rfl, ?_⟩
    refine while_by (fun σ H' => H = H' ∧ ∃ c d : Nat, σ = [some (.int t), some (.int b), some (.int c), some (.int d)] ∧ Nat.gcd c d = Nat.gcd t.natAbs b.natAbs) (fun σ _ => match σ with | [_, _, _, some (.int d)] => d.toNat | _ => 0) ⟨rfl, b.natAbs, t.natAbs, ?_, Nat.gcd_comm ..⟩ ?_ ?_
    · show [some (V.int t), some (V.int b), some (V.int b), some (V.int (if t < 0 then -t else t))] = _
      rw [show (if t < 0 then -t else t) = (t.natAbs : Int) by split <;> omega, show ((b.natAbs : Nat) : Int) = b by omega]
    · rintro σ H1 ⟨rfl, c, d, rfl, e⟩
      refine ⟨_, rfl, _, _, rfl, rfl, _, rfl, ite2 (fun hd => ?_) (fun hd => ?_)⟩
      · have d0 : (0 : Int) < (d : Int) := of_decide_eq_true hd
        refine ⟨_, rfl, _, rfl, _, rfl, _, _, rfl, rfl, (by show (d : Int) ≠ 0; omega), _, _, rfl, ⟨rfl, d, c % d, ?_, ?_⟩, ?_⟩
        · show [some (V.int t), some (V.int b), some (V.int (d : Int)), some (V.int ((c : Int).fmod (d : Int)))] = _
          rw [Int.fmod_eq_emod_of_nonneg _ (by omega)]
          rfl
        · rw [← e, Nat.gcd_comm c d, Nat.gcd_rec d c, Nat.gcd_comm (c % d) d]
        · show ((c : Int).fmod (d : Int)).toNat < (d : Int).toNat
          have := (fm (x := (c : Int)) (m := (d : Int)) (by omega)).2
          omega
      · have d0 : d = 0 := by
          rcases Nat.eq_zero_or_pos d with z | z
          · exact z
          · exact absurd (decide_eq_true (show (0 : Int) < (d : Int) by omega)) hd
        subst d0
        rw [Nat.gcd_zero_right] at e
        subst e
        rw [eg]
        refine ⟨_, rfl, _, rfl, t, g, rfl, rfl, ⟨by omega, by omega⟩, _, rfl, _, rfl, b, g, rfl, rfl, ⟨by omega, by omega⟩, (by show 2 ≤ sizeLine; decide), fun p np => ?_⟩
        refine q _ _ (same_upd np) ⟨p, rfl, .inl (.inl ?_)⟩
        rw [upd_same]
        show some (HO.tup [V.int (t.fdiv g), V.int (b.fdiv g)]) = _
        rw [Int.fdiv_eq_ediv_of_nonneg t (show 0 ≤ g by omega), Int.fdiv_eq_ediv_of_nonneg b (show 0 ≤ g by omega)]
        unfold lo
        rw [eg]
    · exact fun σ H Q Q' h ⟨x, e, a, b, r⟩ => ⟨x, e, a, b, r.1, r.2.1, r.2.2.imp fun _ z => ⟨z.1, h _ _ z.2⟩⟩
def sp__law_stands (K : PySem.W.Frag) : Sp := fun vs H Q _ => ∃ (v : V) (x y : Int) (ms : List MV) (m : Int), vs = [v, .int m] ∧ WinAt K H v x y ms ∧ VWin x y ms ∧ 0 ≤ m ∧ ∀ H' v, Same H H' → PlAt K H' v (plc x y ms m) → Q v H'
theorem ok__law_stands {f : Addr} {fd : FuncData} (F : Fun K "_law_stands" "_law_stands" s__law_stands f fd) (T : Txt K mg) (D__law_fraction : Cl P w K mg base 1 "_law_fraction" ["_law_top", "_law_bottom"] (sp__law_fraction K)) : FnOk P w K mg base CX0 2 f fd ["_law_window_here", "_law_moment"] (sp__law_stands K) := by
  refine F.ok sc__law_stands (fun vs H Q E h => ?_) (fun cdv A outer s H vs Q E hr h => ?_)
  · obtain ⟨v, x, y, ms, m, rfl, _⟩ := h
    rfl
  · obtain ⟨v, x, y, ms, m, rfl, ⟨p, mv, rfl, hp, pm, vs, rfl, hq, pd⟩, ⟨vx, vy, v8, vm⟩, m0, q⟩ := h
    have hl : vs.length = ms.length := Paired.length pd
    refine ⟨_, (pss_cons (ps_par3 (i := 2) (j := 3) (l := 4) (by rfl) sc__law_stands.nd rfl rfl rfl (by decide) (by decide) (by decide) rfl rfl rfl (pa_cons (pe_ix ix_tup (pv 0) pe_int (fun _ _ => rfl)) (pa_cons (pe_ix ix_tup (pv 0) pe_int (fun _ _ => rfl)) (pa_cons (pv 1) pa_nil))) (by rfl))
      (pss_cons (ps_for PassesOwn.never rfl (pi_tup (pe_ix ix_tup (pv 0) pe_int (fun _ _ => rfl))) (pg_tup (by rfl) (pgs_cons (pg_name (i := 5) sc__law_stands.nd rfl (Or.inl rfl)) (pgs_cons (pg_name (i := 6) sc__law_stands.nd rfl (Or.inl rfl)) (pgs_cons (pg_name (i := 7) sc__law_stands.nd rfl (Or.inl rfl)) pgs_nil))))
        (pss_cons (ps_if (pt_cmpR op_lt (pv 4) (pv 7) (nomark _)) (pss_cons (ps_set (i := 8) sc__law_stands.nd rfl (Or.inl rfl) (pe_op op_add (pv 4) pe_int))
      (pss_cons (ps_set (i := 9) sc__law_stands.nd rfl (Or.inl rfl) (pe_own D__law_fraction (hr.mono (by omega)) (by rfl) (pa_cons (pe_op op_add (pe_op op_mul (pv 2) (pe_op op_sub (pv 7) (pv 8))) (pe_op op_mul (pv 5) (pv 8))) (pa_cons (pv 7) pa_nil))))
      (pss_one (ps_ret (pe_tup (pa_cons (pv 9) (pa_cons (pe_own D__law_fraction (hr.mono (by omega)) (by rfl) (pa_cons (pe_op op_add (pe_op op_mul (pv 3) (pe_op op_sub (pv 7) (pv 8))) (pe_op op_mul (pv 6) (pv 8))) (pa_cons (pv 7) pa_nil))) pa_nil))))))) pss_nil)
      (pss_one (ps_par3 (i := 4) (j := 2) (l := 3) (by rfl) sc__law_stands.nd rfl rfl rfl (by decide) (by decide) (by decide) rfl rfl rfl (pa_cons (pe_op op_sub (pv 4) (pv 7)) (pa_cons (pv 5) (pa_cons (pv 6) pa_nil))) (by rfl)))))
      (pss_one (ps_ret (pe_tup (pa_cons (pe_tup (pa_cons (pv 2) (pa_cons pe_int pa_nil))) (pa_cons (pe_tup (pa_cons (pv 3) (pa_cons pe_int pa_nil))) pa_nil))))))), ?_⟩
    refine ⟨_, rfl, p, _, 0, _, rfl, rfl, hp, rfl, _, rfl, p, _, 1, _, rfl, rfl, hp, rfl, _, rfl, _, _, _, rfl, ?_⟩
    refine ⟨_, rfl, p, _, 2, _, rfl, rfl, hp, rfl, pm, rfl, ⟨_, hq⟩, for_tup (K := K) (a := pm) (xs := vs) (fun i σ H' => H = H' ∧ ∃ (cx cy t : Int) (y6 y7 y8 y9 y10 : Option V), σ = [some (.ref p), some (.int m), some (.int cx), some (.int cy), some (.int t), y6, y7, y8, y9, y10] ∧ (-20 ≤ cx ∧ cx ≤ 20) ∧ (-20 ≤ cy ∧ cy ≤ 20) ∧ 0 ≤ t ∧ plc cx cy (ms.drop i) t = plc x y ms m)
      ⟨rfl, x, y, m, _, _, _, _, _, rfl, vx, vy, m0, rfl⟩ (fun i σ H' _ z => by rw [← z.1]; exact hq) ?_ ?_⟩
    · rintro i v σ H1 hv ⟨rfl, cx, cy, t, y6, y7, y8, y9, y10, rfl, hcx, hcy, t0, e⟩
      obtain ⟨mm, hm1, pw, rfl, hrow⟩ := Paired.at pd hv
      have hi : i < ms.length := (List.getElem?_eq_some_iff.mp hm1).1
      have ed : ms.drop i = mm :: ms.drop (i + 1) := by
        rw [List.drop_eq_getElem_cons hi]
        congr 1
        rw [List.getElem?_eq_getElem hi] at hm1
        exact Option.some.inj hm1
      rw [ed, plc_cons] at e
      obtain ⟨vmx, vmy, vm3, vm4⟩ := vm mm (List.mem_of_getElem? hm1)
      refine ⟨pw, _, rfl, hrow, rfl, _, _, rfl, _, _, rfl, _, _, rfl, rfl, ?_⟩
      refine ⟨_, rfl, _, rfl, t, mm.2.2, rfl, rfl, _, rfl, ite2 (fun c => ?_) (fun c => ?_)⟩
      · have c1 : t < mm.2.2 := of_decide_eq_true c
        rw [if_pos c1] at e
        rw [← way_eq cx mm.1 mm.2.2 (t + 1), ← way_eq cy mm.2.1 mm.2.2 (t + 1)] at e
        refine ⟨_, rfl, t, 1, rfl, rfl, ?_⟩
        refine ⟨_, rfl, _, rfl, _, rfl, _, _, rfl, rfl, cx, _, rfl, rfl, .inl ⟨by omega, by omega⟩, _, rfl, _, rfl, mm.1, _, rfl, rfl, .inl ⟨by omega, by omega⟩, _, _, rfl, rfl, _, rfl, _, mm.2.2, rfl, by omega, by omega, fun H2 v1 s2 r2 => ?_⟩
        refine ⟨_, rfl, _, rfl, _, rfl, _, rfl, _, _, rfl, rfl, cy, _, rfl, rfl, .inl ⟨by omega, by omega⟩, _, rfl, _, rfl, mm.2.1, _, rfl, rfl, .inl ⟨by omega, by omega⟩, _, _, rfl, rfl, _, rfl, _, mm.2.2, rfl, by omega, by omega, fun H3 v2 s3 r3 => ?_⟩
        refine ⟨(by show 2 ≤ sizeLine; decide), fun p4 np4 => ?_⟩
        have s4 := same_upd (o := .tup [v1, v2]) np4
        refine q _ _ ((s2.trans s3).trans s4) ?_
        rw [← e]
        exact ⟨p4, v1, v2, rfl, .inl (.inl upd_same), r2.keep (Same.tk (s3.trans s4)), r3.keep (Same.tk s4)⟩
      · have c1 : ¬ t < mm.2.2 := fun z => c (decide_eq_true z)
        rw [if_neg c1] at e
        refine ⟨_, rfl, _, rfl, t, mm.2.2, rfl, rfl, _, rfl, _, rfl, _, _, _, rfl, ?_⟩
        exact ⟨rfl, mm.1, mm.2.1, t - mm.2.2, _, _, _, _, _, rfl, vmx, vmy, by omega, e⟩
    · rintro σ H1 ⟨rfl, cx, cy, t, y6, y7, y8, y9, y10, rfl, hcx, hcy, t0, e⟩
      rw [List.drop_of_length_le (by omega), plc_nil] at e
      refine ⟨_, rfl, (by show 2 ≤ sizeLine; decide), fun p1 np1 => ?_⟩
      have s1 := same_upd (o := .tup [.int cx, .int 1]) np1
      refine ⟨_, rfl, (by show 2 ≤ sizeLine; decide), fun p2 np2 => ?_⟩
      have s2 := same_upd (o := .tup [.int cy, .int 1]) np2
      refine ⟨(by show 2 ≤ sizeLine; decide), fun p3 np3 => ?_⟩
      have s3 := same_upd (o := .tup [.ref p1, .ref p2]) np3
      refine q _ _ ((s1.trans s2).trans s3) ?_
      rw [← e]
      exact ⟨p3, _, _, rfl, .inl (.inl upd_same), ⟨p1, rfl, .inl (.inl (s3 _ _ (s2 _ _ upd_same)))⟩, ⟨p2, rfl, .inl (.inl (s3 _ _ upd_same))⟩⟩
def sp__law_picture (K : PySem.W.Frag) : Sp := fun vs H Q _ => ∃ (v : V) (ls : List LY) (x y : Int) (ms : List MV) (m : Int), vs = [v, .int m] ∧ ShAt K H v ls x y ms ∧ VLays ls ∧ VWin x y ms ∧ 0 ≤ m ∧ ∀ H' v, Same H H' → PicAt K H' v (pic ls x y ms m) → Q v H'
theorem ok__law_picture {f : Addr} {fd : FuncData} (F : Fun K "_law_picture" "_law_picture" s__law_picture f fd) (T : Txt K mg) (D__law_drawing : Cl P w K mg base 2 "_law_drawing" ["_law_layer_here", "_law_moment"] (sp__law_drawing K)) (D__law_stands : Cl P w K mg base 2 "_law_stands" ["_law_window_here", "_law_moment"] (sp__law_stands K)) : FnOk P w K mg base CX0 3 f fd ["_law_sheet_here", "_law_moment"] (sp__law_picture K) := by
  refine F.ok sc__law_picture (fun vs H Q E h => ?_) (fun cdv A outer s H vs Q E hr h => ?_)
  · obtain ⟨v, ls, x, y, ms, m, rfl, _⟩ := h
    rfl
  · obtain ⟨v, ls, x, y, ms, m, rfl, ⟨p, lv, wv, rfl, hp, ⟨pl, vs, rfl, hq, pd⟩, hw⟩, ⟨v1, v4, vl⟩, vw, m0, q⟩ := h
    have hl : vs.length = ls.length := Paired.length pd
    refine ⟨_, (pss_cons (ps_set (i := 2) sc__law_picture.nd rfl (Or.inl rfl) (pe_callTy call_tuple_of (by rfl) T.b_tuple (by decide +kernel) (pa_cons (pe_lc (own := [("_law_layer_here", 3)]) (g := (gName 3)) (tt := tYes) (by rfl) sc__law_picture.nd (pi_tup (pe_ix ix_tup (pv 0) pe_int (fun _ _ => rfl))) (blkOk_by (own := [("_law_layer_here", 3)]) (N := ["_law_sheet_here", "_law_moment", "_law_drawn", "_law_layer_here"]) (sc := defScope s__law_picture) (by decide +kernel)) (fun _ _ _ _ _ => (pg_name (i := 3) sc__law_picture.nd rfl (Or.inl rfl))) (fun _ _ _ _ _ => pts_nil) (fun _ _ _ _ _ => (pe_own D__law_drawing (hr.mono (by omega)) (by rfl) (pa_cons (pv 3) (pa_cons (pv 1) pa_nil))))) pa_nil)))
      (pss_one (ps_ret (pe_tup (pa_cons (pv 2) (pa_cons (pe_own D__law_stands (hr.mono (by omega)) (by rfl) (pa_cons (pe_ix ix_tup (pv 0) pe_int (fun _ _ => rfl)) (pa_cons (pv 1) pa_nil))) pa_nil)))))), ?_⟩
    refine ⟨_, rfl, p, _, 0, _, rfl, rfl, hp, rfl, pl, rfl, ⟨_, hq⟩, fun D hD => ?_⟩
    refine lcmap_tup ((ls.map fun l => shown l.1 l.2 m).map V.int) (by simp [hl]) (by omega) hq hD (fun i x y H2 R Z hx hy s2 hR => ?_) (fun H2 s2 hL => ?_)
    · obtain ⟨l, hl1, hly⟩ := Paired.at pd hx
      have ey : y = .int (shown l.1 l.2 m) := by
        rw [List.map_map, List.getElem?_map, hl1] at hy
        exact (Option.some.inj hy).symm
      subst ey
      have vl1 := vl l (List.mem_of_getElem? hl1)
      exact ⟨rfl, yes_ok ⟨_, rfl, _, rfl, x, l.1, l.2, m, rfl, LayAt.keep (Same.tk s2) hly, vl1.1, vl1.2, m0, hR⟩⟩
    · refine ⟨D, _, rfl, .inl ⟨.inl (.inl hL), fun b nb => ?_⟩⟩
      obtain ⟨s3, e3⟩ := new_at (.tup ((ls.map fun l => shown l.1 l.2 m).map V.int)) nb
      refine ⟨_, rfl, _, rfl, p, _, 1, _, rfl, rfl, Same.sqT (s2.trans s3) hp, rfl, _, rfl, wv, x, y, ms, m, rfl, hw.keep (Same.tk (s2.trans s3)), vw, m0, fun H4 v4 s4 p4 => ⟨(by show 2 ≤ sizeLine; decide), fun p5 np5 => ?_⟩⟩
      have s5 := same_upd (o := .tup [.ref b, v4]) np5
      exact q _ _ (((s2.trans s3).trans s4).trans s5) ⟨p5, b, v4, rfl, .inl (.inl upd_same), .inl (.inl (s5 _ _ (s4 _ _ e3))), p4.keep (Same.tk s5)⟩
end

/-! ### answers told by turns: kit -/
/-- the one thing of which all is so -/
noncomputable def one {α : Type} [Nonempty α] (p : α → Prop) : α := Classical.epsilon p
theorem one_eq {α : Type} [Nonempty α] {p : α → Prop} (u : ∀ a b, p a → p b → a = b) {a : α} (h : p a) : one p = a := u _ _ (Classical.epsilon_spec ⟨a, h⟩) h
instance : Nonempty BO := ⟨.un⟩
instance : Nonempty SO := ⟨.en⟩
instance : Nonempty TO := ⟨.en⟩
/-- things without a list -/
def fA : Hp := fun _ => some (.lst [])
def fN : Hp := fun _ => none
def TA (K : PySem.W.Frag) (H : Hp) (v : V) (d : PyData) : Prop := Dg K fA H true v d
def TAs (K : PySem.W.Frag) (H : Hp) (vs : List V) (ds : List PyData) : Prop := DgAll K fA H true vs ds
theorem TA.keep {K : PySem.W.Frag} {H H' : Hp} {v : V} {d : PyData} (h : TA K H v d) (k : TKeep K H H') : TA K H' v d := Dg.kp k (fun _ _ n _ => by cases n) h
theorem TAs.keep {K : PySem.W.Frag} {H H' : Hp} {v : List V} {d : List PyData} (h : TAs K H v d) (k : TKeep K H H') : TAs K H' v d := DgAll.kp k (fun _ _ n _ => by cases n) h
theorem TAs.fN {K : PySem.W.Frag} {H : Hp} {v : List V} {d : List PyData} (h : TAs K H v d) : DgAll K fN H true v d := DgAll.wk (fun _ _ => rfl) h
theorem TAs.snoc {K : PySem.W.Frag} {H : Hp} {vs : List V} {ds : List PyData} {v : V} {d : PyData} (h : TAs K H vs ds) (a : TA K H v d) : TAs K H (vs ++ [v]) (ds ++ [d]) := DgAll.app (.cons a .nil) h
theorem ta_ref {K : PySem.W.Frag} {H : Hp} {p : Addr} {i : Int} (h : H p = some (.tup [.str "refused", .int i])) : TA K H (.ref p) (refD i) := .tup (.inl (.inl h)) (.cons (.str _) (.cons (.int _) .nil))
theorem ta_many {K : PySem.W.Frag} {H : Hp} {p q : Addr} {m n : Int} (h : H p = some (.tup [.str "many", .ref q])) (hq : H q = some (.tup [.int m, .int n])) : TA K H (.ref p) (manyD m n) := .tup (.inl (.inl h)) (.cons (.str _) (.cons (.tup (.inl (.inl hq)) (.cons (.int _) (.cons (.int _) .nil))) .nil))
theorem ta_told {K : PySem.W.Frag} {H : Hp} {p : Addr} {v : V} {d : PyData} (h : H p = some (.tup [.str "told", v])) (hv : TA K H v d) : TA K H (.ref p) (toldD d) := .tup (.inl (.inl h)) (.cons (.str _) (.cons hv .nil))
theorem ShAt.ta {K : PySem.W.Frag} {H : Hp} {v : V} {ls : List LY} {x y : Int} {ms : List MV} : ShAt K H v ls x y ms → TA K H v (shD ls x y ms) := by
  rintro ⟨p, lv, wv, rfl, hp, ⟨pl, us, rfl, hq, pd⟩, hw⟩
  exact .tup hp (.cons (.tup hq (lays_dg pd)) (.cons hw.dg .nil))
theorem ints_dgA {K : PySem.W.Frag} {fx H : Hp} {b : Bool} : ∀ ns : List Int, DgAll K fx H b (ns.map V.int) (ns.map PyData.int)
  | [] => .nil
  | _ :: t => .cons (.int _) (ints_dgA t)
theorem PicAt.dg {K : PySem.W.Frag} {fx H : Hp} {b : Bool} {v : V} {c : PIC} : PicAt K H v c → Dg K fx H b v (picD c) := by
  rintro ⟨a, b1, v2, rfl, h, h1, ⟨p, q, r, rfl, h2, h3, h4⟩⟩
  exact .tup h (.cons (.tup h1 (ints_dgA _)) (.cons (.tup h2 (.cons h3.dg (.cons h4.dg .nil))) .nil))
theorem pics_dg {K : PySem.W.Frag} {fx H : Hp} {b : Bool} : ∀ {us : List V} {cs : List PIC}, Paired (PicAt K H) us cs → DgAll K fx H b us (cs.map picD)
  | _, _, .nil => .nil
  | _, _, .cons a t => .cons a.dg (pics_dg t)
/-- an address that is free, but for the tables of lambdas -/
def NT (H : Hp) (D : Addr) : Prop := ∀ o, H D = some o → ∃ ps, o = .tbl ps
theorem nt_of {H H' : Hp} {D : Addr} (e : LamX.ExtN H H') (n : H' D = none) : NT H D := fun o h => by
  apply Classical.byContradiction
  intro z
  rw [e D o h fun ps w => z ⟨ps, w⟩] at n
  cases n
theorem nt_ne {H : Hp} {D b : Addr} {o : HO} (n : NT H D) (h : H b = some o) (t : ∀ ps, o ≠ .tbl ps) : b ≠ D := fun z => by
  rw [z] at h
  obtain ⟨ps, e⟩ := n _ h
  exact t ps e
theorem Go.refl {TS : List (Addr × Str)} {H : Hp} (t : LamX.Tabs TS H) : Go TS H H := ⟨LamX.ExtN.refl _, t⟩
theorem Go.trans {TS : List (Addr × Str)} {A B C : Hp} (a : Go TS A B) (b : Go TS B C) : Go TS A C := ⟨a.e.trans b.e, b.t⟩
theorem Go.same {TS : List (Addr × Str)} {A B C : Hp} (a : Go TS A B) (s : Same B C) : Go TS A C := ⟨a.e.trans (LamX.ExtN.of s), a.t.ext s⟩
theorem Go.of {TS : List (Addr × Str)} {A B : Hp} (t : LamX.Tabs TS A) (s : Same A B) : Go TS A B := (Go.refl t).same s
theorem ext_tk {K : PySem.W.Frag} {H H' : Hp} (e : LamX.ExtN H H') : TKeep K H H' := fun a xs h => by
  rcases h with (h | ⟨o, h⟩) | h
  · exact .inl (.inl (e _ _ h tup_tbl))
  · exact .inl (.inr ⟨o, e _ _ h (fun ps z => by cases z)⟩)
  · exact .inr h
theorem Go.up {TS : List (Addr × Str)} {A B : Hp} {D : Addr} {us ws : List V} (g : Go TS A B) (n : NT A D) (e : B D = some (.lst us)) : Go TS A (upd B D (.lst ws)) := ⟨fun b o h t => by
  rw [upd_ne (nt_ne n h t)]
  exact g.e b o h t, tabs_lst e g.t⟩
/-! ### what met tells -/
section
variable {K : PySem.W.Frag} {c : Nat → Addr}
theorem told_mg {Hb H' : Hp} {Rw : VK} {d : PyData} {v : V} (s' : Same Hb H') (hv : TA K H' v d) (fin : ∀ (H' : Hp) (p : Addr), Same Hb H' → TA K H' (.ref p) (toldD d) → Rw (.ref p) H') : 2 ≤ sizeLine ∧ ∀ p, H' p = none → Rw (.ref p) (upd H' p (.tup [.str "told", v])) := by
  refine ⟨(by show 2 ≤ sizeLine; decide), fun p np => ?_⟩
  have sp' := same_upd (o := .tup [.str "told", v]) np
  exact fin _ p (s'.trans sp') (ta_told upd_same (hv.keep (Same.tk sp')))
theorem ref_mg {Hb H' : Hp} {Rw : VK} {i : Nat} (hi : i < 14) (s' : Same Hb H') (fin : ∀ (H' : Hp) (p : Addr), Same Hb H' → TA K H' (.ref p) (refD (i : Int)) → Rw (.ref p) H') : EMet c Rw (.ref (c i)) none H' := by
  refine ⟨i, by omega, rfl, (fun dd e => (nomatch e)), fun _ H1 p s1 np ep => ?_, fun z => ?_, fun z => ?_⟩
  · exact fin _ p (s'.trans s1) (ta_ref ep)
  · omega
  · omega
theorem many_mg {Hb H' : Hp} {Rw : VK} {m n : Int} {d : Addr} (s' : Same Hb H') (ed : H' d = some (.xd [("most", .int n), ("many", .int m)])) (fin : ∀ (H' : Hp) (p : Addr), Same Hb H' → TA K H' (.ref p) (manyD m n) → Rw (.ref p) H') : EMet c Rw (.ref (c 14)) (some d) H' := by
  refine ⟨14, by decide, rfl, fun dd e => ⟨_, by cases e; exact ed⟩, fun z => absurd z (by decide), fun _ => ⟨d, _, _, _, rfl, ed, rfl, rfl, fun Hd p q sd' npd eq ep => ?_⟩, fun z => absurd z (by decide)⟩
  exact fin _ p (s'.trans sd') (ta_many ep eq)
theorem so_mg {ls : List LY} {x y : Int} {ms : List MV} {m : Int} {Hb : Hp} {Rw : VK} (fin : ∀ (H' : Hp) (p : Addr), Same Hb H' → TA K H' (.ref p) (soD ls x y ms m (one (IsSo ls ms m))) → Rw (.ref p) H') :
    ∀ o H', IsSo ls ms m o → Same Hb H' → SoEnd K c ls x y ms m Hb (fun v H1 => 2 ≤ sizeLine ∧ ∀ p, H1 p = none → Rw (.ref p) (upd H1 p (.tup [.str "told", v]))) (EMet c Rw) H' o := fun o H' ho s' => by
  rw [one_eq (fun _ _ => IsSo.uniq) ho] at fin
  cases o with
  | en => exact ref_mg (i := 8) (by decide) s' fin
  | sq => exact ref_mg (i := 9) (by decide) s' fin
  | mn M => exact fun d nd ed => many_mg s' ed fin
  | ok L => exact fun v hv => told_mg s' hv.ta fin
theorem to_mg {l : LY} {hs : List Int} {Hb : Hp} {Rw : VK} (fin : ∀ (H' : Hp) (p : Addr), Same Hb H' → TA K H' (.ref p) (toD l.1 (one (IsTo l.2 hs))) → Rw (.ref p) H') :
    ∀ o H', IsTo l.2 hs o → Same Hb H' → TmEnd K c l Hb (fun v H1 => 2 ≤ sizeLine ∧ ∀ p, H1 p = none → Rw (.ref p) (upd H1 p (.tup [.str "told", v]))) (EMet c Rw) H' o := fun o H' ho s' => by
  rw [one_eq (fun _ _ => IsTo.uniq) ho] at fin
  cases o with
  | en => exact ref_mg (i := 8) (by decide) s' fin
  | sq => exact ref_mg (i := 9) (by decide) s' fin
  | mn M => exact fun d nd ed => many_mg s' ed fin
  | ok L => exact fun v hv => told_mg s' hv.dg fin
theorem bo_mg {ls1 : List LY} {x1 y1 : Int} {ms1 : List MV} {ls2 : List LY} {x2 y2 : Int} {ms2 : List MV} {Hb : Hp} {Rw : VK} (fin : ∀ (H' : Hp) (p : Addr), Same Hb H' → TA K H' (.ref p) (boD x1 y1 (one (IsBo ls1 x1 y1 ms1 ls2 x2 y2 ms2))) → Rw (.ref p) H') :
    ∀ o H', IsBo ls1 x1 y1 ms1 ls2 x2 y2 ms2 o → Same Hb H' → BoEnd K c x1 y1 Hb (fun v H1 => 2 ≤ sizeLine ∧ ∀ p, H1 p = none → Rw (.ref p) (upd H1 p (.tup [.str "told", v]))) (EMet c Rw) H' o := fun o H' ho s' => by
  rw [one_eq (fun _ _ => IsBo.uniq) ho] at fin
  cases o with
  | un => exact ref_mg (i := 7) (by decide) s' fin
  | en => exact ref_mg (i := 8) (by decide) s' fin
  | mn M => exact fun d nd ed => many_mg s' ed fin
  | ok L => exact fun v hv => told_mg s' hv.ta fin
end
/-! ### what is told in a round -/
/-- a sheet -/
abbrev SHD := List LY × Int × Int × List MV
def ShT (K : PySem.W.Frag) (H : Hp) (v : V) (A : SHD) : Prop := ShAt K H v A.1 A.2.1 A.2.2.1 A.2.2.2
def VS (A : SHD) : Prop := VLays A.1 ∧ VWin A.2.1 A.2.2.1 A.2.2.2
theorem ShT.keep {K : PySem.W.Frag} {H H' : Hp} {v : V} {A : SHD} (h : ShT K H v A) (k : TKeep K H H') : ShT K H' v A := ShAt.keep (K := K) k h
def sheT (A : SHD) : PyData := shD A.1 A.2.1 A.2.2.1 A.2.2.2
def pcT (A : SHD) (n : Int) : List PIC := pcs A.1 A.2.1 A.2.2.1 A.2.2.2 n
noncomputable def plT (n : Int) (A : SHD) : List PIC := one (IsPl (pcT A n))
def beD (A B : SHD) : PyData := if A.1.length + B.1.length ≤ 4 then toldD (shD (A.1 ++ B.1) A.2.1 A.2.2.1 A.2.2.2) else manyD ((A.1.length + B.1.length : Nat) : Int) 4
noncomputable def bhD (A B : SHD) : PyData := boD A.2.1 A.2.2.1 (one (IsBo A.1 A.2.1 A.2.2.1 A.2.2.2 B.1 B.2.1 B.2.2.1 B.2.2.2))
noncomputable def srD (A : SHD) (m : Int) : PyData := soD A.1 A.2.1 A.2.2.1 A.2.2.2 m (one (IsSo A.1 A.2.2.2 m))
noncomputable def pairD (n : Int) (A B : SHD) : List PyData := [bhD A B, beD A B] ++ [toldD (.tuple (papE (pcT A n) [] (pcT B n)))]
noncomputable def oneD (n : Int) (As : List SHD) (A : SHD) : List PyData := [srD A (n + 1), sheT A] ++ (As.map (pairD n A)).flatten
noncomputable def layT2 (m : Int) (l : LY) : List PyData := [toD l.1 (one (IsTo l.2 (evs l.1.length m))), toD l.1 (one (IsTo l.2 (scl (hds l.1) (tot l.1) m)))]
noncomputable def foundD (n : Int) (As : List SHD) (ys : List LY) : List PyData := (As.map (oneD n As)).flatten ++ (ys.map (layT2 (n + 1))).flatten
noncomputable def platesD (n : Int) (As : List SHD) : List PyData := As.map fun A => .list ((plT n A).map picD)
noncomputable def roundD (n : Int) (As : List SHD) (ys : List LY) : PyData := .tuple [.list (platesD n As), .list (foundD n As ys)]
theorem fl_next {α β : Type} {f : α → List β} {xs : List α} {i : Nat} {x : α} (h : xs[i]? = some x) : ((xs.take (i + 1)).map f).flatten = ((xs.take i).map f).flatten ++ f x := by
  rw [List.take_add_one, h, List.map_append, List.flatten_append]
  show _ ++ (f x ++ []) = _
  rw [List.append_nil]
/-- a list of plates -/
def PlsAt (K : PySem.W.Frag) (H : Hp) (p : Addr) (cs : List PIC) : Prop := ∃ us, H p = some (.lst us) ∧ us.length ≤ 200 ∧ Paired (PicAt K H) us cs
theorem PlsAt.keep {K : PySem.W.Frag} {H H' : Hp} {p : Addr} {cs : List PIC} (h : PlsAt K H p cs) (e : LamX.ExtN H H') : PlsAt K H' p cs := by
  obtain ⟨us, a, b, d⟩ := h
  exact ⟨us, e _ _ a lst_tbl, b, Paired.mono d fun _ _ => PicAt.keep (ext_tk e)⟩
theorem be_mg {K : PySem.W.Frag} {c : Nat → Addr} {A B : SHD} {Hb : Hp} {Rw : VK} (fin : ∀ (H' : Hp) (p : Addr), Same Hb H' → TA K H' (.ref p) (beD A B) → Rw (.ref p) H') :
    (A.1.length + B.1.length ≤ 4 → ∀ H' v, Same Hb H' → ShAt K H' v (A.1 ++ B.1) A.2.1 A.2.2.1 A.2.2.2 → 2 ≤ sizeLine ∧ ∀ p, H' p = none → Rw (.ref p) (upd H' p (.tup [.str "told", v]))) ∧
    (4 < A.1.length + B.1.length → ∀ H' d, Same Hb H' → Hb d = none → H' d = some (.xd [("most", .int 4), ("many", .int ((A.1.length + B.1.length : Nat) : Int))]) → EMet c Rw (.ref (c 14)) (some d) H') := by
  refine ⟨fun le H' v s' h => ?_, fun gt H' d s' nd ed => ?_⟩
  · rw [show beD A B = toldD (shD (A.1 ++ B.1) A.2.1 A.2.2.1 A.2.2.2) from if_pos le] at fin
    exact told_mg s' h.ta fin
  · rw [show beD A B = manyD ((A.1.length + B.1.length : Nat) : Int) 4 from if_neg (by omega)] at fin
    exact many_mg s' ed fin
theorem EntAt.dg {K : PySem.W.Frag} {fx H : Hp} {b : Bool} {v : V} {d : PyData} (h : EntAt K H v d) : Dg K fx H b v d := by
  obtain ⟨a, X, k, rfl, h, rfl, _⟩ := h
  exact .tup h (.cons (.str _) (.cons (.int _) .nil))
theorem ents_dg {K : PySem.W.Frag} {fx H : Hp} {b : Bool} : ∀ {xs : List V} {ds : List PyData}, Paired (EntAt K H) xs ds → DgAll K fx H b xs ds
  | _, _, .nil => .nil
  | _, _, .cons a t => .cons a.dg (ents_dg t)
theorem paired_in {α β : Type} {F G : α → β → Prop} : ∀ {l₁ : List α} {l₂ : List β}, Paired F l₁ l₂ → (∀ a b, a ∈ l₁ → F a b → G a b) → Paired G l₁ l₂
  | _, _, .nil, _ => .nil
  | _, _, .cons a t, h => .cons (h _ _ (List.mem_cons_self ..) a) (paired_in t fun x y m f => h x y (List.mem_cons_of_mem _ m) f)

theorem fill_mem {n h : Int} (hn : 0 ≤ n) (hh : h ∈ fill n) : 1 ≤ h ∧ h ≤ 24 := by
  unfold fill at hh
  rcases List.mem_append.mp hh with z | z
  · have := (List.mem_replicate.mp z).2
    omega
  · split at z
    · simp at z
    · have : h = n % 24 := by simpa using z
      omega
theorem padR_rows {rs : List RW} {L : Int} (v : ∀ r ∈ rs, VRow r) (h : tot rs ≤ L) : ∀ r ∈ padR rs L, VRow r := by
  intro r hr
  unfold padR at hr
  rcases List.mem_append.mp hr with z | z
  · exact v r z
  · obtain ⟨k, hk, rfl⟩ := List.mem_map.mp z
    have := fill_mem (by omega) hk
    exact ⟨by show (0 : Int) ≤ 0; decide, by show (0 : Int) ≤ 9; decide, this.1, this.2⟩
theorem lastXY_v {x y : Int} {ms : List MV} (v : VWin x y ms) : (-20 ≤ (lastXY x y ms).1 ∧ (lastXY x y ms).1 ≤ 20) ∧ (-20 ≤ (lastXY x y ms).2 ∧ (lastXY x y ms).2 ≤ 20) := by
  unfold lastXY
  cases h : ms.getLast? with
  | none => exact ⟨v.1, v.2.1⟩
  | some m =>
    have := v.2.2.2 m (List.mem_of_getLast? h)
    exact ⟨this.1, this.2.1⟩
theorem padM_moves {x y : Int} {ms : List MV} {L : Int} (v : VWin x y ms) (h : mtot ms ≤ L) : ∀ m ∈ padM x y ms L, VMove m := by
  intro m hm
  unfold padM at hm
  rcases List.mem_append.mp hm with z | z
  · exact v.2.2.2 m z
  · obtain ⟨k, hk, rfl⟩ := List.mem_map.mp z
    have := fill_mem (by omega) hk
    have l := lastXY_v v
    exact ⟨l.1, l.2, by show 0 ≤ k; omega, this.2⟩
/-- a sheet behind another is a sheet where it is not too great -/
theorem bo_valid {ls1 ls2 : List LY} {x1 y1 x2 y2 : Int} {ms1 ms2 : List MV} {L : Int} (vL1 : VLays ls1) (vw1 : VWin x1 y1 ms1) (vL2 : VLays ls2) (vw2 : VWin x2 y2 ms2) (el : ls1.length = ls2.length) (hls : ∀ l ∈ ls1, tot l.1 ≤ L ∧ l.2 = none) (hms : mtot ms1 ≤ L)
    (h8 : ∀ k ∈ List.zipWith (lbh L) ls1 ls2, k.1.length ≤ 8) (m8 : (mbh x1 y1 ms1 L x2 y2 ms2).length ≤ 8) : VLays (List.zipWith (lbh L) ls1 ls2) ∧ VWin x1 y1 (mbh x1 y1 ms1 L x2 y2 ms2) := by
  refine ⟨⟨?_, ?_, fun l hl => ?_⟩, vw1.1, vw1.2.1, m8, fun m hm => ?_⟩
  · rw [List.length_zipWith]
    have := vL1.1
    omega
  · rw [List.length_zipWith]
    have := vL1.2.1
    omega
  · have h := h8 l hl
    obtain ⟨i, hi, e⟩ := List.getElem_of_mem hl
    rw [List.getElem_zipWith] at e
    rw [List.length_zipWith] at hi
    have ma := List.getElem_mem (l := ls1) (n := i) (by omega)
    have mb := List.getElem_mem (l := ls2) (n := i) (by omega)
    have va := vL1.2.2 _ ma
    have vb := vL2.2.2 _ mb
    have ha := hls _ ma
    subst e
    generalize ls1[i] = a at va ha h ⊢
    generalize ls2[i] = b at vb h ⊢
    refine ⟨⟨h, fun r hr => ?_⟩, fun k hk => ?_⟩
    · rcases List.mem_append.mp hr with z | z
      · exact padR_rows va.1.2 ha.1 r z
      · exact vb.1.2 r z
    · obtain ⟨k', hk', rfl⟩ := Option.map_eq_some_iff.mp hk
      have := vb.2 k' hk'
      show _ ∧ _ < (((padR a.1 L ++ b.1).length : Nat) : Int)
      rw [List.length_append]
      omega
  · unfold mbh at hm
    rcases List.mem_append.mp hm with z | z
    · rcases List.mem_append.mp z with z | z
      · exact padM_moves vw1 hms m z
      · rw [List.mem_singleton.mp z]
        exact ⟨vw2.1, vw2.2.1, by show (0 : Int) ≤ 0; decide, by show (0 : Int) ≤ 24; decide⟩
    · exact vw2.2.2.2 m z
/-- what is told behind one another where it is told -/
theorem bo_okV {ls1 ls2 : List LY} {x1 y1 x2 y2 : Int} {ms1 ms2 : List MV} {bl : List LY} {ms : List MV} (vL1 : VLays ls1) (vw1 : VWin x1 y1 ms1) (vL2 : VLays ls2) (vw2 : VWin x2 y2 ms2) (h : IsBo ls1 x1 y1 ms1 ls2 x2 y2 ms2 (.ok bl ms)) : VLays bl ∧ VWin x1 y1 ms := by
  rcases h with ⟨_, e⟩ | ⟨el, r, hr, e⟩
  · cases e
  · cases r with
    | none => cases e
    | some L =>
      obtain ⟨L0, L1, hls, hms⟩ := shLen_bd vL1 vw1 hr
      have e' : BO.ok bl ms = bo2 (List.zipWith (lbh L) ls1 ls2) (mbh x1 y1 ms1 L x2 y2 ms2) := e
      unfold bo2 at e'
      split at e'
      · cases e'
      · rename_i hf
        split at e'
        · cases e'
        · rename_i hm
          cases e'
          have h8 : ∀ k ∈ List.zipWith (lbh L) ls1 ls2, k.1.length ≤ 8 := fun k hk => by
            have := List.find?_eq_none.mp hf k hk
            simp at this
            omega
          exact bo_valid vL1 vw1 vL2 vw2 el hls hms h8 (by omega)
/-- how many there are where there are too many -/
theorem bo_mn {ls1 ls2 : List LY} {x1 y1 x2 y2 : Int} {ms1 ms2 : List MV} {n : Nat} (vL1 : VLays ls1) (vw1 : VWin x1 y1 ms1) (vL2 : VLays ls2) (vw2 : VWin x2 y2 ms2) (h : IsBo ls1 x1 y1 ms1 ls2 x2 y2 ms2 (.mn n)) : n ≤ 40 := by
  rcases h with ⟨_, e⟩ | ⟨el, r, hr, e⟩
  · cases e
  · cases r with
    | none => cases e
    | some L =>
      obtain ⟨L0, L1, hls, hms⟩ := shLen_bd vL1 vw1 hr
      have e' : BO.mn n = bo2 (List.zipWith (lbh L) ls1 ls2) (mbh x1 y1 ms1 L x2 y2 ms2) := e
      unfold bo2 at e'
      split at e'
      · rename_i l hf
        cases e'
        have hl := List.mem_of_find?_eq_some hf
        obtain ⟨i, hi, e⟩ := List.getElem_of_mem hl
        rw [List.getElem_zipWith] at e
        rw [List.length_zipWith] at hi
        have ma := List.getElem_mem (l := ls1) (n := i) (by omega)
        have mb := List.getElem_mem (l := ls2) (n := i) (by omega)
        have va := (vL1.2.2 _ ma).1
        have vb := (vL2.2.2 _ mb).1
        have ha := hls _ ma
        subst e
        generalize ls1[i] = a at va ha ⊢
        generalize ls2[i] = b at vb ⊢
        have t0 := tot_nonneg va.2
        have f1 := fill_len (n := L - tot a.1) (by omega) (by omega)
        have a8 := va.1
        have b8 := vb.1
        show ((a.1 ++ (fill (L - tot a.1)).map fun h => ((0 : Int), h)) ++ b.1).length ≤ 40
        rw [List.length_append, List.length_append, List.length_map]
        omega
      · split at e'
        · rename_i hm
          cases e'
          have m0 := mtot_nonneg vw1.2.2.2
          have f1 := fill_len (n := L - mtot ms1) (by omega) (by omega)
          have a8 := vw1.2.2.1
          have b8 := vw2.2.2.1
          unfold mbh padM
          rw [List.length_append, List.length_append, List.length_append, List.length_map, List.length_singleton]
          omega
        · cases e'

/-! ### how much is shown -/
theorem RQ.fits2 {k w : Nat} {d : PyData} (h : RQ k w d) (hw : w ≤ 390000) : d.shown.length ≤ sizeLine := by
  have := PyData.shown_le 40 (by decide) d h.lv
  have := h.wt
  have e : sizeLine = 16777216 := by decide
  omega
theorem rq_abs {i : Int} {b : Nat} (h : i.natAbs < 2 ^ b) (hb : b ≤ 90) : RQ 0 b (.int i) := by
  have r := RQ.int (i := i) (Nat.lt_of_lt_of_le h (Nat.le_trans (Nat.pow_le_pow_right (by decide) hb) (by decide)))
  refine ⟨r.sh, r.dp, r.lv, ?_⟩
  show (if i == 0 then 0 else i.natAbs.log2 + 1) ≤ b
  split
  · exact Nat.zero_le _
  · rename_i hne
    have n0 : i.natAbs ≠ 0 := fun z => by
      have e : i = 0 := by omega
      subst e
      exact hne rfl
    exact (Nat.log2_lt n0).mpr h
theorem rq7 {i : Int} (h : -100 ≤ i ∧ i ≤ 100) : RQ 0 7 (.int i) := rq_abs (b := 7) (show i.natAbs < 128 by omega) (by decide)
theorem rq8 {i : Int} (h : -200 ≤ i ∧ i ≤ 200) : RQ 0 8 (.int i) := rq_abs (b := 8) (show i.natAbs < 256 by omega) (by decide)
theorem rq20 {i : Int} (h : i.natAbs ≤ 100000) : RQ 0 20 (.int i) := rq_abs (b := 20) (show i.natAbs < 1048576 by omega) (by decide)
theorem rqs_row {r : RW} (h : VRow r) : RQ 1 16 (rwD r) := by
  obtain ⟨h1, h2, h3, h4⟩ := h
  refine RQ.tup (k := 0) (w := 7) (fun e he => ?_) (by show 2 * 8 ≤ 16; decide)
  rcases mem2 he with rfl | rfl <;> exact rq7 (by omega)
theorem rqs_bk {rs : List RW} {bk : Option Int} (v8 : rs.length ≤ 8) (h : VBack rs bk) : RQ 0 7 (bkD bk) := by
  cases bk with
  | none => exact ⟨rfl, Nat.le_refl _, rfl, Nat.zero_le _⟩
  | some i =>
    have := h i rfl
    exact rq7 (by omega)
theorem rqs_ly {l : LY} (h : VLy l) : RQ 3 274 (lyD l) := by
  refine RQ.tup (k := 2) (w := 136) (fun e he => ?_) (by show 2 * 137 ≤ 274; decide)
  have h8 := h.1.1
  rcases mem2 he with rfl | rfl
  · refine RQ.tup (k := 1) (w := 16) (fun e he => ?_) (by rw [List.length_map]; omega)
    obtain ⟨r, hr, rfl⟩ := List.mem_map.mp he
    exact rqs_row (h.1.2 r hr)
  · exact (rqs_bk h8 h.2).more (by decide) (by decide)
theorem rqs_mv {m : MV} (h : VMove m) : RQ 1 24 (mvD m) := by
  obtain ⟨h1, h2, h3, h4⟩ := h
  refine RQ.tup (k := 0) (w := 7) (fun e he => ?_) (by show 3 * 8 ≤ 24; decide)
  rcases mem3 he with rfl | rfl | rfl <;> exact rq7 (by omega)
theorem rqs_win {x y : Int} {ms : List MV} (h : VWin x y ms) : RQ 3 603 (winD x y ms) := by
  obtain ⟨h1, h2, h3, h4⟩ := h
  refine RQ.tup (k := 2) (w := 200) (fun e he => ?_) (by show 3 * 201 ≤ 603; decide)
  rcases mem3 he with rfl | rfl | rfl
  · exact (rq7 (by omega)).more (by decide) (by decide)
  · exact (rq7 (by omega)).more (by decide) (by decide)
  · refine RQ.tup (k := 1) (w := 24) (fun e he => ?_) (by rw [List.length_map]; omega)
    obtain ⟨r, hr, rfl⟩ := List.mem_map.mp he
    exact rqs_mv (h4 r hr)
theorem rqs_sh {ls : List LY} {x y : Int} {ms : List MV} (h : VLays ls) (hw : VWin x y ms) : RQ 5 2202 (shD ls x y ms) := by
  refine RQ.tup (k := 4) (w := 1100) (fun e he => ?_) (by show 2 * 1101 ≤ 2202; decide)
  have h4 := h.2.1
  rcases mem2 he with rfl | rfl
  · refine RQ.tup (k := 3) (w := 274) (fun e he => ?_) (by rw [List.length_map]; omega)
    obtain ⟨r, hr, rfl⟩ := List.mem_map.mp he
    exact rqs_ly (h.2.2 r hr)
  · exact (rqs_win hw).more (by decide) (by decide)
theorem rqw_told : RQ 0 7 (.str "told") := ⟨by decide +kernel, by decide +kernel, by decide +kernel, by decide +kernel⟩
theorem rqw_refused : RQ 0 7 (.str "refused") := ⟨by decide +kernel, by decide +kernel, by decide +kernel, by decide +kernel⟩
theorem rqw_many : RQ 0 7 (.str "many") := ⟨by decide +kernel, by decide +kernel, by decide +kernel, by decide +kernel⟩
theorem rqw_kept : RQ 0 8 (.str (Str.ofString "kept")) := ⟨by decide +kernel, by decide +kernel, by decide +kernel, by decide +kernel⟩
theorem rqw_made : RQ 0 8 (.str (Str.ofString "made")) := ⟨by decide +kernel, by decide +kernel, by decide +kernel, by decide +kernel⟩
/-- an answer -/
abbrev RQA (d : PyData) : Prop := RQ 6 4406 d
theorem rqs_told {k w : Nat} {d : PyData} (h : RQ k w d) (hk : k ≤ 5) (hw : w ≤ 2202) : RQA (toldD d) := by
  refine RQ.tup (k := 5) (w := 2202) (fun e he => ?_) (by show 2 * 2203 ≤ 4406; decide)
  rcases mem2 he with rfl | rfl
  · exact rqw_told.more (by decide) (by decide)
  · exact h.more hk hw
theorem rqs_ref {i : Int} (h : -100 ≤ i ∧ i ≤ 100) : RQA (refD i) := by
  refine (RQ.tup (k := 0) (w := 7) (n := 16) (fun e he => ?_) (by show 2 * 8 ≤ 16; decide)).more (by decide) (by decide)
  rcases mem2 he with rfl | rfl
  · exact rqw_refused
  · exact rq7 h
theorem rqs_many {m n : Int} (h : m.natAbs < 10 ^ 30) (h2 : n.natAbs < 10 ^ 30) : RQA (manyD m n) := by
  refine (RQ.tup (k := 1) (w := 202) (n := 406) (fun e he => ?_) (by show 2 * 203 ≤ 406; decide)).more (by decide) (by decide)
  rcases mem2 he with rfl | rfl
  · exact rqw_many.more (by decide) (by decide)
  · refine RQ.tup (k := 0) (w := 100) (fun e he => ?_) (by show 2 * 101 ≤ 202; decide)
    rcases mem2 he with rfl | rfl
    · exact RQ.int h
    · exact RQ.int h2
theorem lt30 {i : Int} {n : Nat} (h : i.natAbs ≤ n) (hn : n < 10 ^ 30) : i.natAbs < 10 ^ 30 := Nat.lt_of_le_of_lt h hn
theorem big30 : (100000 : Nat) < 10 ^ 30 := by decide
/-! ### what is told, where it is a sheet -/
theorem max_ex : ∀ (xs : List Int), xs ≠ [] → ∃ M ∈ xs, ∀ x ∈ xs, x ≤ M
  | [], h => absurd rfl h
  | [a], _ => ⟨a, List.mem_cons_self, fun x hx => by rw [List.mem_singleton.mp hx]; exact Int.le_refl _⟩
  | a :: b :: t, _ => by
    obtain ⟨M, hM, h⟩ := max_ex (b :: t) (by simp)
    by_cases c : a ≤ M
    · refine ⟨M, List.mem_cons_of_mem _ hM, fun x hx => ?_⟩
      rcases List.mem_cons.mp hx with rfl | z
      · exact c
      · exact h x z
    · refine ⟨a, List.mem_cons_self, fun x hx => ?_⟩
      rcases List.mem_cons.mp hx with rfl | z
      · exact Int.le_refl _
      · have := h x z
        omega
theorem shLen_ex (ls : List LY) (last : Int) : ∃ r, ShLen ls last r := by
  by_cases h : ∃ l ∈ ls, lenL l = none
  · exact ⟨none, .inl ⟨h, rfl⟩⟩
  · obtain ⟨M, hM, hx⟩ := max_ex (ls.map (fun l => tot l.1) ++ [last]) (by simp)
    refine ⟨some M, .inr ⟨fun l hl => ?_, M, rfl, hM, hx⟩⟩
    cases e : l.2 with
    | none => unfold lenL; rw [e]
    | some k =>
      refine absurd ⟨l, hl, ?_⟩ h
      unfold lenL
      rw [e]
theorem bo_ex (ls1 : List LY) (x1 y1 : Int) (ms1 : List MV) (ls2 : List LY) (x2 y2 : Int) (ms2 : List MV) : ∃ o, IsBo ls1 x1 y1 ms1 ls2 x2 y2 ms2 o := by
  by_cases e : ls1.length = ls2.length
  · obtain ⟨r, hr⟩ := shLen_ex ls1 (mtot ms1)
    exact ⟨_, .inr ⟨e, r, hr, rfl⟩⟩
  · exact ⟨_, .inl ⟨e, rfl⟩⟩
theorem to_ex (bk : Option Int) (hs : List Int) : ∃ o, IsTo bk hs o := by
  by_cases b : bk = none
  · by_cases s : hs = [] ∨ ∃ h ∈ hs, h < 1
    · exact ⟨_, .inr (.inl ⟨b, s, rfl⟩)⟩
    · have n : hs ≠ [] := fun z => s (.inl z)
      obtain ⟨M, hM, hx⟩ := max_ex hs n
      have a : ∀ h ∈ hs, 1 ≤ h := fun h hh => by
        apply Classical.byContradiction
        intro z
        exact s (.inr ⟨h, hh, by omega⟩)
      by_cases g : 24 < M
      · exact ⟨_, .inr (.inr ⟨b, n, a, M, hM, hx, .inl ⟨g, rfl⟩⟩)⟩
      · exact ⟨_, .inr (.inr ⟨b, n, a, M, hM, hx, .inr ⟨by omega, rfl⟩⟩)⟩
  · exact ⟨_, .inl ⟨b, rfl⟩⟩
theorem scl_ne {ns : List Int} {L m : Int} (h : ns ≠ []) : scl ns L m ≠ [] := fun z => h (List.length_eq_zero_iff.mp (by rw [← scl_len ns L m, z]; rfl))
theorem so_ex (ls : List LY) (ms : List MV) (m : Int) : ∃ o, IsSo ls ms m o := by
  obtain ⟨r, hr⟩ := shLen_ex ls (mtot ms)
  cases r with
  | none => exact ⟨_, none, hr, .inl ⟨rfl, rfl⟩⟩
  | some L =>
    by_cases z : L = 0
    · subst z
      exact ⟨_, _, hr, .inr (.inl ⟨rfl, rfl⟩)⟩
    · by_cases s : ∃ h ∈ hsc ls L m, h < 1
      · exact ⟨_, _, hr, .inr (.inr ⟨L, rfl, z, .inl ⟨s, rfl⟩⟩)⟩
      · have a : ∀ h ∈ hsc ls L m, 1 ≤ h := fun h hh => by
          apply Classical.byContradiction
          intro z
          exact s ⟨h, hh, by omega⟩
        have n : hsc ls L m ++ scl (mds ms) L m ≠ [] := by
          rcases hr with ⟨_, e⟩ | ⟨_, M, e, hM, _⟩
          · cases e
          · cases e
            rcases List.mem_append.mp hM with y | y
            · obtain ⟨l, hl, e⟩ := List.mem_map.mp y
              have ne : l.1 ≠ [] := fun w => z (by rw [← e, w]; rfl)
              have n2 : scl (hds l.1) L m ≠ [] := scl_ne fun w => ne (List.map_eq_nil_iff.mp w)
              obtain ⟨q, hq⟩ := List.exists_mem_of_ne_nil _ n2
              refine List.ne_nil_of_mem (a := q) (List.mem_append_left _ ?_)
              unfold hsc
              exact List.mem_flatten.mpr ⟨_, List.mem_map.mpr ⟨l, hl, rfl⟩, hq⟩
            · have ne : ms ≠ [] := fun w => z (by rw [List.mem_singleton.mp y, w]; rfl)
              have n2 : scl (mds ms) L m ≠ [] := scl_ne fun w => ne (List.map_eq_nil_iff.mp w)
              obtain ⟨q, hq⟩ := List.exists_mem_of_ne_nil _ n2
              exact List.ne_nil_of_mem (a := q) (List.mem_append_right _ hq)
        obtain ⟨M, hM, hx⟩ := max_ex _ n
        by_cases g : 24 < M
        · exact ⟨_, _, hr, .inr (.inr ⟨L, rfl, z, .inr ⟨a, M, hM, hx, .inl ⟨g, rfl⟩⟩⟩)⟩
        · exact ⟨_, _, hr, .inr (.inr ⟨L, rfl, z, .inr ⟨a, M, hM, hx, .inr ⟨by omega, rfl⟩⟩⟩)⟩
theorem one_spec {α : Type} [Nonempty α] {p : α → Prop} (h : ∃ a, p a) : p (one p) := Classical.epsilon_spec h
/-- shares are small -/
theorem scf_small {ns : List Int} {L m : Int} {i : Nat} (hL : 0 < L) (m0 : 0 ≤ m) (m1 : m ≤ 200) (h : ∀ i, 0 ≤ ps ns i ∧ ps ns i ≤ 192) : (scf ns L m i).natAbs ≤ 100000 := by
  have one : ∀ j, 0 ≤ ps ns j * m / L ∧ ps ns j * m / L ≤ 40000 := fun j => by
    obtain ⟨a, b⟩ := h j
    have c : 0 ≤ ps ns j * m := Int.mul_nonneg a m0
    have e : ps ns j * m ≤ 192 * 200 := Int.mul_le_mul b m1 m0 (by decide)
    refine ⟨Int.ediv_nonneg c (by omega), ?_⟩
    have := Int.ediv_le_self L c
    omega
  have a := one i
  have b := one (i + 1)
  unfold scf
  omega
theorem scl_small {ns : List Int} {L m x : Int} (hL : 0 < L) (m0 : 0 ≤ m) (m1 : m ≤ 200) (h : ∀ i, 0 ≤ ps ns i ∧ ps ns i ≤ 192) (hx : x ∈ scl ns L m) : x.natAbs ≤ 100000 := by
  unfold scl at hx
  obtain ⟨i, _, rfl⟩ := List.mem_map.mp hx
  exact scf_small hL m0 m1 h
theorem mtot_take (ms : List MV) (i : Nat) : ps (mds ms) i = mtot (ms.take i) := by
  unfold ps mds mtot
  rw [List.map_take]
theorem psm_bd {ms : List MV} (v : ∀ m ∈ ms, VMove m) (h8 : ms.length ≤ 8) (i : Nat) : 0 ≤ ps (mds ms) i ∧ ps (mds ms) i ≤ 192 := by
  rw [mtot_take]
  have t := mtot_nonneg (ms := ms.take i) fun r hr => v r (List.mem_of_mem_take hr)
  rw [List.length_take] at t
  omega
theorem evs_small {k : Nat} {m x : Int} (k8 : k ≤ 8) (m0 : 0 ≤ m) (m1 : m ≤ 200) (hx : x ∈ evs k m) : x.natAbs ≤ 100000 := by
  unfold evs at hx
  obtain ⟨a, ha, rfl⟩ := List.mem_map.mp hx
  have := List.mem_range.mp ha
  rcases (by omega : k = 1 ∨ k = 2 ∨ k = 3 ∨ k = 4 ∨ k = 5 ∨ k = 6 ∨ k = 7 ∨ k = 8) with e | e | e | e | e | e | e | e <;> subst e <;> omega
theorem rq_bo {A B : SHD} (vA : VS A) (vB : VS B) : RQA (bhD A B) := by
  unfold bhD
  have sp := one_spec (bo_ex A.1 A.2.1 A.2.2.1 A.2.2.2 B.1 B.2.1 B.2.2.1 B.2.2.2)
  generalize one (IsBo A.1 A.2.1 A.2.2.1 A.2.2.2 B.1 B.2.1 B.2.2.1 B.2.2.2) = o at sp ⊢
  cases o with
  | un => exact rqs_ref (by decide)
  | en => exact rqs_ref (by decide)
  | mn n =>
    have := bo_mn vA.1 vA.2 vB.1 vB.2 sp
    exact rqs_many (lt30 (n := 100000) (by omega) big30) (lt30 (n := 100000) (by decide) big30)
  | ok bl ms =>
    obtain ⟨a, b⟩ := bo_okV vA.1 vA.2 vB.1 vB.2 sp
    exact rqs_told (rqs_sh a b) (by decide) (by decide)
theorem rq_be {A B : SHD} (vA : VS A) (vB : VS B) : RQA (beD A B) := by
  unfold beD
  split
  · rename_i le
    refine rqs_told (rqs_sh ⟨?_, ?_, fun l hl => ?_⟩ vA.2) (by decide) (by decide)
    · rw [List.length_append]
      have := vA.1.1
      omega
    · rw [List.length_append]
      exact le
    · rcases List.mem_append.mp hl with z | z
      · exact vA.1.2.2 l z
      · exact vB.1.2.2 l z
  · have a := vA.1.2.1
    have b := vB.1.2.1
    exact rqs_many (lt30 (n := 100000) (by omega) big30) (lt30 (n := 100000) (by decide) big30)
theorem hsc_mem {ls : List LY} {L m x : Int} (h : x ∈ hsc ls L m) : ∃ l ∈ ls, x ∈ scl (hds l.1) L m := by
  unfold hsc at h
  obtain ⟨ks, hk, hx⟩ := List.mem_flatten.mp h
  obtain ⟨l, hl, rfl⟩ := List.mem_map.mp hk
  exact ⟨l, hl, hx⟩
theorem rq_so {A : SHD} (vA : VS A) {m : Int} (m0 : 0 ≤ m) (m1 : m ≤ 200) : RQA (srD A m) := by
  unfold srD
  have sp := one_spec (so_ex A.1 A.2.2.2 m)
  generalize one (IsSo A.1 A.2.2.2 m) = o at sp ⊢
  obtain ⟨vL, vw⟩ := vA
  obtain ⟨r, hr, sp⟩ := sp
  cases o with
  | en => exact rqs_ref (by decide)
  | sq => exact rqs_ref (by decide)
  | mn M =>
    rcases sp with ⟨_, e⟩ | ⟨_, e⟩ | ⟨L, e1, nL, sp⟩
    · cases e
    · cases e
    · subst e1
      obtain ⟨L0, L1, _, _⟩ := shLen_bd vL vw hr
      rcases sp with ⟨_, e⟩ | ⟨_, M', hM, _, ⟨_, e⟩ | ⟨_, e⟩⟩
      · cases e
      · cases e
        refine rqs_many (lt30 (n := 100000) ?_ big30) (lt30 (n := 100000) (by decide) big30)
        rcases List.mem_append.mp hM with z | z
        · obtain ⟨l, hl, hx⟩ := hsc_mem z
          have v := (vL.2.2 l hl).1
          exact scl_small (by omega) m0 m1 (ps_bd v.2 v.1) hx
        · exact scl_small (by omega) m0 m1 (psm_bd vw.2.2.2 vw.2.2.1) z
      · cases e
  | ok L =>
    rcases sp with ⟨_, e⟩ | ⟨_, e⟩ | ⟨L', e1, nL, sp⟩
    · cases e
    · cases e
    · subst e1
      obtain ⟨L0, L1, hend, _⟩ := shLen_bd vL vw hr
      rcases sp with ⟨_, e⟩ | ⟨all, M', hM, hx, ⟨_, e⟩ | ⟨l24, e⟩⟩
      · cases e
      · cases e
      · cases e
        refine rqs_told (rqs_sh ⟨?_, ?_, fun l hl => ?_⟩ ⟨vw.1, vw.2.1, ?_, fun v hv => ?_⟩) (by decide) (by decide)
        · rw [List.length_map]; exact vL.1
        · rw [List.length_map]; exact vL.2.1
        · obtain ⟨k, hk, rfl⟩ := List.mem_map.mp hl
          have v := (vL.2.2 k hk).1
          have inn : ∀ x ∈ scl (hds k.1) L m, x ∈ hsc A.1 L m := fun x hx => by
            unfold hsc
            exact List.mem_flatten.mpr ⟨_, List.mem_map.mpr ⟨k, hk, rfl⟩, hx⟩
          refine ⟨wh_rows v (by rw [scl_len]; unfold hds; rw [List.length_map]) fun x hx' => ⟨all x (inn x hx'), ?_⟩, fun i hi => ?_⟩
          · have := hx x (List.mem_append_left _ (inn x hx'))
            omega
          · have e0 := (hend k hk).2
            have hi' : k.2 = some i := hi
            rw [e0] at hi'
            cases hi'
        · rw [wm_len (by rw [scl_len, mds_len])]
          exact vw.2.2.1
        · obtain ⟨i, hi, e⟩ := List.getElem_of_mem hv
          have hi' : i < A.2.2.2.length := by rw [wm_len (by rw [scl_len, mds_len])] at hi; exact hi
          have hk : i < (scl (mds A.2.2.2) L m).length := by rw [scl_len, mds_len]; exact hi'
          have e2 := wm_at (List.getElem?_eq_getElem hi') (List.getElem?_eq_getElem hk)
          rw [List.getElem?_eq_getElem hi, e] at e2
          have vm := vw.2.2.2 _ (List.getElem_mem hi')
          have hm := List.getElem_mem hk
          have le := hx _ (List.mem_append_right _ hm)
          have ge : 0 ≤ (scl (mds A.2.2.2) L m)[i] := by
            have e3 := scl_at (L := L) (m := m) (show i < (mds A.2.2.2).length by rw [mds_len]; exact hi')
            rw [List.getElem?_eq_getElem hk] at e3
            rw [Option.some.inj e3]
            have hn : (mds A.2.2.2)[i]? = some A.2.2.2[i].2.2 := by
              unfold mds
              rw [List.getElem?_map, List.getElem?_eq_getElem hi']
              rfl
            exact scf_nonneg (by omega) m0 hn vm.2.2.1
          rw [Option.some.inj e2]
          exact ⟨vm.1, vm.2.1, ge, Int.le_trans le l24⟩
theorem rq_to {l : LY} (v : VLy l) {hs : List Int} (hl : hs.length = l.1.length) (sm : ∀ x ∈ hs, x.natAbs ≤ 100000) : RQA (toD l.1 (one (IsTo l.2 hs))) := by
  have sp := one_spec (to_ex l.2 hs)
  generalize one (IsTo l.2 hs) = o at sp ⊢
  cases o with
  | en => exact rqs_ref (by decide)
  | sq => exact rqs_ref (by decide)
  | mn M =>
    rcases sp with ⟨_, e⟩ | ⟨_, _, e⟩ | ⟨_, _, _, M', hM, _, ⟨_, e⟩ | ⟨_, e⟩⟩
    · cases e
    · cases e
    · cases e
      exact rqs_many (lt30 (sm _ hM) big30) (lt30 (n := 100000) (by decide) big30)
    · cases e
  | ok ks =>
    rcases sp with ⟨_, e⟩ | ⟨_, _, e⟩ | ⟨_, _, all, M', hM, hx, ⟨_, e⟩ | ⟨l24, e⟩⟩
    · cases e
    · cases e
    · cases e
    · cases e
      refine rqs_told (rqs_ly ⟨wh_rows v.1 hl fun x hx' => ⟨all x hx', ?_⟩, fun i hi => by cases hi⟩) (by decide) (by decide)
      have := hx x hx'
      omega
/-- a paper told -/
theorem rq_entE {cs1 md : List PIC} {c : PIC} (h1 : cs1.length ≤ 40) (h2 : md.length ≤ 100) : RQ 1 18 (entE cs1 md c) := by
  have tw : ∀ {X k : PyData}, RQ 0 8 X → RQ 0 8 k → RQ 1 18 (.tuple [X, k]) := fun a b => by
    refine RQ.tup (k := 0) (w := 8) (fun e he => ?_) (by show 2 * 9 ≤ 18; decide)
    rcases mem2 he with rfl | rfl
    · exact a
    · exact b
  unfold entE
  split
  · have := List.idxOf_le_length (a := c) (l := cs1)
    exact tw rqw_kept (rq8 (by omega))
  · have a := List.idxOf_le_length (a := c) (l := nxt cs1 md c)
    have b := nxt_le (cs1 := cs1) (md := md) (c := c)
    exact tw rqw_made (rq8 (by omega))
theorem rq_papE {cs1 : List PIC} (h1 : cs1.length ≤ 40) : ∀ {cs md : List PIC}, md.length + cs.length ≤ 100 → ∀ e ∈ papE cs1 md cs, RQ 1 18 e
  | [], _, _, e, he => by cases he
  | c :: cs, md, h, e, he => by
    rw [List.length_cons] at h
    rcases List.mem_cons.mp he with rfl | z
    · exact rq_entE h1 (by omega)
    · have b := nxt_le (cs1 := cs1) (md := md) (c := c)
      exact rq_papE h1 (by omega) e z
theorem pcT_len (A : SHD) (n : Int) : (pcT A n).length = n.toNat := pcs_len
theorem rq_pap {A B : SHD} {n : Int} (n1 : n ≤ 40) : RQA (toldD (.tuple (papE (pcT A n) [] (pcT B n)))) := by
  have lA := pcT_len A n
  have lB := pcT_len B n
  refine rqs_told (k := 2) (w := 760) (RQ.tup (k := 1) (w := 18) (rq_papE (by omega) (by rw [List.length_nil]; omega)) ?_) (by decide) (by decide)
  rw [papE_len]
  omega
/-! ### pictures -/
theorem lo_sm {t b : Int} (hb : 1 ≤ b ∧ b ≤ 24) (ht : t.natAbs ≤ 100000) : (lo t b).1.natAbs ≤ 100000 ∧ (lo t b).2.natAbs ≤ 100000 := by
  unfold lo
  refine ⟨?_, ?_⟩
  · show (t / _).natAbs ≤ _
    exact Nat.le_trans (Int.natAbs_ediv_le_natAbs _ _) ht
  · show (b / _).natAbs ≤ _
    have := Int.natAbs_ediv_le_natAbs b ((Nat.gcd t.natAbs b.natAbs : Nat) : Int)
    omega
theorem mul_sm {a b : Int} {m n : Nat} (ha : a.natAbs ≤ m) (hb : b.natAbs ≤ n) : (a * b).natAbs ≤ m * n := by
  rw [Int.natAbs_mul]
  exact Nat.mul_le_mul ha hb
def SmP (p : RW × RW) : Prop := (p.1.1.natAbs ≤ 100000 ∧ p.1.2.natAbs ≤ 100000) ∧ (p.2.1.natAbs ≤ 100000 ∧ p.2.2.natAbs ≤ 100000)
theorem plc_sm : ∀ (ms : List MV) (x y t : Int), (-20 ≤ x ∧ x ≤ 20) → (-20 ≤ y ∧ y ≤ 20) → 0 ≤ t → (∀ m ∈ ms, VMove m) → SmP (plc x y ms t)
  | [], x, y, t, hx, hy, _, _ => by
    rw [plc_nil]
    show (x.natAbs ≤ 100000 ∧ (1 : Int).natAbs ≤ 100000) ∧ (y.natAbs ≤ 100000 ∧ (1 : Int).natAbs ≤ 100000)
    omega
  | m :: r, x, y, t, hx, hy, ht, h => by
    have hm := h m List.mem_cons_self
    obtain ⟨m1, m2, m3, m4⟩ := hm
    rw [plc_cons]
    split
    · rename_i hlt
      have one : ∀ (s g : Int), (-20 ≤ s ∧ s ≤ 20) → (-20 ≤ g ∧ g ≤ 20) → (s * m.2.2 + (g - s) * (t + 1)).natAbs ≤ 100000 := fun s g hs hg => by
        have h1 := mul_sm (a := s) (b := m.2.2) (m := 20) (n := 24) (by omega) (by omega)
        have h2 := mul_sm (a := g - s) (b := t + 1) (m := 40) (n := 24) (by omega) (by omega)
        have := Int.natAbs_add_le (s * m.2.2) ((g - s) * (t + 1))
        omega
      exact ⟨lo_sm ⟨by omega, m4⟩ (one x m.1 hx m1), lo_sm ⟨by omega, m4⟩ (one y m.2.1 hy m2)⟩
    · exact plc_sm r m.1 m.2.1 (t - m.2.2) m1 m2 (by omega) fun z hz => h z (List.mem_cons_of_mem _ hz)
theorem walk_sm : ∀ (rs : List RW) (m : Int), (∀ r ∈ rs, VRow r) → (walk rs m).natAbs ≤ 9
  | [], _, _ => by show (0 : Int).natAbs ≤ 9; decide
  | r :: t, m, v => by
    have v1 := v r List.mem_cons_self
    unfold walk
    split
    · have a := v1.1
      have b := v1.2.1
      omega
    · exact walk_sm t _ fun q hq => v q (List.mem_cons_of_mem _ hq)
theorem rq_picT {A : SHD} (vA : VS A) {m : Int} (m0 : 0 ≤ m) : RQ 4 174 (picD (pic A.1 A.2.1 A.2.2.1 A.2.2.2 m)) := by
  have pl := plc_sm A.2.2.2 A.2.1 A.2.2.1 m vA.2.1 vA.2.2.1 m0 vA.2.2.2.2
  have rw2 : ∀ {a b : Int}, a.natAbs ≤ 100000 → b.natAbs ≤ 100000 → RQ 1 42 (.tuple [.int a, .int b]) := fun ha hb => by
    refine RQ.tup (k := 0) (w := 20) (fun e he => ?_) (by show 2 * 21 ≤ 42; decide)
    rcases mem2 he with rfl | rfl
    · exact rq20 ha
    · exact rq20 hb
  refine RQ.tup (k := 3) (w := 86) (fun e he => ?_) (by show 2 * 87 ≤ 174; decide)
  rcases mem2 he with rfl | rfl
  · refine (RQ.tup (k := 0) (w := 20) (n := 84) (fun e he => ?_) ?_).more (by decide) (by decide)
    · obtain ⟨c, hc, rfl⟩ := List.mem_map.mp he
      obtain ⟨l, hl, rfl⟩ := List.mem_map.mp hc
      have := walk_sm l.1 (near l.1 l.2 m) (vA.1.2.2 l hl).1.2
      exact rq20 (Nat.le_trans this (by decide))
    · have := vA.1.2.1
      show ((A.1.map fun l => shown l.1 l.2 m).map PyData.int).length * 21 ≤ 84
      rw [List.length_map, List.length_map]
      omega
  · refine (RQ.tup (k := 1) (w := 42) (n := 86) (fun e he => ?_) (by show 2 * 43 ≤ 86; decide)).more (by decide) (by decide)
    rcases mem2 he with rfl | rfl
    · exact rw2 pl.1.1 pl.1.2
    · exact rw2 pl.2.1 pl.2.2
theorem rq_pls {A : SHD} (vA : VS A) {n : Int} {cs : List PIC} (ip : IsPl (pcT A n) cs) (hl : cs.length ≤ 200) : RQ 5 35000 (.list (cs.map picD)) := by
  refine RQ.lst (k := 4) (w := 174) (fun e he => ?_) (by rw [List.length_map]; omega)
  obtain ⟨c, hc, rfl⟩ := List.mem_map.mp he
  have hm := (ip.2 c).mp hc
  unfold pcT pcs at hm
  obtain ⟨i, _, rfl⟩ := List.mem_map.mp hm
  exact rq_picT vA (by omega)
/-! ### all that is told -/
theorem RQ.pair {k w1 w2 n : Nat} {a b : PyData} (ha : RQ k w1 a) (hb : RQ k w2 b) (hn : w1 + w2 + 2 ≤ n) : RQ (k + 1) n (.tuple [a, b]) := by
  refine ⟨?_, ?_, ?_, ?_⟩
  · show (a.showable && (b.showable && true)) = true
    rw [ha.sh, hb.sh]
    rfl
  · have h : PyData.depthAll [a, b] ≤ k := by
      show max a.depth (max b.depth 0) ≤ k
      exact Nat.max_le.mpr ⟨ha.dp, Nat.max_le.mpr ⟨hb.dp, Nat.zero_le _⟩⟩
    exact Nat.succ_le_succ h
  · show (a.leavesShort 40 && (b.leavesShort 40 && true)) = true
    rw [ha.lv, hb.lv]
    rfl
  · show a.weight + 1 + (b.weight + 1 + 0) ≤ n
    have := ha.wt
    have := hb.wt
    omega
theorem found_rq {n : Int} {As : List SHD} {ys : List LY} (vA : ∀ A ∈ As, VS A) (vY : ∀ l ∈ ys, VLy l) (n0 : 0 ≤ n) (n1 : n ≤ 40) : ∀ e ∈ foundD n As ys, RQA e := by
  intro e he
  unfold foundD at he
  rcases List.mem_append.mp he with z | z
  · obtain ⟨ds, hd, he⟩ := List.mem_flatten.mp z
    obtain ⟨A, hA, rfl⟩ := List.mem_map.mp hd
    have v1 := vA A hA
    unfold oneD at he
    rcases List.mem_append.mp he with z | z
    · rcases mem2 z with rfl | rfl
      · exact rq_so v1 (by omega) (by omega)
      · exact (rqs_sh v1.1 v1.2).more (by decide) (by decide)
    · obtain ⟨ds, hd, he⟩ := List.mem_flatten.mp z
      obtain ⟨B, hB, rfl⟩ := List.mem_map.mp hd
      have v2 := vA B hB
      unfold pairD at he
      rcases List.mem_append.mp he with z | z
      · rcases mem2 z with rfl | rfl
        · exact rq_bo v1 v2
        · exact rq_be v1 v2
      · rw [List.mem_singleton.mp z]
        exact rq_pap n1
  · obtain ⟨ds, hd, he⟩ := List.mem_flatten.mp z
    obtain ⟨l, hl, rfl⟩ := List.mem_map.mp hd
    have v := vY l hl
    have v8 := v.1.1
    unfold layT2 at he
    rcases mem2 he with rfl | rfl
    · exact rq_to v (by unfold evs; rw [List.length_map, List.length_range]) fun x hx => evs_small v8 (by omega) (by omega) hx
    · refine rq_to v (by rw [scl_len]; unfold hds; rw [List.length_map]) fun x hx => ?_
      by_cases t0 : tot l.1 = 0
      · rw [t0] at hx
        unfold scl at hx
        obtain ⟨i, _, rfl⟩ := List.mem_map.mp hx
        unfold scf
        rw [Int.ediv_zero, Int.ediv_zero]
        decide
      · have := tot_nonneg v.1.2
        exact scl_small (by omega) (by omega) (by omega) (ps_bd v.1.2 v8) hx
theorem flat_len {α β : Type} {f : α → List β} {k : Nat} : ∀ {xs : List α}, (∀ x ∈ xs, (f x).length = k) → ((xs.map f).flatten).length = k * xs.length
  | [], _ => rfl
  | x :: t, h => by
    rw [List.map_cons, List.flatten_cons, List.length_append, h x List.mem_cons_self, flat_len fun y hy => h y (List.mem_cons_of_mem _ hy), List.length_cons, Nat.mul_add, Nat.mul_one, Nat.add_comm]
theorem found_len {n : Int} {As : List SHD} {ys : List LY} : (foundD n As ys).length = (2 + 3 * As.length) * As.length + 2 * ys.length := by
  unfold foundD
  rw [List.length_append, flat_len (k := 2 + 3 * As.length) fun A _ => ?_, flat_len (k := 2) fun _ _ => rfl]
  unfold oneD
  rw [List.length_append, flat_len (k := 3) fun _ _ => rfl]
  rfl
theorem round_rq {n : Int} {As : List SHD} {ys : List LY} (vA : ∀ A ∈ As, VS A) (vY : ∀ l ∈ ys, VLy l) (n0 : 0 ≤ n) (n1 : n ≤ 40) (l3 : As.length ≤ 3) (l2 : ys.length ≤ 2)
    (ip : ∀ A ∈ As, ∃ cs, IsPl (pcT A n) cs ∧ cs.length ≤ 200) : RQ 8 300000 (roundD n As ys) := by
  unfold roundD
  refine RQ.pair (k := 7) (w1 := 105003) (w2 := 170000) ?_ ?_ (by decide)
  · refine (RQ.lst (k := 5) (w := 35000) (n := 105003) (fun e he => ?_) ?_).more (by decide) (by decide)
    · unfold platesD at he
      obtain ⟨A, hA, rfl⟩ := List.mem_map.mp he
      obtain ⟨cs, h1, h2⟩ := ip A hA
      have e : plT n A = cs := one_eq (p := IsPl (pcT A n)) (fun _ _ => IsPl.uniq) h1
      rw [e]
      exact rq_pls (vA A hA) h1 h2
    · unfold platesD
      rw [List.length_map]
      omega
  · refine (RQ.lst (k := 6) (w := 4406) (n := 170000) (found_rq vA vY n0 n1) ?_).more (by decide) (by decide)
    rw [found_len]
    have : (2 + 3 * As.length) * As.length ≤ 11 * 3 := Nat.mul_le_mul (by omega) l3
    omega
theorem given_rq {As : List SHD} {ys : List LY} (vA : ∀ A ∈ As, VS A) (vY : ∀ l ∈ ys, VLy l) (l3 : As.length ≤ 3) (l2 : ys.length ≤ 2) : RQ 8 300000 (.tuple [.list (As.map sheT), .list (ys.map lyD)]) := by
  refine RQ.pair (k := 7) (w1 := 7000) (w2 := 1000) ?_ ?_ (by decide)
  · refine (RQ.lst (k := 5) (w := 2202) (n := 7000) (fun e he => ?_) (by rw [List.length_map]; omega)).more (by decide) (by decide)
    obtain ⟨A, hA, rfl⟩ := List.mem_map.mp he
    exact rqs_sh (vA A hA).1 (vA A hA).2
  · refine (RQ.lst (k := 3) (w := 274) (n := 1000) (fun e he => ?_) (by rw [List.length_map]; omega)).more (by decide) (by decide)
    obtain ⟨l, hl, rfl⟩ := List.mem_map.mp he
    exact rqs_ly (vY l hl)

/-! ### each list marked -/
theorem eq_eqd {K : PySem.W.Frag} {H : Hp} {x y : V} {d : PyData} {k : Nat} {Q : VK} (hx : Dp K H x d) (hy : Dp K H y d) (sd : Sd k d) (hk : k ≤ 64) (q : Q (.bl true) H) : rEqD K x y H Q := eq_data hx hy sd sd hk fun b hb => by
  rw [hb.mpr rfl]
  exact q
theorem at_end {us : List V} {y : V} : atI (us ++ [y]) (-1) = some y := by
  unfold atI ixN
  rw [if_neg (by decide), if_pos (by rw [List.length_append, List.length_singleton]; omega)]
  show (us ++ [y])[((-1 : Int) + ((us ++ [y]).length : Int)).toNat]? = some y
  rw [show ((-1 : Int) + ((us ++ [y]).length : Int)).toNat = us.length by rw [List.length_append]; show ((-1 : Int) + ((us.length + 1 : Nat) : Int)).toNat = _; omega]
  simp
def mkD (k : Nat) : PyData := .tuple [.str "mark", .int (k : Int)]
theorem sd_mk (k : Nat) : Sd 1 (mkD k) := Sd.tup fun e he => by
  rcases mem2 he with rfl | rfl
  · exact Sd.st (by decide +kernel)
  · exact Sd.int _
theorem sd_mks (n : Nat) : Sd 2 (.list ((List.range n).map mkD)) := Sd.lst fun e he => by
  obtain ⟨c, _, rfl⟩ := List.mem_map.mp he
  exact sd_mk c
/-- all stands but some lists -/
structure Mk (ps : List Addr) (H H' : Hp) : Prop where
  s : ∀ b o, b ∉ ps → H b = some o → H' b = some o
  t : ∀ T, LamX.Tabs T H → LamX.Tabs T H'
theorem Mk.refl {ps : List Addr} {H : Hp} : Mk ps H H := ⟨fun _ _ _ h => h, fun _ h => h⟩
theorem Mk.trans {ps : List Addr} {A B C : Hp} (a : Mk ps A B) (b : Mk ps B C) : Mk ps A C := ⟨fun d o n h => b.s d o n (a.s d o n h), fun T h => b.t T (a.t T h)⟩
theorem Mk.same {ps : List Addr} {A B : Hp} (s : Same A B) : Mk ps A B := ⟨fun d o _ h => s d o h, fun _ h => h.ext s⟩
theorem Mk.up {ps : List Addr} {A : Hp} {p : Addr} {us ws : List V} (hp : p ∈ ps) (e : A p = some (.lst us)) : Mk ps A (upd A p (.lst ws)) := ⟨fun d o n h => by
  rw [upd_ne (fun z => n (by rw [z]; exact hp))]
  exact h, fun _ h => tabs_lst e h⟩
/-- lists, the first ones marked -/
def Mkd (K : PySem.W.Frag) (H : Hp) (ps : List Addr) (i : Nat) : Prop := ∀ j p, ps[j]? = some p → ∃ us : List V, H p = some (.lst us) ∧ (i ≤ j → us.length ≤ 200) ∧ (j < i → ∃ vs u, us = vs ++ [.ref u] ∧ SqT K H u [.str "mark", .int (j : Int)])
theorem Mkd.same {K : PySem.W.Frag} {H H' : Hp} {ps : List Addr} {i : Nat} (h : Mkd K H ps i) (s : Same H H') : Mkd K H' ps i := fun j p e => by
  obtain ⟨us, a, b, c⟩ := h j p e
  refine ⟨us, s _ _ a, b, fun z => ?_⟩
  obtain ⟨vs, u, e1, e2⟩ := c z
  exact ⟨vs, u, e1, Same.sqT s e2⟩
theorem Mkd.next {K : PySem.W.Frag} {H : Hp} {ps : List Addr} {i : Nat} {p q : Addr} {us : List V} (nd : ps.Nodup) (h : Mkd K H ps i) (hp : ps[i]? = some p) (e : H p = some (.lst us)) (eq : H q = some (.tup [.str "mark", .int (i : Int)])) : Mkd K (upd H p (.lst (us ++ [.ref q]))) ps (i + 1) := fun j r hr => by
  have kt : TKeep K H (upd H p (.lst (us ++ [.ref q]))) := fun a xs h => tk_updL e _ _ h
  by_cases c : r = p
  · subst c
    have hj : j < ps.length := (List.getElem?_eq_some_iff.mp hr).1
    have hi : i < ps.length := (List.getElem?_eq_some_iff.mp hp).1
    have ej : j = i := by
      have a1 := (List.getElem?_eq_some_iff.mp hr).2
      have a2 := (List.getElem?_eq_some_iff.mp hp).2
      exact (List.getElem_inj nd).mp (a1.trans a2.symm)
    subst ej
    exact ⟨_, upd_same, fun z => absurd z (by omega), fun _ => ⟨us, q, rfl, kt _ _ (.inl (.inl eq))⟩⟩
  · obtain ⟨ws, a, b, d⟩ := h j r hr
    refine ⟨ws, ?_, fun z => b (by omega), fun z => ?_⟩
    · rw [upd_ne c]
      exact a
    · have nj : j ≠ i := fun w => c (by rw [w, hp] at hr; exact (Option.some.inj hr).symm)
      obtain ⟨vs, u, e1, e2⟩ := d (by omega)
      exact ⟨vs, u, e1, kt _ _ e2⟩
def MkAt (K : PySem.W.Frag) (H : Hp) (v : V) (k : Nat) : Prop := ∃ u, v = .ref u ∧ SqT K H u [.str "mark", .int (k : Int)]
theorem MkAt.keep {K : PySem.W.Frag} {H H' : Hp} {v : V} {k : Nat} (h : MkAt K H v k) (t : TKeep K H H') : MkAt K H' v k := by
  obtain ⟨u, e, a⟩ := h
  exact ⟨u, e, t _ _ a⟩
theorem MkAt.dp {K : PySem.W.Frag} {H : Hp} {v : V} {k : Nat} (h : MkAt K H v k) : Dp K H v (mkD k) := by
  obtain ⟨u, rfl, a⟩ := h
  exact .tup a (.cons (.str _) (.cons (.int _) .nil))
section
variable {P : Program} {w : World} {K : PySem.W.Frag} {mg : Str → Option Value} {base : Heap}
def sp__law_marked (K : PySem.W.Frag) : Sp := fun vs H Q _ => ∃ (t0 : Addr) (ps : List Addr), vs = [.ref t0] ∧ H t0 = some (.lst (ps.map V.ref)) ∧ t0 ∉ ps ∧ ps.Nodup ∧ ps.length ≤ 100 ∧ (∀ p ∈ ps, ∃ us : List V, H p = some (.lst us) ∧ us.length ≤ 200) ∧ ∀ H', Mk ps H H' → Q (.bl true) H'
theorem ok__law_marked {f : Addr} {fd : FuncData} (F : Fun K "_law_marked" "_law_marked" s__law_marked f fd) (T : Txt K mg) : FnOk P w K mg base CX0 1 f fd ["_law_told"] (sp__law_marked K) := by
  refine F.ok sc__law_marked (fun vs H Q E h => ?_) (fun cdv A outer s H vs Q E hr h => ?_)
  · obtain ⟨t0, ps, rfl, _⟩ := h
    rfl
  · obtain ⟨t0, ps, rfl, hT, nT, nd, lp, hp, q⟩ := h
    refine ⟨_, (pss_cons (ps_for PassesOwn.never rfl (pi_enum (by rfl) T.b_enumerate (pa_cons (pv 0) pa_nil)) (pg_tup (by rfl) (pgs_cons (pg_name (i := 1) sc__law_marked.nd rfl (Or.inl rfl)) (pgs_cons (pg_name (i := 2) sc__law_marked.nd rfl (Or.inl rfl)) pgs_nil)))
        (pss_one (ps_expr (pe_bm PySem.F.plainAttrs_list PySem.F.slot_list_append PySem.F.type_list_append mt_append (pv 2) (pa_cons (pe_tup (pa_cons pe_str (pa_cons (pv 1) pa_nil))) pa_nil)))))
      (pss_one (ps_ret (pe_cmpR (op_eqD hr.units) (pe_lc (own := [("_law_one", 2)]) (g := (gName 2)) (tt := tYes) (by rfl) sc__law_marked.nd (pi_list (pv 0)) (blkOk_by (own := [("_law_one", 2)]) (N := ["_law_told", "_law_k", "_law_one"]) (sc := defScope s__law_marked) (by decide +kernel)) (fun _ _ _ _ _ => (pg_name (i := 2) sc__law_marked.nd rfl (Or.inl rfl))) (fun _ _ _ _ _ => pts_nil) (fun _ _ _ _ _ => (pe_ix (r := rIxL K) ix_list (pv 2) (pe_un un_neg pe_int) (fun _ _ => rfl)))) (pe_lc (own := [("_law_k", 1)]) (g := (gName 1)) (tt := tYes) (by rfl) sc__law_marked.nd (pi_range1 (by rfl) T.b_range (pa_cons (pe_callB call_len_seq (by rfl) T.b_len (by decide +kernel) (pa_cons (pv 0) pa_nil)) pa_nil)) (blkOk_by (own := [("_law_k", 1)]) (N := ["_law_told", "_law_k", "_law_one"]) (sc := defScope s__law_marked) (by decide +kernel)) (fun _ _ _ _ _ => (pg_name (i := 1) sc__law_marked.nd rfl (Or.inl rfl))) (fun _ _ _ _ _ => pts_nil) (fun _ _ _ _ _ => (pe_tup (pa_cons pe_str (pa_cons (pv 1) pa_nil))))) (nomark _))))), ?_⟩
    refine ⟨_, rfl, t0, ps.map V.ref, rfl, .inl (.inl hT), ?_⟩
    refine for_enumL (xs := ps.map V.ref) (fun i σ H' => Mk ps H H' ∧ (∃ y1 y2, σ = [some (.ref t0), y1, y2]) ∧ Mkd K H' ps i)
      ⟨Mk.refl, ⟨_, _, rfl⟩, fun j p hj => ?_⟩ (fun i σ H' _ z => .inl (.inl (z.1.s _ _ nT hT))) ?_ ?_
    · obtain ⟨us, e, l⟩ := hp p (List.mem_of_getElem? hj)
      exact ⟨us, e, fun _ => l, fun z => absurd z (by omega)⟩
    · rintro i u1 T2 σ H5 hu1 ⟨t5, ⟨y1, y2, rfl⟩, md⟩ nT2
      obtain ⟨s6, e6⟩ := new_at (.tup [.int (i : Nat), u1]) nT2
      generalize upd H5 T2 (.tup [.int (i : Nat), u1]) = H6 at s6 e6 ⊢
      have t6 := t5.trans (Mk.same s6)
      have md6 := md.same s6
      rw [List.getElem?_map] at hu1
      obtain ⟨p, hpi, rfl⟩ : ∃ p, ps[i]? = some p ∧ V.ref p = u1 := by
        cases e : ps[i]? with
        | none => rw [e] at hu1; cases hu1
        | some p => rw [e] at hu1; exact ⟨p, rfl, Option.some.inj hu1⟩
      obtain ⟨us, eu, lu, _⟩ := md6 i p hpi
      have l2 := lu (Nat.le_refl _)
      refine ⟨T2, _, rfl, .inl (.inl e6), rfl, _, _, rfl, _, _, rfl, rfl, ?_⟩
      refine ⟨_, rfl, .inl ⟨rfl, _, .inl (.inl eu)⟩, ?_⟩
      refine ⟨_, rfl, (by show 2 ≤ sizeLine; decide), fun q1 nq => ?_⟩
      obtain ⟨s7, e7⟩ := new_at (.tup [.str "mark", .int (i : Int)]) nq
      have t7 := t6.trans (Mk.same s7)
      have md7 := md6.same s7
      have eu7 := s7 _ _ eu
      exact ⟨p, us, _, rfl, rfl, eu7, small1000 (by omega), t7.trans (Mk.up (List.mem_of_getElem? hpi) eu7), ⟨_, _, rfl⟩, md7.next nd hpi eu7 e7⟩
    · rintro σ H5 ⟨t5, ⟨y1, y2, rfl⟩, md⟩
      rw [List.length_map] at md
      have hT5 := t5.s _ _ nT hT
      refine ⟨_, rfl, t0, rfl, ⟨_, .inl (.inl hT5)⟩, fun D nD => ?_⟩
      refine lc_list (K := K) (a := t0) (xs := ps.map V.ref) (fun i H' => i ≤ ps.length ∧ Same H5 H' ∧ ∃ ws, H' D = some (.lst ws) ∧ Paired (MkAt K H') ws (List.range i)) ⟨Nat.zero_le _, same_upd nD, [], upd_same, .nil⟩ (fun i H' _ z => .inl (.inl (z.2.1 _ _ hT5))) (fun i v6 H6 hv6 z => ?_) (fun H6 z => ?_)
      · obtain ⟨_, s6, ws, eD, dp⟩ := z
        rw [List.getElem?_map] at hv6
        obtain ⟨p, hpi, rfl⟩ : ∃ p, ps[i]? = some p ∧ V.ref p = v6 := by
          cases e : ps[i]? with
          | none => rw [e] at hv6; cases hv6
          | some p => rw [e] at hv6; exact ⟨p, rfl, Option.some.inj hv6⟩
        have hi : i < ps.length := (List.getElem?_eq_some_iff.mp hpi).1
        obtain ⟨us, eu, _, lu⟩ := md.same s6 i p hpi
        obtain ⟨vs, u, rfl, eu2⟩ := lu hi
        have lw := Paired.length dp
        rw [List.length_range] at lw
        refine ⟨rfl, yes_ok ⟨_, rfl, 1, rfl, p, _, -1, _, rfl, rfl, .inl (.inl eu), at_end, ws, eD, small1000 (by omega), hi, fun b o e => ?_, ws ++ [.ref u], upd_same, ?_⟩⟩
        · rw [upd_ne (ne_of_none e nD)]
          exact s6 _ _ e
        · rw [List.range_succ]
          have kt : TKeep K H6 (upd H6 D (.lst (ws ++ [.ref u]))) := fun a xs h => tk_updL eD _ _ h
          exact Paired.snocP (Paired.mono dp fun _ _ z => z.keep kt) ⟨u, rfl, kt _ _ eu2⟩
      · obtain ⟨_, s6, ws, eD, dp⟩ := z
        rw [List.length_map] at dp
        have t6 := t5.trans (Mk.same s6)
        have hT6 := t6.s _ _ nT hT
        refine ⟨_, rfl, t0, ps.map V.ref, rfl, .inl (.inl (.inl hT6)), _, rfl, by omega, by omega, fun D2 nD2 => ?_⟩
        have lm : (ps.map V.ref).length = ps.length := List.length_map ..
        refine lc_range (lo := 0) (n := (ps.map V.ref).length) (fun i H' => Same H6 H' ∧ ∃ vs, H' D2 = some (.lst vs) ∧ Paired (MkAt K H') vs (List.range i)) ⟨same_upd nD2, [], upd_same, .nil⟩ (fun i H7 hi p7 => ?_) (fun H7 p7 => ?_)
        · obtain ⟨s7, vs, e7, dp7⟩ := p7
          have lw := Paired.length dp7
          rw [List.length_range] at lw
          refine ⟨rfl, yes_ok ⟨_, rfl, (by show 2 ≤ sizeLine; decide), fun q1 nq => ?_⟩⟩
          rw [show (0 : Int) + (i : Int) = (i : Int) by omega]
          obtain ⟨s8, e8⟩ := new_at (.tup [.str "mark", .int (i : Int)]) nq
          have e78 := s8 _ _ e7
          refine ⟨vs, e78, small1000 (by omega), fun b o e => ?_, vs ++ [.ref q1], upd_same, ?_⟩
          · rw [upd_ne (ne_of_none e nD2)]
            exact s8 _ _ (s7 _ _ e)
          · rw [List.range_succ]
            have kt : TKeep K (upd H7 q1 (.tup [.str "mark", .int (i : Int)])) (upd (upd H7 q1 (.tup [.str "mark", .int (i : Int)])) D2 (.lst (vs ++ [.ref q1]))) := fun a xs h => tk_updL e78 _ _ h
            exact Paired.snocP (Paired.mono dp7 fun _ _ z => z.keep fun a xs h => kt _ _ (Same.sqT s8 h)) ⟨q1, rfl, kt _ _ (.inl (.inl e8))⟩
        · obtain ⟨s7, vs, e7, dp7⟩ := p7
          rw [lm] at dp7
          show rEqD K (V.ref D) (V.ref D2) H7 Q
          refine eq_eqd (.lst (.inl (.inl (s7 _ _ eD))) (dpAll_of (f := mkD) (fun _ _ h => MkAt.dp h) (Paired.mono dp fun _ _ z => z.keep (Same.tk s7)))) (.lst (.inl (.inl e7)) (dpAll_of (f := mkD) (fun _ _ h => MkAt.dp h) dp7)) (sd_mks _) (by decide) (q _ (t6.trans (Mk.same s7)))
end

/-! ### a round -/
theorem le3 {i k : Nat} (h : i < k) (hk : k ≤ 3) : i = 0 ∨ i = 1 ∨ i = 2 := by omega
/-- what is told so far, in a list -/
structure Fd (K : PySem.W.Frag) (TS : List (Addr × Str)) (A H : Hp) (D : Addr) (ds : List PyData) (n : Nat) : Prop where
  g : Go TS A H
  nt : NT A D
  e : ∃ zs, H D = some (.lst zs) ∧ zs.length ≤ n ∧ TAs K H zs ds
theorem Fd.same {K : PySem.W.Frag} {TS : List (Addr × Str)} {A H H' : Hp} {D : Addr} {ds : List PyData} {n : Nat} (f : Fd K TS A H D ds n) (s : Same H H') : Fd K TS A H' D ds n := by
  obtain ⟨zs, a, b, c⟩ := f.e
  exact ⟨f.g.same s, f.nt, zs, s _ _ a, b, c.keep (Same.tk s)⟩
theorem Fd.ext {K : PySem.W.Frag} {TS : List (Addr × Str)} {A H H' : Hp} {D : Addr} {ds : List PyData} {n : Nat} (f : Fd K TS A H D ds n) (e : LamX.ExtN H H') (t : LamX.Tabs TS H') : Fd K TS A H' D ds n := by
  obtain ⟨zs, a, b, c⟩ := f.e
  exact ⟨f.g.trans ⟨e, t⟩, f.nt, zs, e _ _ a lst_tbl, b, c.keep (ext_tk e)⟩
theorem Fd.more {K : PySem.W.Frag} {TS : List (Addr × Str)} {A H : Hp} {D : Addr} {ds : List PyData} {n m : Nat} (f : Fd K TS A H D ds n) (h : n ≤ m) : Fd K TS A H D ds m := by
  obtain ⟨zs, a, b, c⟩ := f.e
  exact ⟨f.g, f.nt, zs, a, Nat.le_trans b h, c⟩
theorem Fd.snoc {K : PySem.W.Frag} {TS : List (Addr × Str)} {A H : Hp} {D : Addr} {ds : List PyData} {n : Nat} {zs : List V} {v : V} {d : PyData} (g : Go TS A H) (nt : NT A D) (a : H D = some (.lst zs)) (b : zs.length ≤ n) (c : TAs K H zs ds) (hv : TA K H v d) : Fd K TS A (upd H D (.lst (zs ++ [v]))) D (ds ++ [d]) (n + 1) := by
  have kt : TKeep K H (upd H D (.lst (zs ++ [v]))) := fun a' xs h => tk_updL a _ _ h
  exact ⟨g.up nt a, nt, _, upd_same, by rw [List.length_append]; exact Nat.succ_le_succ b, (c.snoc hv).keep kt⟩
section
variable {P : Program} {w : World} {K : PySem.W.Frag} {mg : Str → Option Value} {base : Heap}
def sp__law_round (K : PySem.W.Frag) (TS : List (Addr × Str)) : Sp := fun vs H Q _ => ∃ (S L : Addr) (us ws : List V) (As : List SHD) (ys : List LY) (n : Int), vs = [.ref S, .ref L, .int n] ∧ H S = some (.lst us) ∧ H L = some (.lst ws) ∧ Paired (ShT K H) us As ∧ (∀ A ∈ As, VS A) ∧ (∀ A ∈ As, ∀ B ∈ As, A.1.length = B.1.length) ∧ Paired (LyAt K H) ws ys ∧ (∀ l ∈ ys, VLy l) ∧ As.length ≤ 3 ∧ ys.length ≤ 2 ∧ 0 ≤ n ∧ n ≤ 40 ∧ LamX.Tabs TS H ∧
  ∀ (H' : Hp) (p l f : Addr) (ps : List Addr), Go TS H H' → H' p = some (.tup [.ref l, .ref f]) → H' l = some (.lst (ps.map V.ref)) → (∃ zs, H' f = some (.lst zs) ∧ TAs K H' zs (foundD n As ys)) → ps.Nodup → (∀ p ∈ ps, NT H p) → Paired (PlsAt K H') ps (As.map (plT n)) → Q (.ref p) H'
theorem ok__law_round {f g cc PP : Addr} {fd fdm : FuncData} {c : Nat → Addr} {LE : Addr} {TS : List (Addr × Str)} (F : FunC K "_law_round" "_law_round" s__law_round f fd cc) (T : Txt K mg) (TX : ExcN K mg c LE) (MR : Mkr base mg cc PP "_law_round" TS) (Fm : Fun K "_law_met" "_law_met" s__law_met g fdm) (mm : mg "_law_met" = some (.ref g)) (bm : Binds K fdm ["_law_call"] []) (DE : ClE P w K mg base 1 "_law_classes" ["_law_e"] (spCls c)) (D_plates : Cl P w K mg base 9 "plates" ["sheet", "many"] (sp_plates K)) (D_read_sheet : Cl P w K mg base 7 "read_sheet" ["text"] (sp_read_sheet K)) (D_sheet_text : Cl P w K mg base 8 "sheet_text" ["sheet"] (sp_sheet_text K)) (D_sheet_retimed : ClX P w K mg base 8 "sheet_retimed" ["sheet", "many"] (sp_sheet_retimed K c)) (D_least_paper : ClX P w K mg base 9 "least_paper" ["one", "other", "many"] (sp_least_paper K c)) (D_behind : ClX P w K mg base 8 "behind" ["one", "other"] (sp_behind K c)) (D_beside : ClX P w K mg base 8 "beside" ["one", "other"] (sp_beside K c)) (D_evened : ClX P w K mg base 7 "evened" ["layer", "many"] (sp_evened K c)) (D_retimed : ClX P w K mg base 7 "retimed" ["layer", "many"] (sp_retimed K c)) : FnOk P w K mg base CX0 12 f fd ["_law_sheets", "_law_layers", "_law_many"] (sp__law_round K TS) := by
  refine fun_okL F sc__law_round (fun vs H Q E h => ?_) (fun A outer s H vs Q E hr h => ?_)
  · obtain ⟨S, L, us, ws, As, ys, n, rfl, _⟩ := h
    rfl
  · obtain ⟨S, L, us, ws, As, ys, n, rfl, hS, hL, pdA, vA, eA, pdY, vY, l3, l2, n0, n1, hT0, q⟩ := h
    refine ⟨_, (pss_cons (ps_setLc (i := 3) (own := [("_law_sheet_here", 9)]) (g := (gName 9)) (tt := tYes) (by rfl) sc__law_round.nd rfl rfl (sw_true rfl rfl rfl (by decide +kernel)) (pi_list (pv 0)) (blkOk_by (own := [("_law_sheet_here", 9)]) (N := ["_law_sheets", "_law_layers", "_law_many", "_law_lists", "_law_found", "_law_one", "_law_other", "_law_call", "_law_layer_here", "_law_sheet_here"]) (sc := defScope s__law_round) (by decide +kernel)) (fun _ _ _ _ _ => (pg_name (i := 9) sc__law_round.nd rfl (Or.inl rfl))) (fun _ _ _ _ _ => pts_nil) (fun _ _ _ _ _ => (pe_own D_plates (hr.mono (by omega)) (by rfl) (pa_cons (pv 9) (pa_cons (pv 2) pa_nil)))))
      (pss_cons (ps_set (i := 4) sc__law_round.nd rfl (Or.inl rfl) (pe_lst pa_nil))
      (pss_cons (ps_for PassesOwn.never rfl (pi_list (pv 0)) (pg_name (i := 5) sc__law_round.nd rfl (Or.inr rfl))
        (pss_cons (ps_set (i := 4) sc__law_round.nd rfl (Or.inl rfl) (pe_op op_cat (pv 4) (pe_lst (pa_cons (pe_met (k := 8) (met_mk Fm mm bm T TX DE (hr.mono (by omega))) (by rfl) MR.tb rfl MR.hm MR.hu (hr.mono (by omega)) (LamX.lamS_by (sc := defScope s__law_round) (by decide +kernel)) (fun A outer s H E f c' hr => (pe_ownX D_sheet_retimed (hr.mono (by omega)) (takes_of rfl rfl rfl rfl) (by rfl) (pa_cons (pv 5) (pa_cons (pe_op op_add (pv 2) pe_int) pa_nil))))) (pa_cons (pe_own D_read_sheet (hr.mono (by omega)) (by rfl) (pa_cons (pe_own D_sheet_text (hr.mono (by omega)) (by rfl) (pa_cons (pv 5) pa_nil)) pa_nil)) pa_nil)))))
      (pss_one (ps_for PassesOwn.never rfl (pi_list (pv 0)) (pg_name (i := 6) sc__law_round.nd rfl (Or.inr rfl))
        (pss_cons (ps_for PassesOwn.never rfl (pi_list (pe_lst (pa_cons (pe_gfun D_behind (by rfl)) (pa_cons (pe_gfun D_beside (by rfl)) pa_nil)))) (pg_name (i := 7) sc__law_round.nd rfl (Or.inr rfl))
        (pss_one (ps_expr (pe_bm PySem.F.plainAttrs_list PySem.F.slot_list_append PySem.F.type_list_append mt_append (pv 4) (pa_cons (pe_met (k := 8) (met_mk Fm mm bm T TX DE (hr.mono (by omega))) (by rfl) MR.tb rfl MR.hm MR.hu (hr.mono (by omega)) (LamX.lamS_by (sc := defScope s__law_round) (by decide +kernel)) (fun A outer s H E f c' hr => (pe_call2 (mg := mg) 7 D_behind D_beside (hr.mono (by omega)) (hr.mono (by omega)) (takes_of rfl rfl rfl rfl) (pa_cons (pv 5) (pa_cons (pv 6) pa_nil))))) pa_nil)))))
      (pss_one (ps_expr (pe_bm PySem.F.plainAttrs_list PySem.F.slot_list_append PySem.F.type_list_append mt_append (pv 4) (pa_cons (pe_met (k := 9) (met_mk Fm mm bm T TX DE (hr.mono (by omega))) (by rfl) MR.tb rfl MR.hm MR.hu (hr.mono (by omega)) (LamX.lamS_by (sc := defScope s__law_round) (by decide +kernel)) (fun A outer s H E f c' hr => (pe_ownX D_least_paper (hr.mono (by omega)) (takes_of rfl rfl rfl rfl) (by rfl) (pa_cons (pv 5) (pa_cons (pv 6) (pa_cons (pv 2) pa_nil)))))) pa_nil)))))))))
      (pss_cons (ps_for PassesOwn.never rfl (pi_list (pv 1)) (pg_name (i := 8) sc__law_round.nd rfl (Or.inr rfl))
        (pss_one (ps_for PassesOwn.never rfl (pi_list (pe_lst (pa_cons (pe_gfun D_evened (by rfl)) (pa_cons (pe_gfun D_retimed (by rfl)) pa_nil)))) (pg_name (i := 7) sc__law_round.nd rfl (Or.inr rfl))
        (pss_one (ps_expr (pe_bm PySem.F.plainAttrs_list PySem.F.slot_list_append PySem.F.type_list_append mt_append (pv 4) (pa_cons (pe_met (k := 7) (met_mk Fm mm bm T TX DE (hr.mono (by omega))) (by rfl) MR.tb rfl MR.hm MR.hu (hr.mono (by omega)) (LamX.lamS_by (sc := defScope s__law_round) (by decide +kernel)) (fun A outer s H E f c' hr => (pe_call2 (mg := mg) 7 D_evened D_retimed (hr.mono (by omega)) (hr.mono (by omega)) (takes_of rfl rfl rfl rfl) (pa_cons (pv 8) (pa_cons (pe_op op_add (pv 2) pe_int) pa_nil))))) pa_nil)))))))
      (pss_one (ps_ret (pe_tup (pa_cons (pv 3) (pa_cons (pv 4) pa_nil))))))))), ?_⟩
    have lus := Paired.length pdA
    have lws := Paired.length pdY
    -- the lists of plates
    refine ⟨_, rfl, S, rfl, ⟨_, .inl (.inl hS)⟩, fun D nD => ?_⟩
    refine lc_list (K := K) (a := S) (xs := us) (fun i H' => i ≤ us.length ∧ Same H H' ∧ ∃ ps : List Addr, H' D = some (.lst (ps.map V.ref)) ∧ ps.Nodup ∧ (∀ p ∈ ps, H p = none ∧ p ≠ D) ∧ Paired (PlsAt K H') ps ((As.take i).map (plT n))) ⟨Nat.zero_le _, same_upd nD, [], upd_same, List.nodup_nil, fun p hp => (by cases hp), .nil⟩ (fun i H' _ z => .inl (.inl (z.2.1 _ _ hS))) (fun i v6 H2 hv6 z => ?_) (fun H2 z => ?_)
    · obtain ⟨_, s2, ps, eD, nd, fr, pd⟩ := z
      have hi : i < us.length := (List.getElem?_eq_some_iff.mp hv6).1
      obtain ⟨A, hA, hsh⟩ := Paired.at pdA hv6
      have vs1 := vA A (List.mem_of_getElem? hA)
      have lps := Paired.length pd
      rw [List.length_map, List.length_take] at lps
      refine ⟨rfl, yes_ok ⟨_, rfl, _, rfl, v6, A.1, A.2.1, A.2.2.1, A.2.2.2, n, rfl, hsh.keep (Same.tk s2), vs1.1, vs1.2, n0, by omega, fun H3 p us3 cs s3 np3 e3 pd3 ip lp => ?_⟩⟩
      have eD3 := s3 _ _ eD
      have npD : p ≠ D := fun z => by
        rw [z, eD] at np3
        cases np3
      have ecs : plT n A = cs := one_eq (p := IsPl (pcT A n)) (fun _ _ => IsPl.uniq) ip
      refine ⟨ps.map V.ref, eD3, small1000 (by rw [List.length_map]; omega), hi, fun b o e => ?_, ps ++ [p], by rw [List.map_append]; exact upd_same, ?_, fun r hr => ?_, ?_⟩
      · rw [upd_ne (ne_of_none e nD)]
        exact s3 _ _ (s2 _ _ e)
      · refine List.nodup_append.mpr ⟨nd, List.nodup_cons.mpr ⟨List.not_mem_nil, List.nodup_nil⟩, fun a ha b hb => ?_⟩
        rw [List.mem_singleton.mp hb]
        intro z
        obtain ⟨cs', _, us', e', _⟩ := Paired.mem1 pd ha
        rw [z, np3] at e'
        cases e'
      · rcases List.mem_append.mp hr with z | z
        · exact fr r z
        · rw [List.mem_singleton.mp z]
          exact ⟨s2.free np3, npD⟩
      · have tk : (As.take (i + 1)).map (plT n) = (As.take i).map (plT n) ++ [plT n A] := by
          rw [List.take_add_one, hA, List.map_append]
          rfl
        rw [tk, ecs]
        have xt : LamX.ExtN H3 (upd H3 D (.lst (ps.map V.ref ++ [V.ref p]))) ∨ True := .inr trivial
        have up : ∀ {r : Addr} {cs : List PIC}, r ≠ D → PlsAt K H3 r cs → PlsAt K (upd H3 D (.lst (ps.map V.ref ++ [V.ref p]))) r cs := fun nr h => by
          obtain ⟨us', a, b, d⟩ := h
          refine ⟨us', ?_, b, Paired.mono d fun _ _ => PicAt.keep fun a xs h => tk_updL eD3 _ _ h⟩
          rw [upd_ne nr]
          exact a
        refine Paired.snocP ?_ (up npD ⟨us3, e3, by rw [Paired.length pd3]; exact lp, pd3⟩)
        exact paired_in pd fun r cs hr h => up (fr r hr).2 (h.keep (LamX.ExtN.of s3))
    · obtain ⟨_, s2, ps, eD, nd, fr, pd⟩ := z
      rw [List.take_of_length_le (by omega)] at pd
      have hT2 := hT0.ext s2
      have hS2 := s2 _ _ hS
      have hL2 := s2 _ _ hL
      have pdA2 := Paired.mono pdA fun _ _ => fun z => ShT.keep z (Same.tk s2)
      have pdY2 := Paired.mono pdY fun _ _ => LyAt.keep (K := K) (Same.tk s2)
      refine ⟨Nat.zero_le _, fun D4 nD4 => ?_⟩
      have s3 := same_upd (o := .lst []) nD4
      have e3 : upd H2 D4 (.lst []) D4 = some (.lst []) := upd_same
      generalize upd H2 D4 (.lst []) = H3 at s3 e3 ⊢
      have fd3 : Fd K TS H2 H3 D4 [] 0 := ⟨Go.of hT2 s3, nt_of (LamX.ExtN.refl _) nD4, [], e3, Nat.le_refl _, .nil⟩
      have hS' : ∀ {H' : Hp}, Go TS H2 H' → H' S = some (.lst us) := fun g => g.e _ _ hS2 lst_tbl
      have hL' : ∀ {H' : Hp}, Go TS H2 H' → H' L = some (.lst ws) := fun g => g.e _ _ hL2 lst_tbl
      refine ⟨_, rfl, S, rfl, ⟨_, .inl (.inl (hS' fd3.g))⟩, for_list (K := K) (a := S) (xs := us) (fun i σ H' => ∃ D' z5 z6 z7 z8 z9, σ = [some (.ref S), some (.ref L), some (.int n), some (.ref D), some (.ref D'), z5, z6, z7, z8, z9] ∧ Fd K TS H2 H' D' ((As.take i).map (oneD n As)).flatten (20 * i))
        ⟨D4, _, _, _, _, _, rfl, fd3⟩ (fun i σ H' _ z => by
          obtain ⟨_, _, _, _, _, _, _, f⟩ := z
          exact .inl (.inl (hS' f.g))) ?_ ?_⟩
      · rintro i u σ H4 hu ⟨D', z5, z6, z7, z8, z9, rfl, fd⟩
        have hi : i < us.length := (List.getElem?_eq_some_iff.mp hu).1
        obtain ⟨A, hA, hshA⟩ := Paired.at pdA2 hu
        have vA1 := vA A (List.mem_of_getElem? hA)
        have shA : ∀ {H' : Hp}, Go TS H2 H' → ShAt K H' u A.1 A.2.1 A.2.2.1 A.2.2.2 := fun g => ShT.keep hshA (ext_tk g.e)
        refine ⟨_, rfl, fd.g.t, fun Hb eb tb => ?_⟩
        have fdb := fd.ext eb tb
        refine ⟨_, rfl, _, rfl, _, _, rfl, rfl, u, A.1, A.2.1, A.2.2.1, A.2.2.2, n + 1, rfl, shA fdb.g, vA1.1, vA1.2, by omega, by omega, so_mg fun H5 p5 s5 t5 => ?_⟩
        have fd5 := fdb.same s5
        refine ⟨_, rfl, u, A.1, A.2.1, A.2.2.1, A.2.2.2, rfl, shA fd5.g, vA1.1, vA1.2, fun H6 s6 => ⟨A.1, A.2.1, A.2.2.1, A.2.2.2, rfl, vA1.1, vA1.2, fun H7 v7 s7 h7 => ⟨(by show 2 ≤ sizeLine; decide), fun p8 np8 => ?_⟩⟩⟩
        have fd7 := (fd5.same s6).same s7
        obtain ⟨s8, e8⟩ := new_at (.lst [.ref p5, v7]) np8
        have t58 : TAs K (upd H7 p8 (.lst [.ref p5, v7])) [.ref p5, v7] [srD A (n + 1), sheT A] := .cons (t5.keep (Same.tk ((s6.trans s7).trans s8))) (.cons (h7.ta.keep (Same.tk s8)) .nil)
        generalize upd H7 p8 (.lst [.ref p5, v7]) = H8 at s8 e8 t58 ⊢
        have fd8 := fd7.same s8
        obtain ⟨zs, ez, lz, tz⟩ := fd8.e
        refine ⟨D', p8, zs, _, rfl, rfl, ez, e8, Nat.le_of_lt (small1000 (by show zs.length + 2 ≤ 1000; omega)), fun p9 np9 => ?_⟩
        obtain ⟨s9, e9⟩ := new_at (.lst (zs ++ [.ref p5, v7])) np9
        generalize upd H8 p9 (.lst (zs ++ [.ref p5, v7])) = H9 at s9 e9 ⊢
        have fd9 : Fd K TS H2 H9 p9 (((As.take i).map (oneD n As)).flatten ++ [srD A (n + 1), sheT A]) (20 * i + 2) := ⟨fd8.g.same s9, nt_of fd8.g.e np9, _, e9, by rw [List.length_append]; exact Nat.add_le_add_right lz 2, TAs.keep (DgAll.app t58 tz) (Same.tk s9)⟩
        clear fd fdb fd5 fd7 fd8 t58 tz ez e8 e9 s5 s6 s7 s8 s9 t5 h7
        generalize hd0 : ((As.take i).map (oneD n As)).flatten = d0 at fd9
        refine ⟨_, rfl, S, rfl, ⟨_, .inl (.inl (hS' fd9.g))⟩, for_list (K := K) (a := S) (xs := us) (fun j σ H' => ∃ z6 z7, σ = [some (.ref S), some (.ref L), some (.int n), some (.ref D), some (.ref p9), some u, z6, z7, z8, z9] ∧ Fd K TS H2 H' p9 (d0 ++ [srD A (n + 1), sheT A] ++ ((As.take j).map (pairD n A)).flatten) (20 * i + 2 + 3 * j))
          ⟨_, _, rfl, by rw [List.take_zero, List.map_nil, List.flatten_nil, List.append_nil]; exact fd9⟩ (fun i σ H' _ z => by
            obtain ⟨_, _, _, f⟩ := z
            exact .inl (.inl (hS' f.g))) ?_ ?_⟩
        · rintro j u2 σ H10 hu2 ⟨z6', z7', rfl, fd10⟩
          have hj : j < us.length := (List.getElem?_eq_some_iff.mp hu2).1
          obtain ⟨B, hB, hshB⟩ := Paired.at pdA2 hu2
          have vB1 := vA B (List.mem_of_getElem? hB)
          have eAB := eA A (List.mem_of_getElem? hA) B (List.mem_of_getElem? hB)
          have shB : ∀ {H' : Hp}, Go TS H2 H' → ShAt K H' u2 B.1 B.2.1 B.2.2.1 B.2.2.2 := fun g => ShT.keep hshB (ext_tk g.e)
          rw [fl_next hB, ← List.append_assoc]
          generalize (d0 ++ [srD A (n + 1), sheT A] ++ ((As.take j).map (pairD n A)).flatten) = d1 at fd10 ⊢
          refine fun f1 m1 f2 m2 => ⟨(by show 2 ≤ sizeLine; decide), fun pF npF => ?_⟩
          obtain ⟨s11, eF⟩ := new_at (.lst [.ref f1, .ref f2]) npF
          have nF9 : pF ≠ p9 := fun z => by
            obtain ⟨_, e, _⟩ := fd10.e
            rw [z, e] at npF
            cases npF
          generalize upd H10 pF (.lst [.ref f1, .ref f2]) = H11 at s11 eF ⊢
          have fd11 := fd10.same s11
          refine ⟨pF, rfl, ⟨_, .inl (.inl eF)⟩, for_list (K := K) (a := pF) (xs := [.ref f1, .ref f2]) (fun k σ H' => (∃ z7, σ = [some (.ref S), some (.ref L), some (.int n), some (.ref D), some (.ref p9), some u, some u2, z7, z8, z9]) ∧ H' pF = some (.lst [.ref f1, .ref f2]) ∧ Fd K TS H2 H' p9 (d1 ++ [bhD A B, beD A B].take k) (20 * i + 2 + 3 * j + k))
            ⟨⟨_, rfl⟩, eF, by rw [List.take_zero, List.append_nil]; exact fd11⟩ (fun i σ H' _ z => .inl (.inl z.2.1)) ?_ ?_⟩
          · rintro k uf σ H12 huf ⟨⟨z7'', rfl⟩, eF12, fd12⟩
            obtain ⟨zs12, ez12, _, _⟩ := fd12.e
            have hk : k < 2 := (List.getElem?_eq_some_iff.mp huf).1
            refine ⟨_, rfl, .inl ⟨rfl, _, .inl (.inl ez12)⟩, fd12.g.t, fun Hb eb tb => ?_⟩
            have fdb := fd12.ext eb tb
            have eFb := eb _ _ eF12 lst_tbl
            have fin : ∀ (H13 : Hp) (p13 : Addr) (d : PyData), Same Hb H13 → TA K H13 (.ref p13) d → [bhD A B, beD A B].take (k + 1) = [bhD A B, beD A B].take k ++ [d] → ∃ zs, H13 p9 = some (.lst zs) ∧ zs.length < sizeLine ∧ upd H13 p9 (.lst (zs ++ [.ref p13])) pF = some (.lst [.ref f1, .ref f2]) ∧ Fd K TS H2 (upd H13 p9 (.lst (zs ++ [.ref p13]))) p9 (d1 ++ [bhD A B, beD A B].take (k + 1)) (20 * i + 2 + 3 * j + (k + 1)) := fun H13 p13 d s13 t13 ed => by
              have f13 := fdb.same s13
              obtain ⟨zs, e1, e2, e3⟩ := f13.e
              refine ⟨zs, e1, small1000 (by omega), ?_, ?_⟩
              · rw [upd_ne nF9]
                exact s13 _ _ eFb
              · rw [ed, ← List.append_assoc]
                exact Fd.snoc f13.g f13.nt e1 e2 e3 t13
            rcases (by omega : k = 0 ∨ k = 1) with rfl | rfl
            · cases huf
              refine ⟨f1, rfl, .inl ⟨m1, _, rfl, _, rfl, u, u2, A.1, B.1, A.2.1, A.2.2.1, B.2.1, B.2.2.1, A.2.2.2, B.2.2.2, rfl, shA fdb.g, vA1.1, vA1.2, shB fdb.g, vB1.1, vB1.2, bo_mg fun H13 p13 s13 t13 => ?_⟩⟩
              obtain ⟨zs, a1, a2, a3, a4⟩ := fin H13 p13 (bhD A B) s13 t13 rfl
              exact ⟨p9, zs, _, rfl, rfl, a1, a2, ⟨_, rfl⟩, a3, a4⟩
            · cases huf
              refine ⟨f2, rfl, .inr ⟨m2, _, rfl, _, rfl, u, u2, A.1, B.1, A.2.1, A.2.2.1, B.2.1, B.2.2.1, A.2.2.2, B.2.2.2, rfl, shA fdb.g, vA1.1, vA1.2, shB fdb.g, vB1.1, vB1.2, fun le H12' v12 s12' h12 => ⟨(by show 2 ≤ sizeLine; decide), fun p13 np13 => ?_⟩, fun gt H12' d12 s12' nd12 ed12 => many_mg (K := K) s12' ed12 fun H13 p13 s13 t13 => ?_⟩⟩
              · have s13 := same_upd (o := .tup [.str "told", v12]) np13
                have t13 : TA K (upd H12' p13 (.tup [.str "told", v12])) (.ref p13) (beD A B) := by
                  rw [show beD A B = toldD (shD (A.1 ++ B.1) A.2.1 A.2.2.1 A.2.2.2) from if_pos le]
                  exact ta_told upd_same (h12.ta.keep (Same.tk s13))
                generalize upd H12' p13 (.tup [.str "told", v12]) = H13 at s13 t13 ⊢
                obtain ⟨zs, a1, a2, a3, a4⟩ := fin H13 p13 (beD A B) (s12'.trans s13) t13 rfl
                exact ⟨p9, zs, _, rfl, rfl, a1, a2, ⟨_, rfl⟩, a3, a4⟩
              · have e13 : beD A B = manyD ((A.1.length + B.1.length : Nat) : Int) 4 := if_neg (by omega)
                rw [← e13] at t13
                obtain ⟨zs, a1, a2, a3, a4⟩ := fin H13 p13 (beD A B) s13 t13 rfl
                exact ⟨p9, zs, _, rfl, rfl, a1, a2, ⟨_, rfl⟩, a3, a4⟩
          · rintro σ H12 ⟨⟨z7'', rfl⟩, _, fd12⟩
            have fd12 : Fd K TS H2 H12 p9 (d1 ++ [bhD A B, beD A B]) (20 * i + 2 + 3 * j + 2) := fd12
            obtain ⟨zs12, ez12, _, _⟩ := fd12.e
            refine ⟨_, rfl, .inl ⟨rfl, _, .inl (.inl ez12)⟩, fd12.g.t, fun Hb eb tb => ?_⟩
            have fdb := fd12.ext eb tb
            refine ⟨_, rfl, _, rfl, _, rfl, u, u2, A.1, B.1, A.2.1, A.2.2.1, B.2.1, B.2.2.1, A.2.2.2, B.2.2.2, n, rfl, ⟨shA fdb.g, shB fdb.g, vA1.1, vB1.1, vA1.2, vB1.2⟩, n0, by omega, .inr ⟨eAB, fun H13 a13 xs s13 h13 pw13 => ⟨(by show 2 ≤ sizeLine; decide), fun p14 np14 => ?_⟩⟩⟩
            have t13 : TA K H13 (.ref a13) (.tuple (papE (pcT A n) [] (pcT B n))) := .tup h13 (ents_dg pw13)
            have s14 := same_upd (o := .tup [.str "told", .ref a13]) np14
            have t14 : TA K (upd H13 p14 (.tup [.str "told", .ref a13])) (.ref p14) (toldD (.tuple (papE (pcT A n) [] (pcT B n)))) := ta_told upd_same (t13.keep (Same.tk s14))
            generalize upd H13 p14 (.tup [.str "told", .ref a13]) = H14 at s14 t14 ⊢
            have f14 := fdb.same (s13.trans s14)
            obtain ⟨zs, e1, e2, e3⟩ := f14.e
            refine ⟨p9, zs, _, rfl, rfl, e1, small1000 (by omega), _, _, rfl, ?_⟩
            have := Fd.snoc f14.g f14.nt e1 e2 e3 t14
            rw [List.append_assoc] at this
            exact this.more (by omega)
        · rintro σ H10 ⟨z6', z7', rfl, fd10⟩
          rw [List.take_of_length_le (by omega)] at fd10
          refine ⟨p9, _, _, _, _, _, rfl, ?_⟩
          rw [fl_next hA, hd0]
          rw [List.append_assoc] at fd10
          refine fd10.more ?_
          omega
      · rintro σ H4 ⟨D', z5, z6, z7, z8, z9, rfl, fd⟩
        rw [List.take_of_length_le (by omega)] at fd
        have fd4 : Fd K TS H2 H4 D' ((As.map (oneD n As)).flatten ++ ((ys.take 0).map (layT2 (n + 1))).flatten) (60 + 2 * 0) := by
          rw [List.take_zero, List.map_nil, List.flatten_nil, List.append_nil]
          exact fd.more (by omega)
        refine ⟨_, rfl, L, rfl, ⟨_, .inl (.inl (hL' fd.g))⟩, for_list (K := K) (a := L) (xs := ws) (fun i σ H' => ∃ z7 z8, σ = [some (.ref S), some (.ref L), some (.int n), some (.ref D), some (.ref D'), z5, z6, z7, z8, z9] ∧ Fd K TS H2 H' D' ((As.map (oneD n As)).flatten ++ ((ys.take i).map (layT2 (n + 1))).flatten) (60 + 2 * i))
          ⟨_, _, rfl, fd4⟩ (fun i σ H' _ z => by
            obtain ⟨_, _, _, f⟩ := z
            exact .inl (.inl (hL' f.g))) ?_ ?_⟩
        · rintro j u2 σ H10 hu2 ⟨z7', z8', rfl, fd10⟩
          have hj : j < ws.length := (List.getElem?_eq_some_iff.mp hu2).1
          obtain ⟨l, hl, hly⟩ := Paired.at pdY2 hu2
          have vl := vY l (List.mem_of_getElem? hl)
          have lyA : ∀ {H' : Hp}, Go TS H2 H' → LyAt K H' u2 l := fun g => LyAt.keep (ext_tk g.e) hly
          rw [fl_next hl, ← List.append_assoc]
          generalize ((As.map (oneD n As)).flatten ++ ((ys.take j).map (layT2 (n + 1))).flatten) = d1 at fd10 ⊢
          refine fun f1 m1 f2 m2 => ⟨(by show 2 ≤ sizeLine; decide), fun pF npF => ?_⟩
          obtain ⟨s11, eF⟩ := new_at (.lst [.ref f1, .ref f2]) npF
          have nF9 : pF ≠ D' := fun z => by
            obtain ⟨_, e, _⟩ := fd10.e
            rw [z, e] at npF
            cases npF
          generalize upd H10 pF (.lst [.ref f1, .ref f2]) = H11 at s11 eF ⊢
          have fd11 := fd10.same s11
          refine ⟨pF, rfl, ⟨_, .inl (.inl eF)⟩, for_list (K := K) (a := pF) (xs := [.ref f1, .ref f2]) (fun k σ H' => (∃ z7, σ = [some (.ref S), some (.ref L), some (.int n), some (.ref D), some (.ref D'), z5, z6, z7, some u2, z9]) ∧ H' pF = some (.lst [.ref f1, .ref f2]) ∧ Fd K TS H2 H' D' (d1 ++ (layT2 (n + 1) l).take k) (60 + 2 * j + k))
            ⟨⟨_, rfl⟩, eF, by rw [List.take_zero, List.append_nil]; exact fd11⟩ (fun i σ H' _ z => .inl (.inl z.2.1)) ?_ ?_⟩
          · rintro k uf σ H12 huf ⟨⟨z7'', rfl⟩, eF12, fd12⟩
            obtain ⟨zs12, ez12, _, _⟩ := fd12.e
            have hk : k < 2 := (List.getElem?_eq_some_iff.mp huf).1
            refine ⟨_, rfl, .inl ⟨rfl, _, .inl (.inl ez12)⟩, fd12.g.t, fun Hb eb tb => ?_⟩
            have fdb := fd12.ext eb tb
            have eFb := eb _ _ eF12 lst_tbl
            have fin : ∀ (H13 : Hp) (p13 : Addr) (d : PyData), Same Hb H13 → TA K H13 (.ref p13) d → (layT2 (n + 1) l).take (k + 1) = (layT2 (n + 1) l).take k ++ [d] → ∃ zs, H13 D' = some (.lst zs) ∧ zs.length < sizeLine ∧ upd H13 D' (.lst (zs ++ [.ref p13])) pF = some (.lst [.ref f1, .ref f2]) ∧ Fd K TS H2 (upd H13 D' (.lst (zs ++ [.ref p13]))) D' (d1 ++ (layT2 (n + 1) l).take (k + 1)) (60 + 2 * j + (k + 1)) := fun H13 p13 d s13 t13 ed => by
              have f13 := fdb.same s13
              obtain ⟨zs, e1, e2, e3⟩ := f13.e
              refine ⟨zs, e1, small1000 (by omega), ?_, ?_⟩
              · rw [upd_ne nF9]
                exact s13 _ _ eFb
              · rw [ed, ← List.append_assoc]
                exact Fd.snoc f13.g f13.nt e1 e2 e3 t13
            rcases (by omega : k = 0 ∨ k = 1) with rfl | rfl
            · cases huf
              refine ⟨f1, rfl, .inl ⟨m1, _, rfl, _, rfl, _, _, rfl, rfl, u2, l, n + 1, rfl, lyA fdb.g, vl, by omega, by omega, to_mg fun H13 p13 s13 t13 => ?_⟩⟩
              obtain ⟨zs, a1, a2, a3, a4⟩ := fin H13 p13 _ s13 t13 rfl
              exact ⟨D', zs, _, rfl, rfl, a1, a2, ⟨_, rfl⟩, a3, a4⟩
            · cases huf
              refine ⟨f2, rfl, .inr ⟨m2, _, rfl, _, rfl, _, _, rfl, rfl, u2, l, n + 1, rfl, lyA fdb.g, vl, by omega, by omega, to_mg fun H13 p13 s13 t13 => ?_⟩⟩
              obtain ⟨zs, a1, a2, a3, a4⟩ := fin H13 p13 _ s13 t13 rfl
              exact ⟨D', zs, _, rfl, rfl, a1, a2, ⟨_, rfl⟩, a3, a4⟩
          · rintro σ H12 ⟨⟨z7'', rfl⟩, _, fd12⟩
            have fd12 : Fd K TS H2 H12 D' (d1 ++ layT2 (n + 1) l) (60 + 2 * j + 2) := fd12
            exact ⟨_, _, rfl, fd12⟩
        · rintro σ H5 ⟨z7', z8', rfl, fd5⟩
          rw [List.take_of_length_le (by omega)] at fd5
          refine ⟨_, rfl, _, rfl, (by show 2 ≤ sizeLine; decide), fun p np => ?_⟩
          have s6 := same_upd (o := .tup [.ref D, .ref D']) np
          have fd6 := fd5.same s6
          obtain ⟨zs, ez, _, tz⟩ := fd6.e
          have g6 : Go TS H (upd H5 p (.tup [.ref D, .ref D'])) := (Go.of hT0 s2).trans fd6.g
          exact q _ p D D' ps g6 upd_same (fd6.g.e _ _ eD lst_tbl) ⟨zs, ez, tz⟩ nd (fun r hr o e => by rw [(fr r hr).1] at e; cases e) (Paired.mono pd fun _ _ z => z.keep fd6.g.e)
end

/-! ### the law -/
theorem Mk.tk {K : PySem.W.Frag} {ps : List Addr} {H H' : Hp} (m : Mk ps H H') (h : ∀ p ∈ ps, ∃ us : List V, H p = some (.lst us)) : TKeep K H H' := fun a xs z => by
  have nm : ∀ o, H a = some o → (∀ us, o ≠ .lst us) → a ∉ ps := fun o e n q => by
    obtain ⟨us, e2⟩ := h a q
    rw [e] at e2
    exact n us (Option.some.inj e2)
  rcases z with (z | ⟨o, z⟩) | z
  · exact .inl (.inl (m.s _ _ (nm _ z (fun us w => by cases w)) z))
  · exact .inl (.inr ⟨o, m.s _ _ (nm _ z (fun us w => by cases w)) z⟩)
  · exact .inr z
theorem pls_dg {K : PySem.W.Frag} {H : Hp} : ∀ {ps : List Addr} {css : List (List PIC)}, Paired (PlsAt K H) ps css → DgAll K fN H true (ps.map V.ref) (css.map fun cs => .list (cs.map picD))
  | _, _, .nil => .nil
  | _, _, .cons ⟨_, e, _, pd⟩ t => .cons (.lst rfl e (pics_dg pd)) (pls_dg t)
theorem shs_ta {K : PySem.W.Frag} {H : Hp} : ∀ {us : List V} {As : List SHD}, Paired (ShT K H) us As → TAs K H us (As.map sheT)
  | _, _, .nil => .nil
  | _, _, .cons a t => .cons (ShAt.ta a) (shs_ta t)
theorem shs_dp {K : PySem.W.Frag} {H : Hp} {us : List V} {As : List SHD} (h : Paired (ShT K H) us As) : DpAll K H us (As.map sheT) := dpAll_of (f := sheT) (fun _ _ h => ShAt.dp h) h
theorem sd_sheT (A : SHD) : Sd 5 (sheT A) := sd_sh _ _ _ _
/-- what a round tells -/
structure Rd (K : PySem.W.Frag) (H : Hp) (p l f : Addr) (ps : List Addr) (n : Int) (As : List SHD) (ys : List LY) : Prop where
  p : H p = some (.tup [.ref l, .ref f])
  l : H l = some (.lst (ps.map V.ref))
  f : ∃ zs, H f = some (.lst zs) ∧ TAs K H zs (foundD n As ys)
  pl : Paired (PlsAt K H) ps (As.map (plT n))
theorem Rd.dg {K : PySem.W.Frag} {H : Hp} {p l f : Addr} {ps : List Addr} {n : Int} {As : List SHD} {ys : List LY} (r : Rd K H p l f ps n As ys) : Dg K fN H true (.ref p) (roundD n As ys) := by
  obtain ⟨zs, ef, tz⟩ := r.f
  have e : platesD n As = (As.map (plT n)).map fun cs => .list (cs.map picD) := by
    unfold platesD
    rw [List.map_map]
    rfl
  unfold roundD
  rw [e]
  exact .tup (.inl (.inl r.p)) (.cons (.lst rfl r.l (pls_dg r.pl)) (.cons (.lst rfl ef tz.fN) .nil))
theorem Rd.go {TS : List (Addr × Str)} {K : PySem.W.Frag} {H H' : Hp} {p l f : Addr} {ps : List Addr} {n : Int} {As : List SHD} {ys : List LY} (r : Rd K H p l f ps n As ys) (g : Go TS H H') : Rd K H' p l f ps n As ys := by
  obtain ⟨zs, ef, tz⟩ := r.f
  exact ⟨g.e _ _ r.p tup_tbl, g.e _ _ r.l lst_tbl, ⟨zs, g.e _ _ ef lst_tbl, tz.keep (ext_tk g.e)⟩, Paired.mono r.pl fun _ _ z => z.keep g.e⟩
theorem pls_lst {K : PySem.W.Frag} {H : Hp} {ps : List Addr} {css : List (List PIC)} (h : Paired (PlsAt K H) ps css) : ∀ p ∈ ps, ∃ us : List V, H p = some (.lst us) ∧ us.length ≤ 200 := fun p hp => by
  obtain ⟨cs, _, us, e, l, _⟩ := Paired.mem1 h hp
  exact ⟨us, e, l⟩
/-- the sheets and layers that are handed in -/
structure Gv (K : PySem.W.Frag) (H : Hp) (S L : Addr) (us ws : List V) (As : List SHD) (ys : List LY) : Prop where
  s : H S = some (.lst us)
  l : H L = some (.lst ws)
  a : Paired (ShT K H) us As
  y : Paired (LyAt K H) ws ys
theorem Gv.go {TS : List (Addr × Str)} {K : PySem.W.Frag} {H H' : Hp} {S L : Addr} {us ws : List V} {As : List SHD} {ys : List LY} (v : Gv K H S L us ws As ys) (g : Go TS H H') : Gv K H' S L us ws As ys :=
  ⟨g.e _ _ v.s lst_tbl, g.e _ _ v.l lst_tbl, Paired.mono v.a fun _ _ z => ShT.keep z (ext_tk g.e), Paired.mono v.y fun _ _ => LyAt.keep (K := K) (ext_tk g.e)⟩
theorem Gv.mk' {K : PySem.W.Frag} {ps : List Addr} {H H' : Hp} {S L : Addr} {us ws : List V} {As : List SHD} {ys : List LY} (v : Gv K H S L us ws As ys) (m : Mk ps H H') (h : ∀ p ∈ ps, ∃ us : List V, H p = some (.lst us)) (nS : S ∉ ps) (nL : L ∉ ps) : Gv K H' S L us ws As ys :=
  ⟨m.s _ _ nS v.s, m.s _ _ nL v.l, Paired.mono v.a fun _ _ z => ShT.keep z (m.tk h), Paired.mono v.y fun _ _ => LyAt.keep (K := K) (m.tk h)⟩
theorem Gv.dg {K : PySem.W.Frag} {H : Hp} {S L p : Addr} {us ws : List V} {As : List SHD} {ys : List LY} (v : Gv K H S L us ws As ys) (e : H p = some (.tup [.ref S, .ref L])) : Dg K fN H true (.ref p) (.tuple [.list (As.map sheT), .list (ys.map lyD)]) :=
  .tup (.inl (.inl e)) (.cons (.lst rfl v.s (shs_ta v.a).fN) (.cons (.lst rfl v.l (lays_dg v.y)) .nil))
theorem nt_no {H : Hp} {ps : List Addr} {S : Addr} {o : HO} (h : ∀ p ∈ ps, NT H p) (e : H S = some o) (t : ∀ ps, o ≠ .tbl ps) : S ∉ ps := fun z => nt_ne (h S z) e t rfl
theorem sd_pics (ps : List PIC) : Sd 4 (.list (ps.map picD)) := Sd.lst fun e he => by
  obtain ⟨c, _, rfl⟩ := List.mem_map.mp he
  exact sd_pic c
theorem pics_dp {K : PySem.W.Frag} {H : Hp} {p : Addr} {us : List V} {ps : List PIC} (e : H p = some (.lst us)) (pd : Paired (PicAt K H) us ps) : Dp K H (.ref p) (.list (ps.map picD)) := .lst (.inl (.inl e)) (dpAll_of (f := picD) (fun _ _ h => PicAt.dp h) pd)
section
variable {P : Program} {w : World} {K : PySem.W.Frag} {mg : Str → Option Value} {base : Heap}
def sp_law (K : PySem.W.Frag) (TS : List (Addr × Str)) : Sp := fun vs H Q _ => ∃ (a : Addr) (ns : List Int), vs = [.ref a] ∧ SqL K H a (ns.map V.int) ∧ ns.length ≤ 63 ∧ LamX.Tabs TS H ∧ ∀ H', Q (.bl true) H'
theorem ok_law {f : Addr} {fd : FuncData} {TS : List (Addr × Str)} (F : Fun K "law" "law" s_law f fd) (T : Txt K mg) (D__law_state : Cl P w K mg base 2 "_law_state" ["_law_script", "_law_k"] (sp__law_state K)) (D__law_take : Cl P w K mg base 1 "_law_take" ["_law_state_here", "_law_many"] (sp__law_take K)) (D__law_sheet : Cl P w K mg base 4 "_law_sheet" ["_law_state_here", "_law_layers", "_law_most", "_law_ended"] (sp__law_sheet K)) (D__law_layer : Cl P w K mg base 3 "_law_layer" ["_law_state_here", "_law_most", "_law_ended"] (sp__law_layer K)) (D_read_sheet : Cl P w K mg base 7 "read_sheet" ["text"] (sp_read_sheet K)) (D_sheet_text : Cl P w K mg base 8 "sheet_text" ["sheet"] (sp_sheet_text K)) (D_plates : Cl P w K mg base 9 "plates" ["sheet", "many"] (sp_plates K)) (D__law_picture : Cl P w K mg base 3 "_law_picture" ["_law_sheet_here", "_law_moment"] (sp__law_picture K)) (D__law_round : Cl P w K mg base 12 "_law_round" ["_law_sheets", "_law_layers", "_law_many"] (sp__law_round K TS)) (D__law_marked : Cl P w K mg base 1 "_law_marked" ["_law_told"] (sp__law_marked K)) : FnG P w K mg base 13 f fd ["_law_script"] (sp_law K TS) := by
  refine fun_okG F sc_law (fun vs H Q E h => ?_) (fun cdv A outer s H vs Q E hgu hr h => ?_)
  · obtain ⟨a, ns, rfl, _⟩ := h
    rfl
  · obtain ⟨a, ns, rfl, hS, hlen, hT0, q⟩ := h
    refine ⟨_, (pss_cons (ps_set (i := 1) sc_law.nd rfl (Or.inr rfl) (pe_own D__law_state (hr.mono (by omega)) (by rfl) (pa_cons (pv 0) (pa_cons pe_int pa_nil))))
      (pss_cons (ps_set (i := 2) sc_law.nd rfl (Or.inr rfl) (pe_op op_add pe_int (pe_own D__law_take (hr.mono (by omega)) (by rfl) (pa_cons (pv 1) (pa_cons pe_int pa_nil)))))
      (pss_cons (ps_setLc (i := 3) (own := [("_law_turn", 11)]) (g := (gName 11)) (tt := tYes) (by rfl) sc_law.nd rfl rfl (sw_true rfl rfl rfl (by decide +kernel)) (pi_range1 (by rfl) T.b_range (pa_cons pe_int pa_nil)) (blkOk_by (own := [("_law_turn", 11)]) (N := ["_law_script", "_law_state_here", "_law_count", "_law_sheets", "_law_layers", "_law_many", "_law_kept", "_law_sheet_here", "_law_one", "_law_shown", "_law_two", "_law_turn", "_law_moment"]) (sc := defScope s_law) (by decide +kernel)) (fun _ _ _ _ _ => (pg_name (i := 11) sc_law.nd rfl (Or.inl rfl))) (fun _ _ _ _ _ => pts_nil) (fun _ _ _ _ _ => (pe_own D__law_sheet (hr.mono (by omega)) (by rfl) (pa_cons (pv 1) (pa_cons (pv 2) (pa_cons pe_int (pa_cons (pe_cmpR op_eq (pe_own D__law_take (hr.mono (by omega)) (by rfl) (pa_cons (pv 1) (pa_cons pe_int pa_nil))) pe_int (nomark _)) pa_nil)))))))
      (pss_cons (ps_par (i := 4) (j := 5) (by rfl) sc_law.nd rfl rfl (by decide) rfl rfl (pa_cons (pe_lst (pa_cons (pe_own D__law_layer (hr.mono (by omega)) (by rfl) (pa_cons (pv 1) (pa_cons pe_int (pa_cons pe_bl pa_nil)))) (pa_cons (pe_own D__law_layer (hr.mono (by omega)) (by rfl) (pa_cons (pv 1) (pa_cons pe_int (pa_cons pe_bl pa_nil)))) pa_nil))) (pa_cons (pe_own D__law_take (hr.mono (by omega)) (by rfl) (pa_cons (pv 1) (pa_cons pe_int pa_nil))) pa_nil)) (by rfl))
      (pss_cons (ps_set (i := 6) sc_law.nd rfl (Or.inl rfl) (pe_callB (call_reprG hgu hr.units) (by rfl) T.b_repr (by decide +kernel) (pa_cons (pe_tup (pa_cons (pv 3) (pa_cons (pv 4) pa_nil))) pa_nil)))
      (pss_cons (ps_if (pt_cmpR (op_neD hr.units) (pe_lc (own := [("_law_sheet_here", 7)]) (g := (gName 7)) (tt := tYes) (by rfl) sc_law.nd (pi_list (pv 3)) (blkOk_by (own := [("_law_sheet_here", 7)]) (N := ["_law_script", "_law_state_here", "_law_count", "_law_sheets", "_law_layers", "_law_many", "_law_kept", "_law_sheet_here", "_law_one", "_law_shown", "_law_two", "_law_turn", "_law_moment"]) (sc := defScope s_law) (by decide +kernel)) (fun _ _ _ _ _ => (pg_name (i := 7) sc_law.nd rfl (Or.inl rfl))) (fun _ _ _ _ _ => pts_nil) (fun _ _ _ _ _ => (pe_own D_read_sheet (hr.mono (by omega)) (by rfl) (pa_cons (pe_own D_sheet_text (hr.mono (by omega)) (by rfl) (pa_cons (pv 7) pa_nil)) pa_nil)))) (pv 3) (nomark _)) (pss_one (ps_ret pe_bl)) pss_nil)
      (pss_cons (ps_for PassesOwn.never rfl (pi_list (pv 3)) (pg_name (i := 7) sc_law.nd rfl (Or.inr rfl))
        (pss_one (ps_if (pt_cmpR (op_neD hr.units) (pe_own D_plates (hr.mono (by omega)) (by rfl) (pa_cons (pv 7) (pa_cons (pv 5) pa_nil))) (pe_callB (cr_sortN rfl hr.units) (by rfl) T.b_sorted (by decide +kernel) (pa_cons (pe_callTy (cr_setN rfl hr.units) (by rfl) T.b_set (by decide +kernel) (pa_cons (pe_lc (own := [("_law_moment", 12)]) (g := (gName 12)) (tt := tYes) (by rfl) sc_law.nd (pi_range1 (by rfl) T.b_range (pa_cons (pv 5) pa_nil)) (blkOk_by (own := [("_law_moment", 12)]) (N := ["_law_script", "_law_state_here", "_law_count", "_law_sheets", "_law_layers", "_law_many", "_law_kept", "_law_sheet_here", "_law_one", "_law_shown", "_law_two", "_law_turn", "_law_moment"]) (sc := defScope s_law) (by decide +kernel)) (fun _ _ _ _ _ => (pg_name (i := 12) sc_law.nd rfl (Or.inl rfl))) (fun _ _ _ _ _ => pts_nil) (fun _ _ _ _ _ => (pe_own D__law_picture (hr.mono (by omega)) (by rfl) (pa_cons (pv 7) (pa_cons (pv 12) pa_nil))))) pa_nil)) pa_nil)) (nomark _)) (pss_one (ps_ret pe_bl)) pss_nil)))
      (pss_cons (ps_set (i := 8) sc_law.nd rfl (Or.inl rfl) (pe_own D__law_round (hr.mono (by omega)) (by rfl) (pa_cons (pv 3) (pa_cons (pv 4) (pa_cons (pv 5) pa_nil)))))
      (pss_cons (ps_set (i := 9) sc_law.nd rfl (Or.inl rfl) (pe_callB (call_reprG hgu hr.units) (by rfl) T.b_repr (by decide +kernel) (pa_cons (pv 8) pa_nil)))
      (pss_cons (ps_set (i := 10) sc_law.nd rfl (Or.inl rfl) (pe_own D__law_round (hr.mono (by omega)) (by rfl) (pa_cons (pv 3) (pa_cons (pv 4) (pa_cons (pv 5) pa_nil)))))
      (pss_cons (ps_if (PW.pt (pw_or (pt_cmpR op_ne (pe_callB (call_reprG hgu hr.units) (by rfl) T.b_repr (by decide +kernel) (pa_cons (pv 10) pa_nil)) (pv 9) (nomark _)) (pw_or (pt_not (pt_val (pe_own D__law_marked (hr.mono (by omega)) (by rfl) (pa_cons (pe_op op_cat (pe_ix ix_tup (pv 8) pe_int (fun _ _ => rfl)) (pe_ix ix_tup (pv 10) pe_int (fun _ _ => rfl))) pa_nil)))) (pw_or1 (pt_cmpR op_ne (pe_callB (call_reprG hgu hr.units) (by rfl) T.b_repr (by decide +kernel) (pa_cons (pe_tup (pa_cons (pv 3) (pa_cons (pv 4) pa_nil))) pa_nil)) (pv 6) (nomark _)))))) (pss_one (ps_ret pe_bl)) pss_nil)
      (pss_one (ps_ret (pe_cmpR op_eq (pe_callB (call_reprG hgu hr.units) (by rfl) T.b_repr (by decide +kernel) (pa_cons (pe_own D__law_round (hr.mono (by omega)) (by rfl) (pa_cons (pv 3) (pa_cons (pv 4) (pa_cons (pv 5) pa_nil)))) pa_nil)) (pv 9) (nomark _))))))))))))))), ?_⟩
    refine ⟨_, rfl, a, ns, _, rfl, hS, by omega, fun H1 st s1 n1 hs1 => ?_⟩
    refine ⟨_, rfl, st, 2, rfl, hs1, by decide, by decide, fun r2 H2 a2 b2 g2 => ⟨_, _, rfl, rfl, ?_⟩⟩
    have hs2 := g2.2.1 hs1
    -- three sheets
    refine ⟨3, rfl, by decide, by decide, fun S nS => ?_⟩
    have nSs := sx_ne hs2 nS
    refine lc_range (lo := 0) (n := 3) (fun j H' => Gx st H2 H' ∧ ∃ (us : List V) (As : List SHD), H' S = some (.lst us) ∧ us.length = j ∧ Paired (ShT K H') us As ∧ (∀ A ∈ As, VS A) ∧ ∀ A ∈ As, (A.1.length : Int) = 1 + r2)
      ⟨gx_same (same_upd nS), [], [], upd_same, rfl, .nil, fun A hA => (by cases hA), fun A hA => (by cases hA)⟩ (fun j H3 hj p3 => ?_) (fun H3 p3 => ?_)
    · obtain ⟨g3, us, As, eS, lj, pd, vA, lA⟩ := p3
      have hs3 := g3.2.1 hs2
      refine ⟨rfl, yes_ok ⟨_, rfl, _, rfl, _, rfl, st, 2, rfl, hs3, by decide, by decide, fun r4 H4 a4 b4 g4 => ?_⟩⟩
      refine ⟨rfl, st, 1 + r2, 3, _, rfl, g4.2.1 hs3, by omega, by omega, by decide, by decide, fun v ls x y ms H5 g5 h5 vL vw ll _ _ _ => ?_⟩
      have g35 := g4.trans g5
      have eS5 := g35.1 S _ nSs lst_tbl eS
      have kt : TKeep K H3 (upd H5 S (.lst (us ++ [v]))) := fun a xs h => tk_updL eS5 _ _ (g35.tk hs3 _ _ h)
      refine ⟨us, eS5, small1000 (by omega), gx_upd (g3.trans g35) nS nSs eS5 _, us ++ [v], As ++ [(ls, x, y, ms)], upd_same, by rw [List.length_append, lj]; rfl, Paired.snocP (Paired.mono pd fun _ _ z => ShT.keep z kt) (ShAt.keep (K := K) (fun a xs h => tk_updL eS5 _ _ h) h5), fun A hA => ?_, fun A hA => ?_⟩
      · rcases List.mem_append.mp hA with z | z
        · exact vA A z
        · rw [List.mem_singleton.mp z]
          exact ⟨vL, vw⟩
      · rcases List.mem_append.mp hA with z | z
        · exact lA A z
        · rw [List.mem_singleton.mp z]
          exact ll
    obtain ⟨g3, us, As, eS, lj, pdA, vA, lA⟩ := p3
    have hs3 := g3.2.1 hs2
    have lAs : As.length = 3 := by rw [← Paired.length pdA]; exact lj
    -- two layers
    refine ⟨_, rfl, st, 5, true, rfl, hs3, by decide, by decide, fun v1 y1 H4 g4 h4 vy1 _ _ => ⟨_, rfl, st, 8, true, rfl, g4.2.1 hs3, by decide, by decide, fun v2 y2 H5 g5 h5 vy2 _ _ => ⟨(by show 2 ≤ sizeLine; decide), fun L nL => ?_⟩⟩⟩
    have hs4 := g4.2.1 hs3
    have hs5 := g5.2.1 hs4
    have nLs := sx_ne hs5 nL
    have h45 := LyAt.keep (K := K) (g5.tk hs4) h4
    obtain ⟨s6, eL⟩ := new_at (.lst [v1, v2]) nL
    generalize upd H5 L (.lst [v1, v2]) = H6 at s6 eL ⊢
    have hs6 := (gx_same (st := st) s6).2.1 hs5
    refine ⟨_, rfl, st, 40, rfl, hs6, by decide, by decide, fun n H7 n0 n40 g7 => ?_⟩
    have g37 := (g4.trans g5).trans ((gx_same (st := st) s6).trans g7)
    have g67 := (gx_same (st := st) s6).trans g7
    have gv7 : Gv K H7 S L us [v1, v2] As [y1, y2] := ⟨g37.1 S _ nSs lst_tbl eS, g7.1 L _ nLs lst_tbl eL, Paired.mono pdA fun _ _ z => ShT.keep z (g37.tk hs3), .cons (LyAt.keep (K := K) (g67.tk hs5) h45) (.cons (LyAt.keep (K := K) (g67.tk hs5) h5) .nil)⟩
    have vY : ∀ l ∈ [y1, y2], VLy l := fun l hl => by
      rcases mem2 hl with rfl | rfl
      · exact vy1
      · exact vy2
    have eA : ∀ A ∈ As, ∀ B ∈ As, A.1.length = B.1.length := fun A hA B hB => by
      have a := lA A hA
      have b := lA B hB
      omega
    have hT7 : LamX.Tabs TS H7 := g37.2.2 TS (g3.2.2 TS (g2.2.2 TS (hT0.ext s1)))
    generalize [y1, y2] = ys at gv7 vY
    have l2 : ys.length ≤ 2 := by
      have := Paired.length gv7.y
      rw [← this]
      exact Nat.le_refl 2
    generalize [v1, v2] = ws at gv7
    clear g2 g3 g4 g5 g7 g37 g67 hs6 hs5 hs4 hs3 eS eL s6 h4 h5 h45 pdA lj
    -- what is handed in
    have gq := given_rq vA vY (by omega) l2
    obtain ⟨S0, hS0⟩ : ∃ S0, (PyData.tuple [.list (As.map sheT), .list (ys.map lyD)]).shown = S0 := ⟨_, rfl⟩
    refine ⟨_, _, rfl, _, rfl, _, rfl, (by show 2 ≤ sizeLine; decide), fun p8 np8 => ?_⟩
    obtain ⟨s8, e8⟩ := new_at (.tup [.ref S, .ref L]) np8
    generalize upd H7 p8 (.tup [.ref S, .ref L]) = H8 at s8 e8 ⊢
    have o8 : Go TS H7 H8 := Go.of hT7 s8
    refine ⟨fN, true, .ref p8, _, S0, rfl, (gv7.go o8).dg e8, gq.sh, Nat.le_trans gq.dp (by decide), gq.fits2 (by decide), hS0, ?_⟩
    clear e8 np8
    -- read again
    have gv8 := gv7.go o8
    refine ⟨_, rfl, S, rfl, ⟨_, .inl (.inl gv8.s)⟩, fun D nD => ?_⟩
    refine lc_list (K := K) (a := S) (xs := us) (fun i H' => i ≤ us.length ∧ Same H8 H' ∧ ∃ zs, H' D = some (.lst zs) ∧ Paired (ShT K H') zs (As.take i)) ⟨Nat.zero_le _, same_upd nD, [], upd_same, .nil⟩ (fun i H' _ z => .inl (.inl (z.2.1 _ _ gv8.s))) (fun i u H9 hu z => ?_) (fun H9 z => ?_)
    · obtain ⟨_, s9, zs, eD, dp⟩ := z
      have hi : i < us.length := (List.getElem?_eq_some_iff.mp hu).1
      obtain ⟨A, hA, hsh⟩ := Paired.at gv8.a hu
      have v := vA A (List.mem_of_getElem? hA)
      have lz := Paired.length dp
      rw [List.length_take] at lz
      refine ⟨rfl, yes_ok ⟨_, rfl, u, A.1, A.2.1, A.2.2.1, A.2.2.2, rfl, ShT.keep hsh (Same.tk s9), v.1, v.2, fun H10 s10 => ⟨A.1, A.2.1, A.2.2.1, A.2.2.2, rfl, v.1, v.2, fun H11 v11 s11 h11 => ?_⟩⟩⟩
      have s911 := s10.trans s11
      have eD11 := s911 _ _ eD
      refine ⟨zs, eD11, small1000 (by omega), hi, fun b o e => ?_, zs ++ [v11], upd_same, ?_⟩
      · rw [upd_ne (ne_of_none e nD)]
        exact s911 _ _ (s9 _ _ e)
      · rw [List.take_add_one, hA]
        exact Paired.snocP (Paired.mono dp fun _ _ z => ShT.keep z fun a xs h => tk_updL eD11 _ _ (Same.sqT s911 h)) (ShAt.keep (K := K) (fun a xs h => tk_updL eD11 _ _ h) h11)
    obtain ⟨_, s9, zs, eD, dp⟩ := z
    have lus := Paired.length gv8.a
    rw [List.take_of_length_le (by omega)] at dp
    have o9 := o8.same s9
    have gv9 := gv7.go o9
    refine ⟨_, rfl, ne_eqd (.lst (.inl (.inl eD)) (shs_dp dp)) (.lst (.inl (.inl gv9.s)) (shs_dp gv9.a)) ⟨_, Sd.lst fun e he => (by obtain ⟨A, _, rfl⟩ := List.mem_map.mp he; exact sd_sheT A), by decide⟩ ⟨_, rfl, iteF ?_⟩⟩
    clear eD dp gv8 gv9 s9 o8 s8 nD
    -- plates
    refine ⟨_, rfl, S, rfl, ⟨_, .inl (.inl (gv7.go o9).s)⟩, for_list (K := K) (a := S) (xs := us) (fun i σ H' => (∃ y7 y11 y12, σ = [some (.ref a), some (.ref st), some (.int (1 + r2)), some (.ref S), some (.ref L), some (.int n), some (.str S0), y7, none, none, none, y11, y12]) ∧ Go TS H7 H' ∧ ∀ A ∈ As.take i, ∃ cs, IsPl (pcT A n) cs ∧ cs.length ≤ 200)
      ⟨⟨_, _, _, rfl⟩, o9, fun A hA => by cases hA⟩ (fun i σ H' _ z => .inl (.inl (gv7.go z.2.1).s)) ?_ ?_⟩
    · rintro i u σ H10 hu ⟨⟨y7, y11, y12, rfl⟩, o10, hp⟩
      have hi : i < us.length := (List.getElem?_eq_some_iff.mp hu).1
      obtain ⟨A, hA, hsh⟩ := Paired.at (gv7.go o10).a hu
      have v := vA A (List.mem_of_getElem? hA)
      refine ⟨_, rfl, _, rfl, u, A.1, A.2.1, A.2.2.1, A.2.2.2, n, rfl, hsh, v.1, v.2, n0, by omega, fun H12 p1 us1 ps1 s12 np1 ep1 pd1 ip1 lp1 => ?_⟩
      refine ⟨_, rfl, n, rfl, by omega, by omega, fun D hD => ?_⟩
      have sh12 := ShT.keep hsh (Same.tk s12)
      refine lc_range (lo := 0) (n := n.toNat) (fun i H' => Same H12 H' ∧ ∃ vs : List V, H' D = some (.lst vs) ∧ Paired (PicAt K H') vs ((List.range i).map fun i : Nat => pic A.1 A.2.1 A.2.2.1 A.2.2.2 (0 + (i : Int)))) ⟨same_upd hD, [], upd_same, .nil⟩ (fun i H2 hi p2 => ?_) (fun H2 p2 => ?_)
      · obtain ⟨s2, vs, e2, pd⟩ := p2
        have hlv := Paired.length pd
        rw [List.length_map, List.length_range] at hlv
        refine ⟨rfl, yes_ok ⟨_, rfl, _, rfl, u, A.1, A.2.1, A.2.2.1, A.2.2.2, _, rfl, ShT.keep sh12 (Same.tk s2), v.1, v.2, by omega, fun H3 v3 s3 r3 => ?_⟩⟩
        have e3 := s3 _ _ e2
        refine ⟨vs, e3, small1000 (by omega), fun b o e => ?_, vs ++ [v3], upd_same, ?_⟩
        · rw [upd_ne (ne_of_none e hD)]
          exact s3 _ _ (s2 _ _ e)
        · rw [List.range_succ, List.map_append]
          exact Paired.snocP (Paired.mono pd fun _ _ => PicAt.keep fun a xs h => tk_updL e3 _ _ (Same.sqT s3 h)) (r3.keep (K := K) (fun a xs h => tk_updL (ys := vs ++ [v3]) e3 _ _ h))
      · obtain ⟨s2, vs, e2, pd⟩ := p2
        have lus := Paired.length pd
        rw [List.length_map, List.length_range] at lus
        unfold tNil
        refine plates_q (.inl (.inl e2)) pd (by omega) fun H3 p3 us3 ps3 s3 np3 e3 pd3 ip3 lp3 => ?_
        have ee := ip1.uniq ip3
        subst ee
        have s123 := s2.trans s3
        refine ne_eqd (pics_dp (s123 _ _ ep1) (Paired.mono pd1 fun _ _ z => PicAt.keep (Same.tk s123) z)) (pics_dp e3 pd3) ⟨_, sd_pics _, by decide⟩ ⟨_, rfl, iteF ?_⟩
        refine ⟨⟨_, _, _, rfl⟩, o10.same (s12.trans s123), fun B hB => ?_⟩
        rw [List.take_add_one, hA] at hB
        rcases List.mem_append.mp hB with z | z
        · exact hp B z
        · have eB : B = A := by simpa using z
          rw [eB]
          exact ⟨ps1, ip1, lp1⟩
    rintro σ H10 ⟨⟨y7, y11, y12, rfl⟩, o10, hp⟩
    rw [List.take_of_length_le (by omega)] at hp
    have rq := round_rq vA vY n0 (by omega) (by omega) l2 hp
    obtain ⟨S1, hS1⟩ : ∃ S1, (roundD n As ys).shown = S1 := ⟨_, rfl⟩
    have dp30 : (roundD n As ys).depth ≤ 30 := Nat.le_trans rq.dp (by decide)
    have fit := rq.fits2 (by decide)
    have gv10 := gv7.go o10
    clear gv7 hp o9
    -- the first round
    refine ⟨_, rfl, _, rfl, _, rfl, S, L, us, ws, As, ys, n, rfl, gv10.s, gv10.l, gv10.a, vA, eA, gv10.y, vY, by omega, l2, n0, by omega, o10.t, fun H11 p1 l1 f1 ps1 o11 ep1 el1 ef1 nd1 nt1 pl1 => ?_⟩
    have rd1 : Rd K H11 p1 l1 f1 ps1 n As ys := ⟨ep1, el1, ef1, pl1⟩
    have gv11 := gv10.go o11
    refine ⟨_, rfl, fN, true, .ref p1, _, S1, rfl, rd1.dg, rq.sh, dp30, fit, hS1, ?_⟩
    -- the second
    refine ⟨_, rfl, _, rfl, _, rfl, S, L, us, ws, As, ys, n, rfl, gv11.s, gv11.l, gv11.a, vA, eA, gv11.y, vY, by omega, l2, n0, by omega, o11.t, fun H12 p2 l2' f2 ps2 o12 ep2 el2 ef2 nd2 nt2 pl2 => ?_⟩
    have rd2 : Rd K H12 p2 l2' f2 ps2 n As ys := ⟨ep2, el2, ef2, pl2⟩
    have gv12 := gv11.go o12
    have rd12 := rd1.go o12
    refine ⟨_, rfl, fN, true, .ref p2, _, S1, rfl, rd2.dg, rq.sh, dp30, fit, hS1, _, rfl, rfl, _, rfl, ?_⟩
    rw [decide_eq_true rfl]
    refine iteF ?_
    -- each list is another one
    have lAs1 : ps1.length = 3 := by
      rw [Paired.length pl1, List.length_map]
      exact lAs
    have lAs2 : ps2.length = 3 := by
      rw [Paired.length pl2, List.length_map]
      exact lAs
    refine ⟨_, rfl, p1, _, 0, _, rfl, rfl, .inl (.inl rd12.p), rfl, _, rfl, p2, _, 0, _, rfl, rfl, .inl (.inl rd2.p), rfl, l1, l2', _, _, rfl, rfl, rd12.l, rd2.l, Nat.le_of_lt (small1000 (by rw [List.length_map, List.length_map]; omega)), fun t nt => ?_⟩
    obtain ⟨s13, e13⟩ := new_at (.lst (ps1.map V.ref ++ ps2.map V.ref)) nt
    have pa12 := pls_lst rd12.pl
    have pb12 := pls_lst rd2.pl
    have each : ∀ p ∈ ps1 ++ ps2, ∃ us : List V, H12 p = some (.lst us) ∧ us.length ≤ 200 := fun p hp => by
      rcases List.mem_append.mp hp with z | z
      · exact pa12 p z
      · exact pb12 p z
    have tnin : t ∉ ps1 ++ ps2 := fun z => by
      obtain ⟨_, e, _⟩ := each t z
      rw [nt] at e
      cases e
    generalize upd H12 t (.lst (ps1.map V.ref ++ ps2.map V.ref)) = H13 at s13 e13 ⊢
    have each13 : ∀ p ∈ ps1 ++ ps2, ∃ us : List V, H13 p = some (.lst us) ∧ us.length ≤ 200 := fun p hp => by
      obtain ⟨us', e, l⟩ := each p hp
      exact ⟨us', s13 _ _ e, l⟩
    have o13 := o12.same s13
    have gv13 := gv11.go o13
    have nodup : (ps1 ++ ps2).Nodup := List.nodup_append.mpr ⟨nd1, nd2, fun x hx y hy z => by
      obtain ⟨_, e, _⟩ := pls_lst pl1 x hx
      exact nt_no nt2 e lst_tbl (z ▸ hy)⟩
    have nS : S ∉ ps1 ++ ps2 := fun z => by
      rcases List.mem_append.mp z with z | z
      · exact nt_no nt1 gv10.s lst_tbl z
      · exact nt_no nt2 gv11.s lst_tbl z
    have nL' : L ∉ ps1 ++ ps2 := fun z => by
      rcases List.mem_append.mp z with z | z
      · exact nt_no nt1 gv10.l lst_tbl z
      · exact nt_no nt2 gv11.l lst_tbl z
    refine ⟨t, ps1 ++ ps2, rfl, by rw [List.map_append]; exact e13, tnin, nodup, by rw [List.length_append]; omega, each13, fun H14 m14 => ?_⟩
    have gv14 := gv13.mk' m14 (fun p hp => (by obtain ⟨us', e, _⟩ := each13 p hp; exact ⟨us', e⟩)) nS nL'
    have hT14 := m14.t TS o13.t
    refine ⟨_, rfl, iteF ?_⟩
    -- what is handed in stays
    refine ⟨_, rfl, _, rfl, (by show 2 ≤ sizeLine; decide), fun p15 np15 => ?_⟩
    obtain ⟨s15, e15⟩ := new_at (.tup [.ref S, .ref L]) np15
    generalize upd H14 p15 (.tup [.ref S, .ref L]) = H15 at s15 e15 ⊢
    have o15 : Go TS H14 H15 := Go.of hT14 s15
    have gv15 := gv14.go o15
    refine ⟨fN, true, .ref p15, _, S0, rfl, gv15.dg e15, gq.sh, Nat.le_trans gq.dp (by decide), gq.fits2 (by decide), hS0, _, rfl, rfl, _, rfl, ?_⟩
    rw [decide_eq_true rfl]
    refine iteF ?_
    -- the third round
    refine ⟨_, rfl, _, rfl, _, rfl, S, L, us, ws, As, ys, n, rfl, gv15.s, gv15.l, gv15.a, vA, eA, gv15.y, vY, by omega, l2, n0, by omega, o15.t, fun H16 p3 l3' f3 ps3 o16 ep3 el3 ef3 nd3 nt3 pl3 => ?_⟩
    have rd3 : Rd K H16 p3 l3' f3 ps3 n As ys := ⟨ep3, el3, ef3, pl3⟩
    refine ⟨fN, true, .ref p3, _, S1, rfl, rd3.dg, rq.sh, dp30, fit, hS1, _, rfl, rfl, ?_⟩
    rw [decide_eq_true rfl]
    exact q _
end

/-! ### the end of a law that calls repr, with the head by facts -/
theorem walk_ofEG {l : PySem.W.OpenLaw} {n k : Nat} {q : Program} {loose : List Str} {XP : (Str → Option Value) → Heap → Prop} {YP : World → Heap → Prop} {d : DefRec} {x : Str}
    (hn : l.most = some n) (hn2 : n ≤ sizeLine) (hdf : d.params.defaults = []) (hr : Room k callerA)
    (F : ∀ (w : World) (mg : Str → Option Value) (fa : Addr) (h : Heap), YP w h → h.Ns mainGlobals mg → mg d.name = some (.ref fa) → ∃ K : PySem.W.Frag, K.In h ∧ LawAtG l w K k n x mg fa h) :
    PySem.W.WalkO q loose XP YP l.row.toRowW d [] (fun f vs => PySem.call f vs) := by
  refine Att.attach_callB hn hdf fun w s₀ s₁ mg mb fa o pm cd doc a vs ns G Y ho hd hcd hmg hobj hints hlen hbits hg => ?_
  obtain ⟨K, KX, fd, cs, sp, hT, nT, C, hb, hsp, hF⟩ := F w mg fa _ Y G.T.g hmg
  exact law_callGT KX G.T.g G.T.b G.T.builtins G.T.nolimit hg hT nT C G.T.bmain hobj hints (Nat.le_trans hlen hn2) hr hF hb fun H hH hS => hsp H a ns hlen hH hS

theorem all_mk {l : PySem.W.OpenLaw} {w : World} {K : PySem.W.Frag} {h : Heap} {mg : Str → Option Value} {fa : Addr} (X : K.In h) (G : h.Ns mainGlobals mg) (hfa : mg "law" = some (.ref fa))
    {f0 f1 f2 f3 f4 f5 f6 f7 f8 f9 f10 f11 f12 f13 f14 f15 f16 f17 f18 f19 f20 f21 f22 f23 f24 f25 f26 f27 f28 f29 f30 f31 f32 f33 f34 f35 f36 f37 f38 f39 f40 f41 f42 f43 f44 f45 f46 f47 f48 f49 f50 f51 f52 f53 f54 f55 f56 f57 f58 f59 f60 f61 f62 f63 f64 f65 f66 f67 f68 f69 f70 f71 f72 f73 f74 f75 f76 f77 f78 f79 f80 f81 C0 C1 C2 C3 C4 C5 C6 C7 C8 C9 C10 C11 C12 C13 C14 C15 LE cc80 PP80 : Addr} {od0 an0 od1 an1 od2 an2 od3 an3 od4 an4 od5 an5 od6 an6 od7 an7 od8 an8 od9 an9 od10 an10 od11 an11 od12 an12 od13 an13 od14 an14 od15 an15 od16 an16 od17 an17 od18 an18 od19 an19 od20 an20 od21 an21 od22 an22 od23 an23 od24 an24 od25 an25 od26 an26 od27 an27 od28 an28 od29 an29 od30 an30 od31 an31 od32 an32 od33 an33 od34 an34 od35 an35 od36 an36 od37 an37 od38 an38 od39 an39 od40 an40 od41 an41 od42 an42 od43 an43 od44 an44 od45 an45 od46 an46 od47 an47 od48 an48 od49 an49 od50 an50 od51 an51 od52 an52 od53 an53 od54 an54 od55 an55 od56 an56 od57 an57 od58 an58 od59 an59 od60 an60 od61 an61 od62 an62 od63 an63 od64 an64 od65 an65 od66 an66 od67 an67 od68 an68 od69 an69 od70 an70 od71 an71 od72 an72 od73 an73 od74 an74 od75 an75 od76 an76 od77 an77 od78 an78 od79 an79 od80 an80 od81 an81 : Option Addr} {sl0 sl1 sl2 sl3 sl4 sl5 sl6 sl7 sl8 sl9 sl10 sl11 sl12 sl13 sl14 sl15 sl16 sl17 sl18 sl19 sl20 sl21 sl22 sl23 sl24 sl25 sl26 sl27 sl28 sl29 sl30 sl31 sl32 sl33 sl34 sl35 sl36 sl37 sl38 sl39 sl40 sl41 sl42 sl43 sl44 sl45 sl46 sl47 sl48 sl49 sl50 sl51 sl52 sl53 sl54 sl55 sl56 sl57 sl58 sl59 sl60 sl61 sl62 sl63 sl64 sl65 sl66 sl67 sl68 sl69 sl70 sl71 sl72 sl73 sl74 sl75 sl76 sl77 sl78 sl79 sl80 sl81 : Array (Option Value)} {oc0 kV0 dc0 pm0 ct0 cd0 oc1 kV1 dc1 pm1 ct1 cd1 oc2 kV2 dc2 pm2 ct2 cd2 oc3 kV3 dc3 pm3 ct3 cd3 oc4 kV4 dc4 pm4 ct4 cd4 oc5 kV5 dc5 pm5 ct5 cd5 oc6 kV6 dc6 pm6 ct6 cd6 oc7 kV7 dc7 pm7 ct7 cd7 oc8 kV8 dc8 pm8 ct8 cd8 oc9 kV9 dc9 pm9 ct9 cd9 oc10 kV10 dc10 pm10 ct10 cd10 oc11 kV11 dc11 pm11 ct11 cd11 oc12 kV12 dc12 pm12 ct12 cd12 oc13 kV13 dc13 pm13 ct13 cd13 oc14 kV14 dc14 pm14 ct14 cd14 oc15 kV15 dc15 pm15 ct15 cd15 oc16 kV16 dc16 pm16 ct16 cd16 oc17 kV17 dc17 pm17 ct17 cd17 oc18 kV18 dc18 pm18 ct18 cd18 oc19 kV19 dc19 pm19 ct19 cd19 oc20 kV20 dc20 pm20 ct20 cd20 oc21 kV21 dc21 pm21 ct21 cd21 oc22 kV22 dc22 pm22 ct22 cd22 oc23 kV23 dc23 pm23 ct23 cd23 oc24 kV24 dc24 pm24 ct24 cd24 oc25 kV25 dc25 pm25 ct25 cd25 oc26 kV26 dc26 pm26 ct26 cd26 oc27 kV27 dc27 pm27 ct27 cd27 oc28 kV28 dc28 pm28 ct28 cd28 oc29 kV29 dc29 pm29 ct29 cd29 oc30 kV30 dc30 pm30 ct30 cd30 oc31 kV31 dc31 pm31 ct31 cd31 oc32 kV32 dc32 pm32 ct32 cd32 oc33 kV33 dc33 pm33 ct33 cd33 oc34 kV34 dc34 pm34 ct34 cd34 oc35 kV35 dc35 pm35 ct35 cd35 oc36 kV36 dc36 pm36 ct36 cd36 oc37 kV37 dc37 pm37 ct37 cd37 oc38 kV38 dc38 pm38 ct38 cd38 oc39 kV39 dc39 pm39 ct39 cd39 oc40 kV40 dc40 pm40 ct40 cd40 oc41 kV41 dc41 pm41 ct41 cd41 oc42 kV42 dc42 pm42 ct42 cd42 oc43 kV43 dc43 pm43 ct43 cd43 oc44 kV44 dc44 pm44 ct44 cd44 oc45 kV45 dc45 pm45 ct45 cd45 oc46 kV46 dc46 pm46 ct46 cd46 oc47 kV47 dc47 pm47 ct47 cd47 oc48 kV48 dc48 pm48 ct48 cd48 oc49 kV49 dc49 pm49 ct49 cd49 oc50 kV50 dc50 pm50 ct50 cd50 oc51 kV51 dc51 pm51 ct51 cd51 oc52 kV52 dc52 pm52 ct52 cd52 oc53 kV53 dc53 pm53 ct53 cd53 oc54 kV54 dc54 pm54 ct54 cd54 oc55 kV55 dc55 pm55 ct55 cd55 oc56 kV56 dc56 pm56 ct56 cd56 oc57 kV57 dc57 pm57 ct57 cd57 oc58 kV58 dc58 pm58 ct58 cd58 oc59 kV59 dc59 pm59 ct59 cd59 oc60 kV60 dc60 pm60 ct60 cd60 oc61 kV61 dc61 pm61 ct61 cd61 oc62 kV62 dc62 pm62 ct62 cd62 oc63 kV63 dc63 pm63 ct63 cd63 oc64 kV64 dc64 pm64 ct64 cd64 oc65 kV65 dc65 pm65 ct65 cd65 oc66 kV66 dc66 pm66 ct66 cd66 oc67 kV67 dc67 pm67 ct67 cd67 oc68 kV68 dc68 pm68 ct68 cd68 oc69 kV69 dc69 pm69 ct69 cd69 oc70 kV70 dc70 pm70 ct70 cd70 oc71 kV71 dc71 pm71 ct71 cd71 oc72 kV72 dc72 pm72 ct72 cd72 oc73 kV73 dc73 pm73 ct73 cd73 oc74 kV74 dc74 pm74 ct74 cd74 oc75 kV75 dc75 pm75 ct75 cd75 oc76 kV76 dc76 pm76 ct76 cd76 oc77 kV77 dc77 pm77 ct77 cd77 oc78 kV78 dc78 pm78 ct78 cd78 oc79 kV79 dc79 pm79 ct79 cd79 oc80 kV80 dc80 pm80 ct80 oc81 kV81 dc81 pm81 ct81 cd81 : Value} {t0 t1 t2 t3 t4 t5 t6 t7 t8 t9 : Tok}
    (a0 : PySem.W.nsIn K mainGlobals "_law_met" = some (some (.ref f0))) (l0 : K.lookup f0 = some ⟨oc0, od0, .func (PySem.W.fnOf "_law_met" "_law_met" (defArgs s__law_met) (defBody s__law_met) (defScope s__law_met) .none kV0 dc0 pm0 an0 cd0 ct0), sl0⟩) (c0 : PySem.W.codeIn K cd0 "_law_met" = true) (k0 : PySem.W.keepIn K (.ref f0) = true)
    (a1 : PySem.W.nsIn K mainGlobals "_law_classes" = some (some (.ref f1))) (l1 : K.lookup f1 = some ⟨oc1, od1, .func (PySem.W.fnOf "_law_classes" "_law_classes" (defArgs s__law_classes) (defBody s__law_classes) (defScope s__law_classes) .none kV1 dc1 pm1 an1 cd1 ct1), sl1⟩) (c1 : PySem.W.codeIn K cd1 "_law_classes" = true) (k1 : PySem.W.keepIn K (.ref f1) = true)
    (a2 : PySem.W.nsIn K mainGlobals "is_whole_from" = some (some (.ref f2))) (l2 : K.lookup f2 = some ⟨oc2, od2, .func (PySem.W.fnOf "is_whole_from" "is_whole_from" (defArgs s_is_whole_from) (defBody s_is_whole_from) (defScope s_is_whole_from) .none kV2 dc2 pm2 an2 cd2 ct2), sl2⟩) (c2 : PySem.W.codeIn K cd2 "is_whole_from" = true) (k2 : PySem.W.keepIn K (.ref f2) = true)
    (a3 : PySem.W.nsIn K mainGlobals "is_whole" = some (some (.ref f3))) (l3 : K.lookup f3 = some ⟨oc3, od3, .func (PySem.W.fnOf "is_whole" "is_whole" (defArgs s_is_whole) (defBody s_is_whole) (defScope s_is_whole) .none kV3 dc3 pm3 an3 cd3 ct3), sl3⟩) (c3 : PySem.W.codeIn K cd3 "is_whole" = true) (k3 : PySem.W.keepIn K (.ref f3) = true)
    (a4 : PySem.W.nsIn K mainGlobals "need_moment" = some (some (.ref f4))) (l4 : K.lookup f4 = some ⟨oc4, od4, .func (PySem.W.fnOf "need_moment" "need_moment" (defArgs s_need_moment) (defBody s_need_moment) (defScope s_need_moment) .none kV4 dc4 pm4 an4 cd4 ct4), sl4⟩) (c4 : PySem.W.codeIn K cd4 "need_moment" = true) (k4 : PySem.W.keepIn K (.ref f4) = true)
    (a5 : PySem.W.nsIn K mainGlobals "need_number" = some (some (.ref f5))) (l5 : K.lookup f5 = some ⟨oc5, od5, .func (PySem.W.fnOf "need_number" "need_number" (defArgs s_need_number) (defBody s_need_number) (defScope s_need_number) .none kV5 dc5 pm5 an5 cd5 ct5), sl5⟩) (c5 : PySem.W.codeIn K cd5 "need_number" = true) (k5 : PySem.W.keepIn K (.ref f5) = true)
    (a6 : PySem.W.nsIn K mainGlobals "need_at_most" = some (some (.ref f6))) (l6 : K.lookup f6 = some ⟨oc6, od6, .func (PySem.W.fnOf "need_at_most" "need_at_most" (defArgs s_need_at_most) (defBody s_need_at_most) (defScope s_need_at_most) .none kV6 dc6 pm6 an6 cd6 ct6), sl6⟩) (c6 : PySem.W.codeIn K cd6 "need_at_most" = true) (k6 : PySem.W.keepIn K (.ref f6) = true)
    (a7 : PySem.W.nsIn K mainGlobals "is_tuple" = some (some (.ref f7))) (l7 : K.lookup f7 = some ⟨oc7, od7, .func (PySem.W.fnOf "is_tuple" "is_tuple" (defArgs s_is_tuple) (defBody s_is_tuple) (defScope s_is_tuple) .none kV7 dc7 pm7 an7 cd7 ct7), sl7⟩) (c7 : PySem.W.codeIn K cd7 "is_tuple" = true) (k7 : PySem.W.keepIn K (.ref f7) = true)
    (a8 : PySem.W.nsIn K mainGlobals "is_drawing" = some (some (.ref f8))) (l8 : K.lookup f8 = some ⟨oc8, od8, .func (PySem.W.fnOf "is_drawing" "is_drawing" (defArgs s_is_drawing) (defBody s_is_drawing) (defScope s_is_drawing) .none kV8 dc8 pm8 an8 cd8 ct8), sl8⟩) (c8 : PySem.W.codeIn K cd8 "is_drawing" = true) (k8 : PySem.W.keepIn K (.ref f8) = true)
    (a9 : PySem.W.nsIn K mainGlobals "is_hold" = some (some (.ref f9))) (l9 : K.lookup f9 = some ⟨oc9, od9, .func (PySem.W.fnOf "is_hold" "is_hold" (defArgs s_is_hold) (defBody s_is_hold) (defScope s_is_hold) .none kV9 dc9 pm9 an9 cd9 ct9), sl9⟩) (c9 : PySem.W.codeIn K cd9 "is_hold" = true) (k9 : PySem.W.keepIn K (.ref f9) = true)
    (a10 : PySem.W.nsIn K mainGlobals "is_row" = some (some (.ref f10))) (l10 : K.lookup f10 = some ⟨oc10, od10, .func (PySem.W.fnOf "is_row" "is_row" (defArgs s_is_row) (defBody s_is_row) (defScope s_is_row) .none kV10 dc10 pm10 an10 cd10 ct10), sl10⟩) (c10 : PySem.W.codeIn K cd10 "is_row" = true) (k10 : PySem.W.keepIn K (.ref f10) = true)
    (a11 : PySem.W.nsIn K mainGlobals "is_layer" = some (some (.ref f11))) (l11 : K.lookup f11 = some ⟨oc11, od11, .func (PySem.W.fnOf "is_layer" "is_layer" (defArgs s_is_layer) (defBody s_is_layer) (defScope s_is_layer) .none kV11 dc11 pm11 an11 cd11 ct11), sl11⟩) (c11 : PySem.W.codeIn K cd11 "is_layer" = true) (k11 : PySem.W.keepIn K (.ref f11) = true)
    (a12 : PySem.W.nsIn K mainGlobals "is_way" = some (some (.ref f12))) (l12 : K.lookup f12 = some ⟨oc12, od12, .func (PySem.W.fnOf "is_way" "is_way" (defArgs s_is_way) (defBody s_is_way) (defScope s_is_way) .none kV12 dc12 pm12 an12 cd12 ct12), sl12⟩) (c12 : PySem.W.codeIn K cd12 "is_way" = true) (k12 : PySem.W.keepIn K (.ref f12) = true)
    (a13 : PySem.W.nsIn K mainGlobals "is_many" = some (some (.ref f13))) (l13 : K.lookup f13 = some ⟨oc13, od13, .func (PySem.W.fnOf "is_many" "is_many" (defArgs s_is_many) (defBody s_is_many) (defScope s_is_many) .none kV13 dc13 pm13 an13 cd13 ct13), sl13⟩) (c13 : PySem.W.codeIn K cd13 "is_many" = true) (k13 : PySem.W.keepIn K (.ref f13) = true)
    (a14 : PySem.W.nsIn K mainGlobals "is_move" = some (some (.ref f14))) (l14 : K.lookup f14 = some ⟨oc14, od14, .func (PySem.W.fnOf "is_move" "is_move" (defArgs s_is_move) (defBody s_is_move) (defScope s_is_move) .none kV14 dc14 pm14 an14 cd14 ct14), sl14⟩) (c14 : PySem.W.codeIn K cd14 "is_move" = true) (k14 : PySem.W.keepIn K (.ref f14) = true)
    (a15 : PySem.W.nsIn K mainGlobals "is_window" = some (some (.ref f15))) (l15 : K.lookup f15 = some ⟨oc15, od15, .func (PySem.W.fnOf "is_window" "is_window" (defArgs s_is_window) (defBody s_is_window) (defScope s_is_window) .none kV15 dc15 pm15 an15 cd15 ct15), sl15⟩) (c15 : PySem.W.codeIn K cd15 "is_window" = true) (k15 : PySem.W.keepIn K (.ref f15) = true)
    (a16 : PySem.W.nsIn K mainGlobals "is_sheet" = some (some (.ref f16))) (l16 : K.lookup f16 = some ⟨oc16, od16, .func (PySem.W.fnOf "is_sheet" "is_sheet" (defArgs s_is_sheet) (defBody s_is_sheet) (defScope s_is_sheet) .none kV16 dc16 pm16 an16 cd16 ct16), sl16⟩) (c16 : PySem.W.codeIn K cd16 "is_sheet" = true) (k16 : PySem.W.keepIn K (.ref f16) = true)
    (a17 : PySem.W.nsIn K mainGlobals "need_layer" = some (some (.ref f17))) (l17 : K.lookup f17 = some ⟨oc17, od17, .func (PySem.W.fnOf "need_layer" "need_layer" (defArgs s_need_layer) (defBody s_need_layer) (defScope s_need_layer) .none kV17 dc17 pm17 an17 cd17 ct17), sl17⟩) (c17 : PySem.W.codeIn K cd17 "need_layer" = true) (k17 : PySem.W.keepIn K (.ref f17) = true)
    (a18 : PySem.W.nsIn K mainGlobals "need_sheet" = some (some (.ref f18))) (l18 : K.lookup f18 = some ⟨oc18, od18, .func (PySem.W.fnOf "need_sheet" "need_sheet" (defArgs s_need_sheet) (defBody s_need_sheet) (defScope s_need_sheet) .none kV18 dc18 pm18 an18 cd18 ct18), sl18⟩) (c18 : PySem.W.codeIn K cd18 "need_sheet" = true) (k18 : PySem.W.keepIn K (.ref f18) = true)
    (a19 : PySem.W.nsIn K mainGlobals "need_as_many_layers" = some (some (.ref f19))) (l19 : K.lookup f19 = some ⟨oc19, od19, .func (PySem.W.fnOf "need_as_many_layers" "need_as_many_layers" (defArgs s_need_as_many_layers) (defBody s_need_as_many_layers) (defScope s_need_as_many_layers) .none kV19 dc19 pm19 an19 cd19 ct19), sl19⟩) (c19 : PySem.W.codeIn K cd19 "need_as_many_layers" = true) (k19 : PySem.W.keepIn K (.ref f19) = true)
    (a20 : PySem.W.nsIn K mainGlobals "need_length" = some (some (.ref f20))) (l20 : K.lookup f20 = some ⟨oc20, od20, .func (PySem.W.fnOf "need_length" "need_length" (defArgs s_need_length) (defBody s_need_length) (defScope s_need_length) .none kV20 dc20 pm20 an20 cd20 ct20), sl20⟩) (c20 : PySem.W.codeIn K cd20 "need_length" = true) (k20 : PySem.W.keepIn K (.ref f20) = true)
    (a21 : PySem.W.nsIn K mainGlobals "held" = some (some (.ref f21))) (l21 : K.lookup f21 = some ⟨oc21, od21, .func (PySem.W.fnOf "held" "held" (defArgs s_held) (defBody s_held) (defScope s_held) .none kV21 dc21 pm21 an21 cd21 ct21), sl21⟩) (c21 : PySem.W.codeIn K cd21 "held" = true) (k21 : PySem.W.keepIn K (.ref f21) = true)
    (a22 : PySem.W.nsIn K mainGlobals "length_of" = some (some (.ref f22))) (l22 : K.lookup f22 = some ⟨oc22, od22, .func (PySem.W.fnOf "length_of" "length_of" (defArgs s_length_of) (defBody s_length_of) (defScope s_length_of) .none kV22 dc22 pm22 an22 cd22 ct22), sl22⟩) (c22 : PySem.W.codeIn K cd22 "length_of" = true) (k22 : PySem.W.keepIn K (.ref f22) = true)
    (a23 : PySem.W.nsIn K mainGlobals "moved" = some (some (.ref f23))) (l23 : K.lookup f23 = some ⟨oc23, od23, .func (PySem.W.fnOf "moved" "moved" (defArgs s_moved) (defBody s_moved) (defScope s_moved) .none kV23 dc23 pm23 an23 cd23 ct23), sl23⟩) (c23 : PySem.W.codeIn K cd23 "moved" = true) (k23 : PySem.W.keepIn K (.ref f23) = true)
    (a24 : PySem.W.nsIn K mainGlobals "full_length" = some (some (.ref f24))) (l24 : K.lookup f24 = some ⟨oc24, od24, .func (PySem.W.fnOf "full_length" "full_length" (defArgs s_full_length) (defBody s_full_length) (defScope s_full_length) .none kV24 dc24 pm24 an24 cd24 ct24), sl24⟩) (c24 : PySem.W.codeIn K cd24 "full_length" = true) (k24 : PySem.W.keepIn K (.ref f24) = true)
    (a25 : PySem.W.nsIn K mainGlobals "first_time" = some (some (.ref f25))) (l25 : K.lookup f25 = some ⟨oc25, od25, .func (PySem.W.fnOf "first_time" "first_time" (defArgs s_first_time) (defBody s_first_time) (defScope s_first_time) .none kV25 dc25 pm25 an25 cd25 ct25), sl25⟩) (c25 : PySem.W.codeIn K cd25 "first_time" = true) (k25 : PySem.W.keepIn K (.ref f25) = true)
    (a26 : PySem.W.nsIn K mainGlobals "drawing_of" = some (some (.ref f26))) (l26 : K.lookup f26 = some ⟨oc26, od26, .func (PySem.W.fnOf "drawing_of" "drawing_of" (defArgs s_drawing_of) (defBody s_drawing_of) (defScope s_drawing_of) .none kV26 dc26 pm26 an26 cd26 ct26), sl26⟩) (c26 : PySem.W.codeIn K cd26 "drawing_of" = true) (k26 : PySem.W.keepIn K (.ref f26) = true)
    (a27 : PySem.W.nsIn K mainGlobals "common_divisor" = some (some (.ref f27))) (l27 : K.lookup f27 = some ⟨oc27, od27, .func (PySem.W.fnOf "common_divisor" "common_divisor" (defArgs s_common_divisor) (defBody s_common_divisor) (defScope s_common_divisor) .none kV27 dc27 pm27 an27 cd27 ct27), sl27⟩) (c27 : PySem.W.codeIn K cd27 "common_divisor" = true) (k27 : PySem.W.keepIn K (.ref f27) = true)
    (a28 : PySem.W.nsIn K mainGlobals "lowest" = some (some (.ref f28))) (l28 : K.lookup f28 = some ⟨oc28, od28, .func (PySem.W.fnOf "lowest" "lowest" (defArgs s_lowest) (defBody s_lowest) (defScope s_lowest) .none kV28 dc28 pm28 an28 cd28 ct28), sl28⟩) (c28 : PySem.W.codeIn K cd28 "lowest" = true) (k28 : PySem.W.keepIn K (.ref f28) = true)
    (a29 : PySem.W.nsIn K mainGlobals "on_the_way" = some (some (.ref f29))) (l29 : K.lookup f29 = some ⟨oc29, od29, .func (PySem.W.fnOf "on_the_way" "on_the_way" (defArgs s_on_the_way) (defBody s_on_the_way) (defScope s_on_the_way) .none kV29 dc29 pm29 an29 cd29 ct29), sl29⟩) (c29 : PySem.W.codeIn K cd29 "on_the_way" = true) (k29 : PySem.W.keepIn K (.ref f29) = true)
    (a30 : PySem.W.nsIn K mainGlobals "place_of" = some (some (.ref f30))) (l30 : K.lookup f30 = some ⟨oc30, od30, .func (PySem.W.fnOf "place_of" "place_of" (defArgs s_place_of) (defBody s_place_of) (defScope s_place_of) .none kV30 dc30 pm30 an30 cd30 ct30), sl30⟩) (c30 : PySem.W.codeIn K cd30 "place_of" = true) (k30 : PySem.W.keepIn K (.ref f30) = true)
    (a31 : PySem.W.nsIn K mainGlobals "picture_of" = some (some (.ref f31))) (l31 : K.lookup f31 = some ⟨oc31, od31, .func (PySem.W.fnOf "picture_of" "picture_of" (defArgs s_picture_of) (defBody s_picture_of) (defScope s_picture_of) .none kV31 dc31 pm31 an31 cd31 ct31), sl31⟩) (c31 : PySem.W.codeIn K cd31 "picture_of" = true) (k31 : PySem.W.keepIn K (.ref f31) = true)
    (a32 : PySem.W.nsIn K mainGlobals "pictures_of" = some (some (.ref f32))) (l32 : K.lookup f32 = some ⟨oc32, od32, .func (PySem.W.fnOf "pictures_of" "pictures_of" (defArgs s_pictures_of) (defBody s_pictures_of) (defScope s_pictures_of) .none kV32 dc32 pm32 an32 cd32 ct32), sl32⟩) (c32 : PySem.W.codeIn K cd32 "pictures_of" = true) (k32 : PySem.W.keepIn K (.ref f32) = true)
    (a33 : PySem.W.nsIn K mainGlobals "pictures_from" = some (some (.ref f33))) (l33 : K.lookup f33 = some ⟨oc33, od33, .func (PySem.W.fnOf "pictures_from" "pictures_from" (defArgs s_pictures_from) (defBody s_pictures_from) (defScope s_pictures_from) .none kV33 dc33 pm33 an33 cd33 ct33), sl33⟩) (c33 : PySem.W.codeIn K cd33 "pictures_from" = true) (k33 : PySem.W.keepIn K (.ref f33) = true)
    (a34 : PySem.W.nsIn K mainGlobals "plates" = some (some (.ref f34))) (l34 : K.lookup f34 = some ⟨oc34, od34, .func (PySem.W.fnOf "plates" "plates" (defArgs s_plates) (defBody s_plates) (defScope s_plates) .none kV34 dc34 pm34 an34 cd34 ct34), sl34⟩) (c34 : PySem.W.codeIn K cd34 "plates" = true) (k34 : PySem.W.keepIn K (.ref f34) = true)
    (a35 : PySem.W.nsIn K mainGlobals "need_pair" = some (some (.ref f35))) (l35 : K.lookup f35 = some ⟨oc35, od35, .func (PySem.W.fnOf "need_pair" "need_pair" (defArgs s_need_pair) (defBody s_need_pair) (defScope s_need_pair) .none kV35 dc35 pm35 an35 cd35 ct35), sl35⟩) (c35 : PySem.W.codeIn K cd35 "need_pair" = true) (k35 : PySem.W.keepIn K (.ref f35) = true)
    (a36 : PySem.W.nsIn K mainGlobals "least_paper" = some (some (.ref f36))) (l36 : K.lookup f36 = some ⟨oc36, od36, .func (PySem.W.fnOf "least_paper" "least_paper" (defArgs s_least_paper) (defBody s_least_paper) (defScope s_least_paper) .none kV36 dc36 pm36 an36 cd36 ct36), sl36⟩) (c36 : PySem.W.codeIn K cd36 "least_paper" = true) (k36 : PySem.W.keepIn K (.ref f36) = true)
    (a37 : PySem.W.nsIn K mainGlobals "filling" = some (some (.ref f37))) (l37 : K.lookup f37 = some ⟨oc37, od37, .func (PySem.W.fnOf "filling" "filling" (defArgs s_filling) (defBody s_filling) (defScope s_filling) .none kV37 dc37 pm37 an37 cd37 ct37), sl37⟩) (c37 : PySem.W.codeIn K cd37 "filling" = true) (k37 : PySem.W.keepIn K (.ref f37) = true)
    (a38 : PySem.W.nsIn K mainGlobals "rows_for" = some (some (.ref f38))) (l38 : K.lookup f38 = some ⟨oc38, od38, .func (PySem.W.fnOf "rows_for" "rows_for" (defArgs s_rows_for) (defBody s_rows_for) (defScope s_rows_for) .none kV38 dc38 pm38 an38 cd38 ct38), sl38⟩) (c38 : PySem.W.codeIn K cd38 "rows_for" = true) (k38 : PySem.W.keepIn K (.ref f38) = true)
    (a39 : PySem.W.nsIn K mainGlobals "layer_behind" = some (some (.ref f39))) (l39 : K.lookup f39 = some ⟨oc39, od39, .func (PySem.W.fnOf "layer_behind" "layer_behind" (defArgs s_layer_behind) (defBody s_layer_behind) (defScope s_layer_behind) .none kV39 dc39 pm39 an39 cd39 ct39), sl39⟩) (c39 : PySem.W.codeIn K cd39 "layer_behind" = true) (k39 : PySem.W.keepIn K (.ref f39) = true)
    (a40 : PySem.W.nsIn K mainGlobals "moves_for" = some (some (.ref f40))) (l40 : K.lookup f40 = some ⟨oc40, od40, .func (PySem.W.fnOf "moves_for" "moves_for" (defArgs s_moves_for) (defBody s_moves_for) (defScope s_moves_for) .none kV40 dc40 pm40 an40 cd40 ct40), sl40⟩) (c40 : PySem.W.codeIn K cd40 "moves_for" = true) (k40 : PySem.W.keepIn K (.ref f40) = true)
    (a41 : PySem.W.nsIn K mainGlobals "window_behind" = some (some (.ref f41))) (l41 : K.lookup f41 = some ⟨oc41, od41, .func (PySem.W.fnOf "window_behind" "window_behind" (defArgs s_window_behind) (defBody s_window_behind) (defScope s_window_behind) .none kV41 dc41 pm41 an41 cd41 ct41), sl41⟩) (c41 : PySem.W.codeIn K cd41 "window_behind" = true) (k41 : PySem.W.keepIn K (.ref f41) = true)
    (a42 : PySem.W.nsIn K mainGlobals "behind" = some (some (.ref f42))) (l42 : K.lookup f42 = some ⟨oc42, od42, .func (PySem.W.fnOf "behind" "behind" (defArgs s_behind) (defBody s_behind) (defScope s_behind) .none kV42 dc42 pm42 an42 cd42 ct42), sl42⟩) (c42 : PySem.W.codeIn K cd42 "behind" = true) (k42 : PySem.W.keepIn K (.ref f42) = true)
    (a43 : PySem.W.nsIn K mainGlobals "beside" = some (some (.ref f43))) (l43 : K.lookup f43 = some ⟨oc43, od43, .func (PySem.W.fnOf "beside" "beside" (defArgs s_beside) (defBody s_beside) (defScope s_beside) .none kV43 dc43 pm43 an43 cd43 ct43), sl43⟩) (c43 : PySem.W.codeIn K cd43 "beside" = true) (k43 : PySem.W.keepIn K (.ref f43) = true)
    (a44 : PySem.W.nsIn K mainGlobals "writes_number" = some (some (.ref f44))) (l44 : K.lookup f44 = some ⟨oc44, od44, .func (PySem.W.fnOf "writes_number" "writes_number" (defArgs s_writes_number) (defBody s_writes_number) (defScope s_writes_number) .none kV44 dc44 pm44 an44 cd44 ct44), sl44⟩) (c44 : PySem.W.codeIn K cd44 "writes_number" = true) (k44 : PySem.W.keepIn K (.ref f44) = true)
    (a45 : PySem.W.nsIn K mainGlobals "number_in" = some (some (.ref f45))) (l45 : K.lookup f45 = some ⟨oc45, od45, .func (PySem.W.fnOf "number_in" "number_in" (defArgs s_number_in) (defBody s_number_in) (defScope s_number_in) .none kV45 dc45 pm45 an45 cd45 ct45), sl45⟩) (c45 : PySem.W.codeIn K cd45 "number_in" = true) (k45 : PySem.W.keepIn K (.ref f45) = true)
    (a46 : PySem.W.nsIn K mainGlobals "numbers_in" = some (some (.ref f46))) (l46 : K.lookup f46 = some ⟨oc46, od46, .func (PySem.W.fnOf "numbers_in" "numbers_in" (defArgs s_numbers_in) (defBody s_numbers_in) (defScope s_numbers_in) .none kV46 dc46 pm46 an46 cd46 ct46), sl46⟩) (c46 : PySem.W.codeIn K cd46 "numbers_in" = true) (k46 : PySem.W.keepIn K (.ref f46) = true)
    (a47 : PySem.W.nsIn K mainGlobals "move_text" = some (some (.ref f47))) (l47 : K.lookup f47 = some ⟨oc47, od47, .func (PySem.W.fnOf "move_text" "move_text" (defArgs s_move_text) (defBody s_move_text) (defScope s_move_text) .none kV47 dc47 pm47 an47 cd47 ct47), sl47⟩) (c47 : PySem.W.codeIn K cd47 "move_text" = true) (k47 : PySem.W.keepIn K (.ref f47) = true)
    (a48 : PySem.W.nsIn K mainGlobals "row_text" = some (some (.ref f48))) (l48 : K.lookup f48 = some ⟨oc48, od48, .func (PySem.W.fnOf "row_text" "row_text" (defArgs s_row_text) (defBody s_row_text) (defScope s_row_text) .none kV48 dc48 pm48 an48 cd48 ct48), sl48⟩) (c48 : PySem.W.codeIn K cd48 "row_text" = true) (k48 : PySem.W.keepIn K (.ref f48) = true)
    (a49 : PySem.W.nsIn K mainGlobals "window_text" = some (some (.ref f49))) (l49 : K.lookup f49 = some ⟨oc49, od49, .func (PySem.W.fnOf "window_text" "window_text" (defArgs s_window_text) (defBody s_window_text) (defScope s_window_text) .none kV49 dc49 pm49 an49 cd49 ct49), sl49⟩) (c49 : PySem.W.codeIn K cd49 "window_text" = true) (k49 : PySem.W.keepIn K (.ref f49) = true)
    (a50 : PySem.W.nsIn K mainGlobals "layer_text" = some (some (.ref f50))) (l50 : K.lookup f50 = some ⟨oc50, od50, .func (PySem.W.fnOf "layer_text" "layer_text" (defArgs s_layer_text) (defBody s_layer_text) (defScope s_layer_text) .none kV50 dc50 pm50 an50 cd50 ct50), sl50⟩) (c50 : PySem.W.codeIn K cd50 "layer_text" = true) (k50 : PySem.W.keepIn K (.ref f50) = true)
    (a51 : PySem.W.nsIn K mainGlobals "text_of" = some (some (.ref f51))) (l51 : K.lookup f51 = some ⟨oc51, od51, .func (PySem.W.fnOf "text_of" "text_of" (defArgs s_text_of) (defBody s_text_of) (defScope s_text_of) .none kV51 dc51 pm51 an51 cd51 ct51), sl51⟩) (c51 : PySem.W.codeIn K cd51 "text_of" = true) (k51 : PySem.W.keepIn K (.ref f51) = true)
    (a52 : PySem.W.nsIn K mainGlobals "sheet_text" = some (some (.ref f52))) (l52 : K.lookup f52 = some ⟨oc52, od52, .func (PySem.W.fnOf "sheet_text" "sheet_text" (defArgs s_sheet_text) (defBody s_sheet_text) (defScope s_sheet_text) .none kV52 dc52 pm52 an52 cd52 ct52), sl52⟩) (c52 : PySem.W.codeIn K cd52 "sheet_text" = true) (k52 : PySem.W.keepIn K (.ref f52) = true)
    (a53 : PySem.W.nsIn K mainGlobals "window_in" = some (some (.ref f53))) (l53 : K.lookup f53 = some ⟨oc53, od53, .func (PySem.W.fnOf "window_in" "window_in" (defArgs s_window_in) (defBody s_window_in) (defScope s_window_in) .none kV53 dc53 pm53 an53 cd53 ct53), sl53⟩) (c53 : PySem.W.codeIn K cd53 "window_in" = true) (k53 : PySem.W.keepIn K (.ref f53) = true)
    (a54 : PySem.W.nsIn K mainGlobals "layer_in" = some (some (.ref f54))) (l54 : K.lookup f54 = some ⟨oc54, od54, .func (PySem.W.fnOf "layer_in" "layer_in" (defArgs s_layer_in) (defBody s_layer_in) (defScope s_layer_in) .none kV54 dc54 pm54 an54 cd54 ct54), sl54⟩) (c54 : PySem.W.codeIn K cd54 "layer_in" = true) (k54 : PySem.W.keepIn K (.ref f54) = true)
    (a55 : PySem.W.nsIn K mainGlobals "sheet_in" = some (some (.ref f55))) (l55 : K.lookup f55 = some ⟨oc55, od55, .func (PySem.W.fnOf "sheet_in" "sheet_in" (defArgs s_sheet_in) (defBody s_sheet_in) (defScope s_sheet_in) .none kV55 dc55 pm55 an55 cd55 ct55), sl55⟩) (c55 : PySem.W.codeIn K cd55 "sheet_in" = true) (k55 : PySem.W.keepIn K (.ref f55) = true)
    (a56 : PySem.W.nsIn K mainGlobals "read_sheet" = some (some (.ref f56))) (l56 : K.lookup f56 = some ⟨oc56, od56, .func (PySem.W.fnOf "read_sheet" "read_sheet" (defArgs s_read_sheet) (defBody s_read_sheet) (defScope s_read_sheet) .none kV56 dc56 pm56 an56 cd56 ct56), sl56⟩) (c56 : PySem.W.codeIn K cd56 "read_sheet" = true) (k56 : PySem.W.keepIn K (.ref f56) = true)
    (a57 : PySem.W.nsIn K mainGlobals "need_time" = some (some (.ref f57))) (l57 : K.lookup f57 = some ⟨oc57, od57, .func (PySem.W.fnOf "need_time" "need_time" (defArgs s_need_time) (defBody s_need_time) (defScope s_need_time) .none kV57 dc57 pm57 an57 cd57 ct57), sl57⟩) (c57 : PySem.W.codeIn K cd57 "need_time" = true) (k57 : PySem.W.keepIn K (.ref f57) = true)
    (a58 : PySem.W.nsIn K mainGlobals "need_fitting" = some (some (.ref f58))) (l58 : K.lookup f58 = some ⟨oc58, od58, .func (PySem.W.fnOf "need_fitting" "need_fitting" (defArgs s_need_fitting) (defBody s_need_fitting) (defScope s_need_fitting) .none kV58 dc58 pm58 an58 cd58 ct58), sl58⟩) (c58 : PySem.W.codeIn K cd58 "need_fitting" = true) (k58 : PySem.W.keepIn K (.ref f58) = true)
    (a59 : PySem.W.nsIn K mainGlobals "even_holds" = some (some (.ref f59))) (l59 : K.lookup f59 = some ⟨oc59, od59, .func (PySem.W.fnOf "even_holds" "even_holds" (defArgs s_even_holds) (defBody s_even_holds) (defScope s_even_holds) .none kV59 dc59 pm59 an59 cd59 ct59), sl59⟩) (c59 : PySem.W.codeIn K cd59 "even_holds" = true) (k59 : PySem.W.keepIn K (.ref f59) = true)
    (a60 : PySem.W.nsIn K mainGlobals "scaled" = some (some (.ref f60))) (l60 : K.lookup f60 = some ⟨oc60, od60, .func (PySem.W.fnOf "scaled" "scaled" (defArgs s_scaled) (defBody s_scaled) (defScope s_scaled) .none kV60 dc60 pm60 an60 cd60 ct60), sl60⟩) (c60 : PySem.W.codeIn K cd60 "scaled" = true) (k60 : PySem.W.keepIn K (.ref f60) = true)
    (a61 : PySem.W.nsIn K mainGlobals "layer_with" = some (some (.ref f61))) (l61 : K.lookup f61 = some ⟨oc61, od61, .func (PySem.W.fnOf "layer_with" "layer_with" (defArgs s_layer_with) (defBody s_layer_with) (defScope s_layer_with) .none kV61 dc61 pm61 an61 cd61 ct61), sl61⟩) (c61 : PySem.W.codeIn K cd61 "layer_with" = true) (k61 : PySem.W.keepIn K (.ref f61) = true)
    (a62 : PySem.W.nsIn K mainGlobals "scaled_layer" = some (some (.ref f62))) (l62 : K.lookup f62 = some ⟨oc62, od62, .func (PySem.W.fnOf "scaled_layer" "scaled_layer" (defArgs s_scaled_layer) (defBody s_scaled_layer) (defScope s_scaled_layer) .none kV62 dc62 pm62 an62 cd62 ct62), sl62⟩) (c62 : PySem.W.codeIn K cd62 "scaled_layer" = true) (k62 : PySem.W.keepIn K (.ref f62) = true)
    (a63 : PySem.W.nsIn K mainGlobals "scaled_window" = some (some (.ref f63))) (l63 : K.lookup f63 = some ⟨oc63, od63, .func (PySem.W.fnOf "scaled_window" "scaled_window" (defArgs s_scaled_window) (defBody s_scaled_window) (defScope s_scaled_window) .none kV63 dc63 pm63 an63 cd63 ct63), sl63⟩) (c63 : PySem.W.codeIn K cd63 "scaled_window" = true) (k63 : PySem.W.keepIn K (.ref f63) = true)
    (a64 : PySem.W.nsIn K mainGlobals "evened" = some (some (.ref f64))) (l64 : K.lookup f64 = some ⟨oc64, od64, .func (PySem.W.fnOf "evened" "evened" (defArgs s_evened) (defBody s_evened) (defScope s_evened) .none kV64 dc64 pm64 an64 cd64 ct64), sl64⟩) (c64 : PySem.W.codeIn K cd64 "evened" = true) (k64 : PySem.W.keepIn K (.ref f64) = true)
    (a65 : PySem.W.nsIn K mainGlobals "retimed" = some (some (.ref f65))) (l65 : K.lookup f65 = some ⟨oc65, od65, .func (PySem.W.fnOf "retimed" "retimed" (defArgs s_retimed) (defBody s_retimed) (defScope s_retimed) .none kV65 dc65 pm65 an65 cd65 ct65), sl65⟩) (c65 : PySem.W.codeIn K cd65 "retimed" = true) (k65 : PySem.W.keepIn K (.ref f65) = true)
    (a66 : PySem.W.nsIn K mainGlobals "sheet_retimed" = some (some (.ref f66))) (l66 : K.lookup f66 = some ⟨oc66, od66, .func (PySem.W.fnOf "sheet_retimed" "sheet_retimed" (defArgs s_sheet_retimed) (defBody s_sheet_retimed) (defScope s_sheet_retimed) .none kV66 dc66 pm66 an66 cd66 ct66), sl66⟩) (c66 : PySem.W.codeIn K cd66 "sheet_retimed" = true) (k66 : PySem.W.keepIn K (.ref f66) = true)
    (a67 : PySem.W.nsIn K mainGlobals "_law_cell_at" = some (some (.ref f67))) (l67 : K.lookup f67 = some ⟨oc67, od67, .func (PySem.W.fnOf "_law_cell_at" "_law_cell_at" (defArgs s__law_cell_at) (defBody s__law_cell_at) (defScope s__law_cell_at) .none kV67 dc67 pm67 an67 cd67 ct67), sl67⟩) (c67 : PySem.W.codeIn K cd67 "_law_cell_at" = true) (k67 : PySem.W.keepIn K (.ref f67) = true)
    (a68 : PySem.W.nsIn K mainGlobals "_law_state" = some (some (.ref f68))) (l68 : K.lookup f68 = some ⟨oc68, od68, .func (PySem.W.fnOf "_law_state" "_law_state" (defArgs s__law_state) (defBody s__law_state) (defScope s__law_state) .none kV68 dc68 pm68 an68 cd68 ct68), sl68⟩) (c68 : PySem.W.codeIn K cd68 "_law_state" = true) (k68 : PySem.W.keepIn K (.ref f68) = true)
    (a69 : PySem.W.nsIn K mainGlobals "_law_take" = some (some (.ref f69))) (l69 : K.lookup f69 = some ⟨oc69, od69, .func (PySem.W.fnOf "_law_take" "_law_take" (defArgs s__law_take) (defBody s__law_take) (defScope s__law_take) .none kV69 dc69 pm69 an69 cd69 ct69), sl69⟩) (c69 : PySem.W.codeIn K cd69 "_law_take" = true) (k69 : PySem.W.keepIn K (.ref f69) = true)
    (a70 : PySem.W.nsIn K mainGlobals "_law_row" = some (some (.ref f70))) (l70 : K.lookup f70 = some ⟨oc70, od70, .func (PySem.W.fnOf "_law_row" "_law_row" (defArgs s__law_row) (defBody s__law_row) (defScope s__law_row) .none kV70 dc70 pm70 an70 cd70 ct70), sl70⟩) (c70 : PySem.W.codeIn K cd70 "_law_row" = true) (k70 : PySem.W.keepIn K (.ref f70) = true)
    (a71 : PySem.W.nsIn K mainGlobals "_law_layer" = some (some (.ref f71))) (l71 : K.lookup f71 = some ⟨oc71, od71, .func (PySem.W.fnOf "_law_layer" "_law_layer" (defArgs s__law_layer) (defBody s__law_layer) (defScope s__law_layer) .none kV71 dc71 pm71 an71 cd71 ct71), sl71⟩) (c71 : PySem.W.codeIn K cd71 "_law_layer" = true) (k71 : PySem.W.keepIn K (.ref f71) = true)
    (a72 : PySem.W.nsIn K mainGlobals "_law_window" = some (some (.ref f72))) (l72 : K.lookup f72 = some ⟨oc72, od72, .func (PySem.W.fnOf "_law_window" "_law_window" (defArgs s__law_window) (defBody s__law_window) (defScope s__law_window) .none kV72 dc72 pm72 an72 cd72 ct72), sl72⟩) (c72 : PySem.W.codeIn K cd72 "_law_window" = true) (k72 : PySem.W.keepIn K (.ref f72) = true)
    (a73 : PySem.W.nsIn K mainGlobals "_law_sheet" = some (some (.ref f73))) (l73 : K.lookup f73 = some ⟨oc73, od73, .func (PySem.W.fnOf "_law_sheet" "_law_sheet" (defArgs s__law_sheet) (defBody s__law_sheet) (defScope s__law_sheet) .none kV73 dc73 pm73 an73 cd73 ct73), sl73⟩) (c73 : PySem.W.codeIn K cd73 "_law_sheet" = true) (k73 : PySem.W.keepIn K (.ref f73) = true)
    (a74 : PySem.W.nsIn K mainGlobals "_law_length" = some (some (.ref f74))) (l74 : K.lookup f74 = some ⟨oc74, od74, .func (PySem.W.fnOf "_law_length" "_law_length" (defArgs s__law_length) (defBody s__law_length) (defScope s__law_length) .none kV74 dc74 pm74 an74 cd74 ct74), sl74⟩) (c74 : PySem.W.codeIn K cd74 "_law_length" = true) (k74 : PySem.W.keepIn K (.ref f74) = true)
    (a75 : PySem.W.nsIn K mainGlobals "_law_drawing" = some (some (.ref f75))) (l75 : K.lookup f75 = some ⟨oc75, od75, .func (PySem.W.fnOf "_law_drawing" "_law_drawing" (defArgs s__law_drawing) (defBody s__law_drawing) (defScope s__law_drawing) .none kV75 dc75 pm75 an75 cd75 ct75), sl75⟩) (c75 : PySem.W.codeIn K cd75 "_law_drawing" = true) (k75 : PySem.W.keepIn K (.ref f75) = true)
    (a76 : PySem.W.nsIn K mainGlobals "_law_fraction" = some (some (.ref f76))) (l76 : K.lookup f76 = some ⟨oc76, od76, .func (PySem.W.fnOf "_law_fraction" "_law_fraction" (defArgs s__law_fraction) (defBody s__law_fraction) (defScope s__law_fraction) .none kV76 dc76 pm76 an76 cd76 ct76), sl76⟩) (c76 : PySem.W.codeIn K cd76 "_law_fraction" = true) (k76 : PySem.W.keepIn K (.ref f76) = true)
    (a77 : PySem.W.nsIn K mainGlobals "_law_stands" = some (some (.ref f77))) (l77 : K.lookup f77 = some ⟨oc77, od77, .func (PySem.W.fnOf "_law_stands" "_law_stands" (defArgs s__law_stands) (defBody s__law_stands) (defScope s__law_stands) .none kV77 dc77 pm77 an77 cd77 ct77), sl77⟩) (c77 : PySem.W.codeIn K cd77 "_law_stands" = true) (k77 : PySem.W.keepIn K (.ref f77) = true)
    (a78 : PySem.W.nsIn K mainGlobals "_law_picture" = some (some (.ref f78))) (l78 : K.lookup f78 = some ⟨oc78, od78, .func (PySem.W.fnOf "_law_picture" "_law_picture" (defArgs s__law_picture) (defBody s__law_picture) (defScope s__law_picture) .none kV78 dc78 pm78 an78 cd78 ct78), sl78⟩) (c78 : PySem.W.codeIn K cd78 "_law_picture" = true) (k78 : PySem.W.keepIn K (.ref f78) = true)
    (a79 : PySem.W.nsIn K mainGlobals "_law_marked" = some (some (.ref f79))) (l79 : K.lookup f79 = some ⟨oc79, od79, .func (PySem.W.fnOf "_law_marked" "_law_marked" (defArgs s__law_marked) (defBody s__law_marked) (defScope s__law_marked) .none kV79 dc79 pm79 an79 cd79 ct79), sl79⟩) (c79 : PySem.W.codeIn K cd79 "_law_marked" = true) (k79 : PySem.W.keepIn K (.ref f79) = true)
    (a80 : PySem.W.nsIn K mainGlobals "_law_round" = some (some (.ref f80))) (l80 : K.lookup f80 = some ⟨oc80, od80, .func (PySem.W.fnOf "_law_round" "_law_round" (defArgs s__law_round) (defBody s__law_round) (defScope s__law_round) .none kV80 dc80 pm80 an80 (.ref cc80) ct80), sl80⟩) (c80 : PySem.W.codeIn K (.ref cc80) "_law_round" = true) (k80 : PySem.W.keepIn K (.ref f80) = true)
    (te80 : h.get? PP80 = some { cls := .none, data := .fields #[] }) (th80 : PySem.W.CodeHd h cc80 PP80) (tn80 : K.lookup PP80 = none)
    (a81 : PySem.W.nsIn K mainGlobals "law" = some (some (.ref f81))) (l81 : K.lookup f81 = some ⟨oc81, od81, .func (PySem.W.fnOf "law" "law" (defArgs s_law) (defBody s_law) (defScope s_law) .none kV81 dc81 pm81 an81 cd81 ct81), sl81⟩) (c81 : PySem.W.codeIn K cd81 "law" = true) (k81 : PySem.W.keepIn K (.ref f81) = true)
    (z_ValueError : PySem.W.nsIn K mainGlobals "ValueError" = some none)
    (z_len : PySem.W.nsIn K mainGlobals "len" = some none)
    (z_isinstance : PySem.W.nsIn K mainGlobals "isinstance" = some none)
    (z_max : PySem.W.nsIn K mainGlobals "max" = some none)
    (z_sum : PySem.W.nsIn K mainGlobals "sum" = some none)
    (z_all : PySem.W.nsIn K mainGlobals "all" = some none)
    (z_any : PySem.W.nsIn K mainGlobals "any" = some none)
    (z_tuple : PySem.W.nsIn K mainGlobals "tuple" = some none)
    (z_abs : PySem.W.nsIn K mainGlobals "abs" = some none)
    (z_range : PySem.W.nsIn K mainGlobals "range" = some none)
    (z_zip : PySem.W.nsIn K mainGlobals "zip" = some none)
    (z_enumerate : PySem.W.nsIn K mainGlobals "enumerate" = some none)
    (z_bool : PySem.W.nsIn K mainGlobals "bool" = some none)
    (z_int : PySem.W.nsIn K mainGlobals "int" = some none)
    (z_repr : PySem.W.nsIn K mainGlobals "repr" = some none)
    (z_sorted : PySem.W.nsIn K mainGlobals "sorted" = some none)
    (z_divmod : PySem.W.nsIn K mainGlobals "divmod" = some none)
    (z_set : PySem.W.nsIn K mainGlobals "set" = some none)
    (z_str : PySem.W.nsIn K mainGlobals "str" = some none)
    (v_LAST_MOMENT : PySem.W.nsIn K mainGlobals "LAST_MOMENT" = some (some (.int 1000000000 t0)))
    (v_MOST_DRAWING : PySem.W.nsIn K mainGlobals "MOST_DRAWING" = some (some (.int 9 t1)))
    (v_MOST_HOLD : PySem.W.nsIn K mainGlobals "MOST_HOLD" = some (some (.int 24 t2)))
    (v_MOST_ROWS : PySem.W.nsIn K mainGlobals "MOST_ROWS" = some (some (.int 8 t3)))
    (v_MOST_WAY : PySem.W.nsIn K mainGlobals "MOST_WAY" = some (some (.int 20 t4)))
    (v_MOST_MANY : PySem.W.nsIn K mainGlobals "MOST_MANY" = some (some (.int 24 t5)))
    (v_MOST_MOVES : PySem.W.nsIn K mainGlobals "MOST_MOVES" = some (some (.int 8 t6)))
    (v_MOST_LAYERS : PySem.W.nsIn K mainGlobals "MOST_LAYERS" = some (some (.int 4 t7)))
    (v_MOST_PICTURES : PySem.W.nsIn K mainGlobals "MOST_PICTURES" = some (some (.int 200 t8)))
    (v_MOST_FIGURES : PySem.W.nsIn K mainGlobals "MOST_FIGURES" = some (some (.int 30 t9)))
    (x0 : PySem.W.nsIn K mainGlobals "NoLayer" = some (some (.ref C0)))
    (x1 : PySem.W.nsIn K mainGlobals "NoWindow" = some (some (.ref C1)))
    (x2 : PySem.W.nsIn K mainGlobals "NoSheet" = some (some (.ref C2)))
    (x3 : PySem.W.nsIn K mainGlobals "NoMoment" = some (some (.ref C3)))
    (x4 : PySem.W.nsIn K mainGlobals "NoRow" = some (some (.ref C4)))
    (x5 : PySem.W.nsIn K mainGlobals "NoNumber" = some (some (.ref C5)))
    (x6 : PySem.W.nsIn K mainGlobals "NoDrawings" = some (some (.ref C6)))
    (x7 : PySem.W.nsIn K mainGlobals "Unlike" = some (some (.ref C7)))
    (x8 : PySem.W.nsIn K mainGlobals "Endless" = some (some (.ref C8)))
    (x9 : PySem.W.nsIn K mainGlobals "Squeezed" = some (some (.ref C9)))
    (x10 : PySem.W.nsIn K mainGlobals "NoPaper" = some (some (.ref C10)))
    (x11 : PySem.W.nsIn K mainGlobals "NoDeed" = some (some (.ref C11)))
    (x12 : PySem.W.nsIn K mainGlobals "NoText" = some (some (.ref C12)))
    (x13 : PySem.W.nsIn K mainGlobals "NoWords" = some (some (.ref C13)))
    (x14 : PySem.W.nsIn K mainGlobals "TooMany" = some (some (.ref C14)))
    (x15 : PySem.W.nsIn K mainGlobals "Leaned" = some (some (.ref C15)))
    (xL : PySem.W.nsIn K mainGlobals "LanternError" = some (some (.ref LE)))
    (xb : excTB K (fun i => [C0, C1, C2, C3, C4, C5, C6, C7, C8, C9, C10, C11, C12, C13, C14, C15].getD i 0) LE = true) (nm1 : PySem.W.findIn K (.ref C14) "many" = some none) (nm2 : PySem.W.findIn K (.ref C14) "most" = some none) (nm3 : PySem.W.findIn K (.ref C15) "numbers" = some none)
    {nmTooMany qnTooMany : Str} {NTooMany fITooMany : Addr} {bsTooMany bmTooMany subTooMany : List Value} {snTooMany : List Str} {abTooMany : Bool} {colTooMany : Option Bool} {ddTooMany odTooMany anTooMany : Option Addr} {m0TooMany m1TooMany m2TooMany m3TooMany m5TooMany : Option Value} {ocTooMany kVTooMany dcTooMany pmTooMany cdTooMany ctTooMany : Value} {slTooMany : Array (Option Value)}
    (xoTooMany : K.lookup C14 = some (excClassObj nmTooMany qnTooMany C14 NTooMany bsTooMany bmTooMany true snTooMany subTooMany abTooMany colTooMany ddTooMany m0TooMany m1TooMany m2TooMany m3TooMany m5TooMany "ValueError.__new__")) (xrTooMany : PySem.HandSPX.refsVE bmTooMany = true) (saTooMany : PySem.W.findIn K (.ref C14) "__setattr__" = some (some (.builtin "object.__setattr__"))) (iITooMany : PySem.W.findIn K (.ref C14) "__init__" = some (some (.ref fITooMany))) (tITooMany : PySem.W.typeIn K (.ref fITooMany) = some (.type "function"))
    (lITooMany : K.lookup fITooMany = some ⟨ocTooMany, odTooMany, .func (PySem.W.fnOf "__init__" "TooMany.__init__" (defArgs s_TooMany_init) (defBody s_TooMany_init) (defScope s_TooMany_init) .none kVTooMany dcTooMany pmTooMany anTooMany cdTooMany ctTooMany), slTooMany⟩) (cITooMany : PySem.W.codeIn K cdTooMany "TooMany.__init__" = true) (kITooMany : PySem.W.keepIn K (.ref fITooMany) = true) :
    LawAtG l w K 13 63 "_law_script" mg fa h := by
  have e := hfa.symm.trans (PySem.W.mg_of X G a81)
  cases e
  have T : Txt K mg := ⟨PySem.W.mg_none_of X G z_ValueError, PySem.W.mg_none_of X G z_len, PySem.W.mg_none_of X G z_isinstance, PySem.W.mg_none_of X G z_max, PySem.W.mg_none_of X G z_sum, PySem.W.mg_none_of X G z_all, PySem.W.mg_none_of X G z_any, PySem.W.mg_none_of X G z_tuple, PySem.W.mg_none_of X G z_abs, PySem.W.mg_none_of X G z_range, PySem.W.mg_none_of X G z_zip, PySem.W.mg_none_of X G z_enumerate, PySem.W.mg_none_of X G z_bool, PySem.W.mg_none_of X G z_int, PySem.W.mg_none_of X G z_repr, PySem.W.mg_none_of X G z_sorted, PySem.W.mg_none_of X G z_divmod, PySem.W.mg_none_of X G z_set, PySem.W.mg_none_of X G z_str, ⟨_, PySem.W.mg_of X G v_LAST_MOMENT⟩, ⟨_, PySem.W.mg_of X G v_MOST_DRAWING⟩, ⟨_, PySem.W.mg_of X G v_MOST_HOLD⟩, ⟨_, PySem.W.mg_of X G v_MOST_ROWS⟩, ⟨_, PySem.W.mg_of X G v_MOST_WAY⟩, ⟨_, PySem.W.mg_of X G v_MOST_MANY⟩, ⟨_, PySem.W.mg_of X G v_MOST_MOVES⟩, ⟨_, PySem.W.mg_of X G v_MOST_LAYERS⟩, ⟨_, PySem.W.mg_of X G v_MOST_PICTURES⟩, ⟨_, PySem.W.mg_of X G v_MOST_FIGURES⟩⟩
  have gX : ∀ i n, clsN[i]? = some n → mg n = some (.ref ((fun i => [C0, C1, C2, C3, C4, C5, C6, C7, C8, C9, C10, C11, C12, C13, C14, C15].getD i 0) i)) := fun i n hn => match i, hn with
    | 0, h => by cases (show some ("NoLayer" : Str) = some n from h); exact PySem.W.mg_of X G x0
    | 1, h => by cases (show some ("NoWindow" : Str) = some n from h); exact PySem.W.mg_of X G x1
    | 2, h => by cases (show some ("NoSheet" : Str) = some n from h); exact PySem.W.mg_of X G x2
    | 3, h => by cases (show some ("NoMoment" : Str) = some n from h); exact PySem.W.mg_of X G x3
    | 4, h => by cases (show some ("NoRow" : Str) = some n from h); exact PySem.W.mg_of X G x4
    | 5, h => by cases (show some ("NoNumber" : Str) = some n from h); exact PySem.W.mg_of X G x5
    | 6, h => by cases (show some ("NoDrawings" : Str) = some n from h); exact PySem.W.mg_of X G x6
    | 7, h => by cases (show some ("Unlike" : Str) = some n from h); exact PySem.W.mg_of X G x7
    | 8, h => by cases (show some ("Endless" : Str) = some n from h); exact PySem.W.mg_of X G x8
    | 9, h => by cases (show some ("Squeezed" : Str) = some n from h); exact PySem.W.mg_of X G x9
    | 10, h => by cases (show some ("NoPaper" : Str) = some n from h); exact PySem.W.mg_of X G x10
    | 11, h => by cases (show some ("NoDeed" : Str) = some n from h); exact PySem.W.mg_of X G x11
    | 12, h => by cases (show some ("NoText" : Str) = some n from h); exact PySem.W.mg_of X G x12
    | 13, h => by cases (show some ("NoWords" : Str) = some n from h); exact PySem.W.mg_of X G x13
    | 14, h => by cases (show some ("TooMany" : Str) = some n from h); exact PySem.W.mg_of X G x14
    | 15, h => by cases (show some ("Leaned" : Str) = some n from h); exact PySem.W.mg_of X G x15
    | k + 16, h => by simp [clsN] at h
  have TX : ExcN K mg (fun i => [C0, C1, C2, C3, C4, C5, C6, C7, C8, C9, C10, C11, C12, C13, C14, C15].getD i 0) LE := ⟨excT_of xb, gX, PySem.W.mg_of X G xL, nm1, nm2, nm3⟩
  refine ⟨(PySem.W.fnOf "law" "law" (defArgs s_law) (defBody s_law) (defScope s_law) .none kV81 dc81 pm81 an81 cd81 ct81), [(cc80, PP80)], sp_law K [(PP80, qLam "_law_round")], ?_, ?_, ?_, fun s v => .of_eq rfl, fun H a ns hl hT hS => ⟨a, ns, rfl, hS, hl, ?_, fun _ => rfl⟩, fun base kb gb tb => ?_⟩
  · intro p hp
    simp only [List.mem_cons, List.not_mem_nil, or_false] at hp
    rcases hp with rfl
    · exact te80
  · intro p hp
    simp only [List.mem_cons, List.not_mem_nil, or_false] at hp
    rcases hp with rfl
    · exact tn80
  · intro p hp
    simp only [List.mem_cons, List.not_mem_nil, or_false] at hp
    rcases hp with rfl
    · exact th80
  · intro p hp
    simp only [List.mem_cons, List.not_mem_nil, or_false] at hp
    rcases hp with rfl
    · exact LamX.TabS.nil (hT (cc80, PP80) (by simp))
  have FITooMany := fun_mk (st := s_TooMany_init) lITooMany cITooMany kITooMany
  have bITooMany := FITooMany.binds (ps := ["self", "many", "most"]) fun _ _ _ _ _ _ us hl => match us, hl with | [_, _, _], _ => rfl
  have TITooMany : IniT l.prog w K mg base ((fun i => [C0, C1, C2, C3, C4, C5, C6, C7, C8, C9, C10, C11, C12, C13, C14, C15].getD i 0) 14) 3 (sp_TooMany_init (fun i => [C0, C1, C2, C3, C4, C5, C6, C7, C8, C9, C10, C11, C12, C13, C14, C15].getD i 0) K) := ⟨fITooMany, _, _, ⟨⟨_, _, _, _, _, _, _, _, _, _, _, _, _, _, _, xoTooMany, xrTooMany⟩, saTooMany, (TX.e 14 (by decide)).hs, TX.ty 14 (by decide), TX.kp 14 (by decide)⟩, iITooMany, tITooMany, ok_TooMany_init FITooMany, bITooMany⟩
  have F0 := fun_mk (st := s__law_met) l0 c0 k0
  have b0 := F0.binds (ps := ["_law_call"]) fun _ _ _ _ _ _ us hl => match us, hl with | [_], _ => rfl
  have F1 := fun_mk (st := s__law_classes) l1 c1 k1
  have b1 := F1.binds (ps := ["_law_e"]) fun _ _ _ _ _ _ us hl => match us, hl with | [_], _ => rfl
  have DE : ClE l.prog w K mg base 1 "_law_classes" ["_law_e"] (spCls (fun i => [C0, C1, C2, C3, C4, C5, C6, C7, C8, C9, C10, C11, C12, C13, C14, C15].getD i 0)) := ⟨_, _, ok__law_classes F1 T TX, k1, b1, PySem.W.mg_of X G a1⟩
  have F2 := fun_mk (st := s_is_whole_from) l2 c2 k2
  have b2 := F2.binds (ps := ["thing", "least"]) fun _ _ _ _ _ _ us hl => match us, hl with | [_, _], _ => rfl
  have D_is_whole_from : Cl l.prog w K mg base 1 "is_whole_from" ["thing", "least"] (sp_is_whole_from K) := ⟨_, _, ok_is_whole_from F2 T , k2, b2, PySem.W.mg_of X G a2⟩
  have F3 := fun_mk (st := s_is_whole) l3 c3 k3
  have b3 := F3.binds (ps := ["thing", "least", "most"]) fun _ _ _ _ _ _ us hl => match us, hl with | [_, _, _], _ => rfl
  have D_is_whole : Cl l.prog w K mg base 2 "is_whole" ["thing", "least", "most"] (sp_is_whole K) := ⟨_, _, ok_is_whole F3 T D_is_whole_from, k3, b3, PySem.W.mg_of X G a3⟩
  have F4 := fun_mk (st := s_need_moment) l4 c4 k4
  have b4 := F4.binds (ps := ["thing"]) fun _ _ _ _ _ _ us hl => match us, hl with | [_], _ => rfl
  have D_need_moment : Cl l.prog w K mg base 3 "need_moment" ["thing"] (sp_need_moment K) := ⟨_, _, ok_need_moment F4 T D_is_whole, k4, b4, PySem.W.mg_of X G a4⟩
  have F5 := fun_mk (st := s_need_number) l5 c5 k5
  have b5 := F5.binds (ps := ["thing", "least", "most"]) fun _ _ _ _ _ _ us hl => match us, hl with | [_, _, _], _ => rfl
  have D_need_number : Cl l.prog w K mg base 3 "need_number" ["thing", "least", "most"] (sp_need_number K) := ⟨_, _, ok_need_number F5 T D_is_whole, k5, b5, PySem.W.mg_of X G a5⟩
  have F6 := fun_mk (st := s_need_at_most) l6 c6 k6
  have b6 := F6.binds (ps := ["many", "most"]) fun _ _ _ _ _ _ us hl => match us, hl with | [_, _], _ => rfl
  have D_need_at_most : ClX l.prog w K mg base 3 "need_at_most" ["many", "most"] (sp_need_at_most K (fun i => [C0, C1, C2, C3, C4, C5, C6, C7, C8, C9, C10, C11, C12, C13, C14, C15].getD i 0)) := ⟨_, _, ok_need_at_most F6 T TX TITooMany , k6, b6, PySem.W.mg_of X G a6⟩
  have F7 := fun_mk (st := s_is_tuple) l7 c7 k7
  have b7 := F7.binds (ps := ["thing", "least", "most"]) fun _ _ _ _ _ _ us hl => match us, hl with | [_, _, _], _ => rfl
  have D_is_tuple : Cl l.prog w K mg base 1 "is_tuple" ["thing", "least", "most"] (sp_is_tuple K) := ⟨_, _, ok_is_tuple F7 T , k7, b7, PySem.W.mg_of X G a7⟩
  have F8 := fun_mk (st := s_is_drawing) l8 c8 k8
  have b8 := F8.binds (ps := ["thing"]) fun _ _ _ _ _ _ us hl => match us, hl with | [_], _ => rfl
  have D_is_drawing : Cl l.prog w K mg base 3 "is_drawing" ["thing"] (sp_is_drawing K) := ⟨_, _, ok_is_drawing F8 T D_is_whole, k8, b8, PySem.W.mg_of X G a8⟩
  have F9 := fun_mk (st := s_is_hold) l9 c9 k9
  have b9 := F9.binds (ps := ["thing"]) fun _ _ _ _ _ _ us hl => match us, hl with | [_], _ => rfl
  have D_is_hold : Cl l.prog w K mg base 3 "is_hold" ["thing"] (sp_is_hold K) := ⟨_, _, ok_is_hold F9 T D_is_whole, k9, b9, PySem.W.mg_of X G a9⟩
  have F10 := fun_mk (st := s_is_row) l10 c10 k10
  have b10 := F10.binds (ps := ["thing"]) fun _ _ _ _ _ _ us hl => match us, hl with | [_], _ => rfl
  have D_is_row : Cl l.prog w K mg base 4 "is_row" ["thing"] (sp_is_row K) := ⟨_, _, ok_is_row F10 T D_is_tuple D_is_drawing D_is_hold, k10, b10, PySem.W.mg_of X G a10⟩
  have F11 := fun_mk (st := s_is_layer) l11 c11 k11
  have b11 := F11.binds (ps := ["thing"]) fun _ _ _ _ _ _ us hl => match us, hl with | [_], _ => rfl
  have D_is_layer : Cl l.prog w K mg base 5 "is_layer" ["thing"] (sp_is_layer K) := ⟨_, _, ok_is_layer F11 T D_is_tuple D_is_row D_is_whole, k11, b11, PySem.W.mg_of X G a11⟩
  have F12 := fun_mk (st := s_is_way) l12 c12 k12
  have b12 := F12.binds (ps := ["thing"]) fun _ _ _ _ _ _ us hl => match us, hl with | [_], _ => rfl
  have D_is_way : Cl l.prog w K mg base 3 "is_way" ["thing"] (sp_is_way K) := ⟨_, _, ok_is_way F12 T D_is_whole, k12, b12, PySem.W.mg_of X G a12⟩
  have F13 := fun_mk (st := s_is_many) l13 c13 k13
  have b13 := F13.binds (ps := ["thing"]) fun _ _ _ _ _ _ us hl => match us, hl with | [_], _ => rfl
  have D_is_many : Cl l.prog w K mg base 3 "is_many" ["thing"] (sp_is_many K) := ⟨_, _, ok_is_many F13 T D_is_whole, k13, b13, PySem.W.mg_of X G a13⟩
  have F14 := fun_mk (st := s_is_move) l14 c14 k14
  have b14 := F14.binds (ps := ["thing"]) fun _ _ _ _ _ _ us hl => match us, hl with | [_], _ => rfl
  have D_is_move : Cl l.prog w K mg base 4 "is_move" ["thing"] (sp_is_move K) := ⟨_, _, ok_is_move F14 T D_is_tuple D_is_way D_is_many, k14, b14, PySem.W.mg_of X G a14⟩
  have F15 := fun_mk (st := s_is_window) l15 c15 k15
  have b15 := F15.binds (ps := ["thing"]) fun _ _ _ _ _ _ us hl => match us, hl with | [_], _ => rfl
  have D_is_window : Cl l.prog w K mg base 5 "is_window" ["thing"] (sp_is_window K) := ⟨_, _, ok_is_window F15 T D_is_tuple D_is_way D_is_move, k15, b15, PySem.W.mg_of X G a15⟩
  have F16 := fun_mk (st := s_is_sheet) l16 c16 k16
  have b16 := F16.binds (ps := ["thing"]) fun _ _ _ _ _ _ us hl => match us, hl with | [_], _ => rfl
  have D_is_sheet : Cl l.prog w K mg base 6 "is_sheet" ["thing"] (sp_is_sheet K) := ⟨_, _, ok_is_sheet F16 T D_is_tuple D_is_window D_is_layer, k16, b16, PySem.W.mg_of X G a16⟩
  have F17 := fun_mk (st := s_need_layer) l17 c17 k17
  have b17 := F17.binds (ps := ["thing"]) fun _ _ _ _ _ _ us hl => match us, hl with | [_], _ => rfl
  have D_need_layer : Cl l.prog w K mg base 6 "need_layer" ["thing"] (sp_need_layer K) := ⟨_, _, ok_need_layer F17 T D_is_layer, k17, b17, PySem.W.mg_of X G a17⟩
  have F18 := fun_mk (st := s_need_sheet) l18 c18 k18
  have b18 := F18.binds (ps := ["thing"]) fun _ _ _ _ _ _ us hl => match us, hl with | [_], _ => rfl
  have D_need_sheet : Cl l.prog w K mg base 7 "need_sheet" ["thing"] (sp_need_sheet K) := ⟨_, _, ok_need_sheet F18 T D_is_sheet, k18, b18, PySem.W.mg_of X G a18⟩
  have F19 := fun_mk (st := s_need_as_many_layers) l19 c19 k19
  have b19 := F19.binds (ps := ["one", "other"]) fun _ _ _ _ _ _ us hl => match us, hl with | [_, _], _ => rfl
  have D_need_as_many_layers : ClX l.prog w K mg base 1 "need_as_many_layers" ["one", "other"] (sp_need_as_many_layers K (fun i => [C0, C1, C2, C3, C4, C5, C6, C7, C8, C9, C10, C11, C12, C13, C14, C15].getD i 0)) := ⟨_, _, ok_need_as_many_layers F19 T TX  , k19, b19, PySem.W.mg_of X G a19⟩
  have F20 := fun_mk (st := s_need_length) l20 c20 k20
  have b20 := F20.binds (ps := ["length"]) fun _ _ _ _ _ _ us hl => match us, hl with | [_], _ => rfl
  have D_need_length : ClX l.prog w K mg base 1 "need_length" ["length"] (sp_need_length K (fun i => [C0, C1, C2, C3, C4, C5, C6, C7, C8, C9, C10, C11, C12, C13, C14, C15].getD i 0)) := ⟨_, _, ok_need_length F20 T TX  , k20, b20, PySem.W.mg_of X G a20⟩
  have F21 := fun_mk (st := s_held) l21 c21 k21
  have b21 := F21.binds (ps := ["rows"]) fun _ _ _ _ _ _ us hl => match us, hl with | [_], _ => rfl
  have D_held : Cl l.prog w K mg base 1 "held" ["rows"] (sp_held K) := ⟨_, _, ok_held F21 T , k21, b21, PySem.W.mg_of X G a21⟩
  have F22 := fun_mk (st := s_length_of) l22 c22 k22
  have b22 := F22.binds (ps := ["layer"]) fun _ _ _ _ _ _ us hl => match us, hl with | [_], _ => rfl
  have D_length_of : Cl l.prog w K mg base 2 "length_of" ["layer"] (sp_length_of K) := ⟨_, _, ok_length_of F22 T D_held, k22, b22, PySem.W.mg_of X G a22⟩
  have F23 := fun_mk (st := s_moved) l23 c23 k23
  have b23 := F23.binds (ps := ["window"]) fun _ _ _ _ _ _ us hl => match us, hl with | [_], _ => rfl
  have D_moved : Cl l.prog w K mg base 1 "moved" ["window"] (sp_moved K) := ⟨_, _, ok_moved F23 T , k23, b23, PySem.W.mg_of X G a23⟩
  have F24 := fun_mk (st := s_full_length) l24 c24 k24
  have b24 := F24.binds (ps := ["sheet"]) fun _ _ _ _ _ _ us hl => match us, hl with | [_], _ => rfl
  have D_full_length : Cl l.prog w K mg base 3 "full_length" ["sheet"] (sp_full_length K) := ⟨_, _, ok_full_length F24 T D_length_of D_moved, k24, b24, PySem.W.mg_of X G a24⟩
  have F25 := fun_mk (st := s_first_time) l25 c25 k25
  have b25 := F25.binds (ps := ["rows", "back", "moment"]) fun _ _ _ _ _ _ us hl => match us, hl with | [_, _, _], _ => rfl
  have D_first_time : Cl l.prog w K mg base 2 "first_time" ["rows", "back", "moment"] (sp_first_time K) := ⟨_, _, ok_first_time F25 T D_held, k25, b25, PySem.W.mg_of X G a25⟩
  have F26 := fun_mk (st := s_drawing_of) l26 c26 k26
  have b26 := F26.binds (ps := ["layer", "moment"]) fun _ _ _ _ _ _ us hl => match us, hl with | [_, _], _ => rfl
  have D_drawing_of : Cl l.prog w K mg base 3 "drawing_of" ["layer", "moment"] (sp_drawing_of K) := ⟨_, _, ok_drawing_of F26 T D_first_time, k26, b26, PySem.W.mg_of X G a26⟩
  have F27 := fun_mk (st := s_common_divisor) l27 c27 k27
  have b27 := F27.binds (ps := ["one", "other"]) fun _ _ _ _ _ _ us hl => match us, hl with | [_, _], _ => rfl
  have D_common_divisor : Cl l.prog w K mg base 1 "common_divisor" ["one", "other"] (sp_common_divisor K) := ⟨_, _, ok_common_divisor F27 T , k27, b27, PySem.W.mg_of X G a27⟩
  have F28 := fun_mk (st := s_lowest) l28 c28 k28
  have b28 := F28.binds (ps := ["top", "bottom"]) fun _ _ _ _ _ _ us hl => match us, hl with | [_, _], _ => rfl
  have D_lowest : Cl l.prog w K mg base 2 "lowest" ["top", "bottom"] (sp_lowest K) := ⟨_, _, ok_lowest F28 T D_common_divisor, k28, b28, PySem.W.mg_of X G a28⟩
  have F29 := fun_mk (st := s_on_the_way) l29 c29 k29
  have b29 := F29.binds (ps := ["start", "goal", "step", "many"]) fun _ _ _ _ _ _ us hl => match us, hl with | [_, _, _, _], _ => rfl
  have D_on_the_way : Cl l.prog w K mg base 3 "on_the_way" ["start", "goal", "step", "many"] (sp_on_the_way K) := ⟨_, _, ok_on_the_way F29 T D_lowest, k29, b29, PySem.W.mg_of X G a29⟩
  have F30 := fun_mk (st := s_place_of) l30 c30 k30
  have b30 := F30.binds (ps := ["window", "moment"]) fun _ _ _ _ _ _ us hl => match us, hl with | [_, _], _ => rfl
  have D_place_of : Cl l.prog w K mg base 4 "place_of" ["window", "moment"] (sp_place_of K) := ⟨_, _, ok_place_of F30 T D_on_the_way, k30, b30, PySem.W.mg_of X G a30⟩
  have F31 := fun_mk (st := s_picture_of) l31 c31 k31
  have b31 := F31.binds (ps := ["sheet", "moment"]) fun _ _ _ _ _ _ us hl => match us, hl with | [_, _], _ => rfl
  have D_picture_of : Cl l.prog w K mg base 5 "picture_of" ["sheet", "moment"] (sp_picture_of K) := ⟨_, _, ok_picture_of F31 T D_drawing_of D_place_of, k31, b31, PySem.W.mg_of X G a31⟩
  have F32 := fun_mk (st := s_pictures_of) l32 c32 k32
  have b32 := F32.binds (ps := ["sheet", "moment", "many"]) fun _ _ _ _ _ _ us hl => match us, hl with | [_, _, _], _ => rfl
  have D_pictures_of : Cl l.prog w K mg base 6 "pictures_of" ["sheet", "moment", "many"] (sp_pictures_of K) := ⟨_, _, ok_pictures_of F32 T D_picture_of, k32, b32, PySem.W.mg_of X G a32⟩
  have F33 := fun_mk (st := s_pictures_from) l33 c33 k33
  have b33 := F33.binds (ps := ["sheet", "moment", "many"]) fun _ _ _ _ _ _ us hl => match us, hl with | [_, _, _], _ => rfl
  have D_pictures_from : Cl l.prog w K mg base 8 "pictures_from" ["sheet", "moment", "many"] (sp_pictures_from K) := ⟨_, _, ok_pictures_from F33 T D_need_sheet D_need_moment D_need_number D_pictures_of, k33, b33, PySem.W.mg_of X G a33⟩
  have F34 := fun_mk (st := s_plates) l34 c34 k34
  have b34 := F34.binds (ps := ["sheet", "many"]) fun _ _ _ _ _ _ us hl => match us, hl with | [_, _], _ => rfl
  have D_plates : Cl l.prog w K mg base 9 "plates" ["sheet", "many"] (sp_plates K) := ⟨_, _, ok_plates F34 T D_pictures_from, k34, b34, PySem.W.mg_of X G a34⟩
  have F35 := fun_mk (st := s_need_pair) l35 c35 k35
  have b35 := F35.binds (ps := ["one", "other", "many"]) fun _ _ _ _ _ _ us hl => match us, hl with | [_, _, _], _ => rfl
  have D_need_pair : ClX l.prog w K mg base 8 "need_pair" ["one", "other", "many"] (sp_need_pair K (fun i => [C0, C1, C2, C3, C4, C5, C6, C7, C8, C9, C10, C11, C12, C13, C14, C15].getD i 0)) := ⟨_, _, ok_need_pair F35 T TX  D_need_sheet D_need_number D_need_as_many_layers, k35, b35, PySem.W.mg_of X G a35⟩
  have F36 := fun_mk (st := s_least_paper) l36 c36 k36
  have b36 := F36.binds (ps := ["one", "other", "many"]) fun _ _ _ _ _ _ us hl => match us, hl with | [_, _, _], _ => rfl
  have D_least_paper : ClX l.prog w K mg base 9 "least_paper" ["one", "other", "many"] (sp_least_paper K (fun i => [C0, C1, C2, C3, C4, C5, C6, C7, C8, C9, C10, C11, C12, C13, C14, C15].getD i 0)) := ⟨_, _, ok_least_paper F36 T TX  D_need_pair D_pictures_of, k36, b36, PySem.W.mg_of X G a36⟩
  have F37 := fun_mk (st := s_filling) l37 c37 k37
  have b37 := F37.binds (ps := ["many", "most"]) fun _ _ _ _ _ _ us hl => match us, hl with | [_, _], _ => rfl
  have D_filling : Cl l.prog w K mg base 1 "filling" ["many", "most"] (sp_filling K) := ⟨_, _, ok_filling F37 T , k37, b37, PySem.W.mg_of X G a37⟩
  have F38 := fun_mk (st := s_rows_for) l38 c38 k38
  have b38 := F38.binds (ps := ["rows", "length"]) fun _ _ _ _ _ _ us hl => match us, hl with | [_, _], _ => rfl
  have D_rows_for : Cl l.prog w K mg base 2 "rows_for" ["rows", "length"] (sp_rows_for K) := ⟨_, _, ok_rows_for F38 T D_filling D_held, k38, b38, PySem.W.mg_of X G a38⟩
  have F39 := fun_mk (st := s_layer_behind) l39 c39 k39
  have b39 := F39.binds (ps := ["one", "other", "length"]) fun _ _ _ _ _ _ us hl => match us, hl with | [_, _, _], _ => rfl
  have D_layer_behind : Cl l.prog w K mg base 3 "layer_behind" ["one", "other", "length"] (sp_layer_behind K) := ⟨_, _, ok_layer_behind F39 T D_rows_for, k39, b39, PySem.W.mg_of X G a39⟩
  have F40 := fun_mk (st := s_moves_for) l40 c40 k40
  have b40 := F40.binds (ps := ["window", "length"]) fun _ _ _ _ _ _ us hl => match us, hl with | [_, _], _ => rfl
  have D_moves_for : Cl l.prog w K mg base 2 "moves_for" ["window", "length"] (sp_moves_for K) := ⟨_, _, ok_moves_for F40 T D_filling D_moved, k40, b40, PySem.W.mg_of X G a40⟩
  have F41 := fun_mk (st := s_window_behind) l41 c41 k41
  have b41 := F41.binds (ps := ["one", "other", "length"]) fun _ _ _ _ _ _ us hl => match us, hl with | [_, _, _], _ => rfl
  have D_window_behind : Cl l.prog w K mg base 3 "window_behind" ["one", "other", "length"] (sp_window_behind K) := ⟨_, _, ok_window_behind F41 T D_moves_for, k41, b41, PySem.W.mg_of X G a41⟩
  have F42 := fun_mk (st := s_behind) l42 c42 k42
  have b42 := F42.binds (ps := ["one", "other"]) fun _ _ _ _ _ _ us hl => match us, hl with | [_, _], _ => rfl
  have D_behind : ClX l.prog w K mg base 8 "behind" ["one", "other"] (sp_behind K (fun i => [C0, C1, C2, C3, C4, C5, C6, C7, C8, C9, C10, C11, C12, C13, C14, C15].getD i 0)) := ⟨_, _, ok_behind F42 T TX  D_need_sheet D_need_as_many_layers D_full_length D_need_length D_layer_behind D_window_behind D_need_at_most, k42, b42, PySem.W.mg_of X G a42⟩
  have F43 := fun_mk (st := s_beside) l43 c43 k43
  have b43 := F43.binds (ps := ["one", "other"]) fun _ _ _ _ _ _ us hl => match us, hl with | [_, _], _ => rfl
  have D_beside : ClX l.prog w K mg base 8 "beside" ["one", "other"] (sp_beside K (fun i => [C0, C1, C2, C3, C4, C5, C6, C7, C8, C9, C10, C11, C12, C13, C14, C15].getD i 0)) := ⟨_, _, ok_beside F43 T TX  D_need_sheet D_need_at_most, k43, b43, PySem.W.mg_of X G a43⟩
  have F44 := fun_mk (st := s_writes_number) l44 c44 k44
  have b44 := F44.binds (ps := ["word"]) fun _ _ _ _ _ _ us hl => match us, hl with | [_], _ => rfl
  have D_writes_number : Cl l.prog w K mg base 1 "writes_number" ["word"] (sp_writes_number K) := ⟨_, _, ok_writes_number F44 T , k44, b44, PySem.W.mg_of X G a44⟩
  have F45 := fun_mk (st := s_number_in) l45 c45 k45
  have b45 := F45.binds (ps := ["word"]) fun _ _ _ _ _ _ us hl => match us, hl with | [_], _ => rfl
  have D_number_in : Cl l.prog w K mg base 2 "number_in" ["word"] (sp_number_in K) := ⟨_, _, ok_number_in F45 T D_writes_number, k45, b45, PySem.W.mg_of X G a45⟩
  have F46 := fun_mk (st := s_numbers_in) l46 c46 k46
  have b46 := F46.binds (ps := ["word", "between"]) fun _ _ _ _ _ _ us hl => match us, hl with | [_, _], _ => rfl
  have D_numbers_in : Cl l.prog w K mg base 3 "numbers_in" ["word", "between"] (sp_numbers_in K) := ⟨_, _, ok_numbers_in F46 T D_number_in, k46, b46, PySem.W.mg_of X G a46⟩
  have F47 := fun_mk (st := s_move_text) l47 c47 k47
  have b47 := F47.binds (ps := ["move"]) fun _ _ _ _ _ _ us hl => match us, hl with | [_], _ => rfl
  have D_move_text : Cl l.prog w K mg base 1 "move_text" ["move"] (sp_move_text K) := ⟨_, _, ok_move_text F47 T , k47, b47, PySem.W.mg_of X G a47⟩
  have F48 := fun_mk (st := s_row_text) l48 c48 k48
  have b48 := F48.binds (ps := ["row"]) fun _ _ _ _ _ _ us hl => match us, hl with | [_], _ => rfl
  have D_row_text : Cl l.prog w K mg base 1 "row_text" ["row"] (sp_row_text K) := ⟨_, _, ok_row_text F48 T , k48, b48, PySem.W.mg_of X G a48⟩
  have F49 := fun_mk (st := s_window_text) l49 c49 k49
  have b49 := F49.binds (ps := ["window"]) fun _ _ _ _ _ _ us hl => match us, hl with | [_], _ => rfl
  have D_window_text : Cl l.prog w K mg base 2 "window_text" ["window"] (sp_window_text K) := ⟨_, _, ok_window_text F49 T D_move_text, k49, b49, PySem.W.mg_of X G a49⟩
  have F50 := fun_mk (st := s_layer_text) l50 c50 k50
  have b50 := F50.binds (ps := ["layer"]) fun _ _ _ _ _ _ us hl => match us, hl with | [_], _ => rfl
  have D_layer_text : Cl l.prog w K mg base 2 "layer_text" ["layer"] (sp_layer_text K) := ⟨_, _, ok_layer_text F50 T D_row_text, k50, b50, PySem.W.mg_of X G a50⟩
  have F51 := fun_mk (st := s_text_of) l51 c51 k51
  have b51 := F51.binds (ps := ["sheet"]) fun _ _ _ _ _ _ us hl => match us, hl with | [_], _ => rfl
  have D_text_of : Cl l.prog w K mg base 3 "text_of" ["sheet"] (sp_text_of K) := ⟨_, _, ok_text_of F51 T D_window_text D_layer_text, k51, b51, PySem.W.mg_of X G a51⟩
  have F52 := fun_mk (st := s_sheet_text) l52 c52 k52
  have b52 := F52.binds (ps := ["sheet"]) fun _ _ _ _ _ _ us hl => match us, hl with | [_], _ => rfl
  have D_sheet_text : Cl l.prog w K mg base 8 "sheet_text" ["sheet"] (sp_sheet_text K) := ⟨_, _, ok_sheet_text F52 T D_need_sheet D_text_of, k52, b52, PySem.W.mg_of X G a52⟩
  have F53 := fun_mk (st := s_window_in) l53 c53 k53
  have b53 := F53.binds (ps := ["line"]) fun _ _ _ _ _ _ us hl => match us, hl with | [_], _ => rfl
  have D_window_in : Cl l.prog w K mg base 4 "window_in" ["line"] (sp_window_in K) := ⟨_, _, ok_window_in F53 T D_numbers_in D_number_in, k53, b53, PySem.W.mg_of X G a53⟩
  have F54 := fun_mk (st := s_layer_in) l54 c54 k54
  have b54 := F54.binds (ps := ["line"]) fun _ _ _ _ _ _ us hl => match us, hl with | [_], _ => rfl
  have D_layer_in : Cl l.prog w K mg base 4 "layer_in" ["line"] (sp_layer_in K) := ⟨_, _, ok_layer_in F54 T D_numbers_in D_number_in, k54, b54, PySem.W.mg_of X G a54⟩
  have F55 := fun_mk (st := s_sheet_in) l55 c55 k55
  have b55 := F55.binds (ps := ["text"]) fun _ _ _ _ _ _ us hl => match us, hl with | [_], _ => rfl
  have D_sheet_in : Cl l.prog w K mg base 5 "sheet_in" ["text"] (sp_sheet_in K) := ⟨_, _, ok_sheet_in F55 T D_window_in D_layer_in, k55, b55, PySem.W.mg_of X G a55⟩
  have F56 := fun_mk (st := s_read_sheet) l56 c56 k56
  have b56 := F56.binds (ps := ["text"]) fun _ _ _ _ _ _ us hl => match us, hl with | [_], _ => rfl
  have D_read_sheet : Cl l.prog w K mg base 7 "read_sheet" ["text"] (sp_read_sheet K) := ⟨_, _, ok_read_sheet F56 T D_sheet_in D_is_sheet, k56, b56, PySem.W.mg_of X G a56⟩
  have F57 := fun_mk (st := s_need_time) l57 c57 k57
  have b57 := F57.binds (ps := ["length", "many"]) fun _ _ _ _ _ _ us hl => match us, hl with | [_, _], _ => rfl
  have D_need_time : ClX l.prog w K mg base 4 "need_time" ["length", "many"] (sp_need_time K (fun i => [C0, C1, C2, C3, C4, C5, C6, C7, C8, C9, C10, C11, C12, C13, C14, C15].getD i 0)) := ⟨_, _, ok_need_time F57 T TX  D_need_number D_need_length, k57, b57, PySem.W.mg_of X G a57⟩
  have F58 := fun_mk (st := s_need_fitting) l58 c58 k58
  have b58 := F58.binds (ps := ["layers", "moves"]) fun _ _ _ _ _ _ us hl => match us, hl with | [_, _], _ => rfl
  have D_need_fitting : ClX l.prog w K mg base 4 "need_fitting" ["layers", "moves"] (sp_need_fitting K (fun i => [C0, C1, C2, C3, C4, C5, C6, C7, C8, C9, C10, C11, C12, C13, C14, C15].getD i 0)) := ⟨_, _, ok_need_fitting F58 T TX  D_need_at_most, k58, b58, PySem.W.mg_of X G a58⟩
  have F59 := fun_mk (st := s_even_holds) l59 c59 k59
  have b59 := F59.binds (ps := ["parts", "many"]) fun _ _ _ _ _ _ us hl => match us, hl with | [_, _], _ => rfl
  have D_even_holds : Cl l.prog w K mg base 1 "even_holds" ["parts", "many"] (sp_even_holds K) := ⟨_, _, ok_even_holds F59 T , k59, b59, PySem.W.mg_of X G a59⟩
  have F60 := fun_mk (st := s_scaled) l60 c60 k60
  have b60 := F60.binds (ps := ["numbers", "length", "many"]) fun _ _ _ _ _ _ us hl => match us, hl with | [_, _, _], _ => rfl
  have D_scaled : Cl l.prog w K mg base 1 "scaled" ["numbers", "length", "many"] (sp_scaled K) := ⟨_, _, ok_scaled F60 T , k60, b60, PySem.W.mg_of X G a60⟩
  have F61 := fun_mk (st := s_layer_with) l61 c61 k61
  have b61 := F61.binds (ps := ["layer", "holds"]) fun _ _ _ _ _ _ us hl => match us, hl with | [_, _], _ => rfl
  have D_layer_with : Cl l.prog w K mg base 1 "layer_with" ["layer", "holds"] (sp_layer_with K) := ⟨_, _, ok_layer_with F61 T , k61, b61, PySem.W.mg_of X G a61⟩
  have F62 := fun_mk (st := s_scaled_layer) l62 c62 k62
  have b62 := F62.binds (ps := ["layer", "length", "many"]) fun _ _ _ _ _ _ us hl => match us, hl with | [_, _, _], _ => rfl
  have D_scaled_layer : Cl l.prog w K mg base 2 "scaled_layer" ["layer", "length", "many"] (sp_scaled_layer K) := ⟨_, _, ok_scaled_layer F62 T D_layer_with D_scaled, k62, b62, PySem.W.mg_of X G a62⟩
  have F63 := fun_mk (st := s_scaled_window) l63 c63 k63
  have b63 := F63.binds (ps := ["window", "length", "many"]) fun _ _ _ _ _ _ us hl => match us, hl with | [_, _, _], _ => rfl
  have D_scaled_window : Cl l.prog w K mg base 2 "scaled_window" ["window", "length", "many"] (sp_scaled_window K) := ⟨_, _, ok_scaled_window F63 T D_scaled, k63, b63, PySem.W.mg_of X G a63⟩
  have F64 := fun_mk (st := s_evened) l64 c64 k64
  have b64 := F64.binds (ps := ["layer", "many"]) fun _ _ _ _ _ _ us hl => match us, hl with | [_, _], _ => rfl
  have D_evened : ClX l.prog w K mg base 7 "evened" ["layer", "many"] (sp_evened K (fun i => [C0, C1, C2, C3, C4, C5, C6, C7, C8, C9, C10, C11, C12, C13, C14, C15].getD i 0)) := ⟨_, _, ok_evened F64 T TX  D_need_layer D_need_time D_length_of D_layer_with D_even_holds D_need_fitting, k64, b64, PySem.W.mg_of X G a64⟩
  have F65 := fun_mk (st := s_retimed) l65 c65 k65
  have b65 := F65.binds (ps := ["layer", "many"]) fun _ _ _ _ _ _ us hl => match us, hl with | [_, _], _ => rfl
  have D_retimed : ClX l.prog w K mg base 7 "retimed" ["layer", "many"] (sp_retimed K (fun i => [C0, C1, C2, C3, C4, C5, C6, C7, C8, C9, C10, C11, C12, C13, C14, C15].getD i 0)) := ⟨_, _, ok_retimed F65 T TX  D_need_layer D_length_of D_need_time D_scaled_layer D_need_fitting, k65, b65, PySem.W.mg_of X G a65⟩
  have F66 := fun_mk (st := s_sheet_retimed) l66 c66 k66
  have b66 := F66.binds (ps := ["sheet", "many"]) fun _ _ _ _ _ _ us hl => match us, hl with | [_, _], _ => rfl
  have D_sheet_retimed : ClX l.prog w K mg base 8 "sheet_retimed" ["sheet", "many"] (sp_sheet_retimed K (fun i => [C0, C1, C2, C3, C4, C5, C6, C7, C8, C9, C10, C11, C12, C13, C14, C15].getD i 0)) := ⟨_, _, ok_sheet_retimed F66 T TX  D_need_sheet D_full_length D_need_time D_scaled_layer D_scaled_window D_need_fitting, k66, b66, PySem.W.mg_of X G a66⟩
  have F67 := fun_mk (st := s__law_cell_at) l67 c67 k67
  have b67 := F67.binds (ps := ["_law_script", "_law_k"]) fun _ _ _ _ _ _ us hl => match us, hl with | [_, _], _ => rfl
  have D__law_cell_at : Cl l.prog w K mg base 1 "_law_cell_at" ["_law_script", "_law_k"] (sp__law_cell_at K) := ⟨_, _, ok__law_cell_at F67 T , k67, b67, PySem.W.mg_of X G a67⟩
  have F68 := fun_mk (st := s__law_state) l68 c68 k68
  have b68 := F68.binds (ps := ["_law_script", "_law_k"]) fun _ _ _ _ _ _ us hl => match us, hl with | [_, _], _ => rfl
  have D__law_state : Cl l.prog w K mg base 2 "_law_state" ["_law_script", "_law_k"] (sp__law_state K) := ⟨_, _, ok__law_state F68 T D__law_cell_at, k68, b68, PySem.W.mg_of X G a68⟩
  have F69 := fun_mk (st := s__law_take) l69 c69 k69
  have b69 := F69.binds (ps := ["_law_state_here", "_law_many"]) fun _ _ _ _ _ _ us hl => match us, hl with | [_, _], _ => rfl
  have D__law_take : Cl l.prog w K mg base 1 "_law_take" ["_law_state_here", "_law_many"] (sp__law_take K) := ⟨_, _, ok__law_take F69 T , k69, b69, PySem.W.mg_of X G a69⟩
  have F70 := fun_mk (st := s__law_row) l70 c70 k70
  have b70 := F70.binds (ps := ["_law_state_here"]) fun _ _ _ _ _ _ us hl => match us, hl with | [_], _ => rfl
  have D__law_row : Cl l.prog w K mg base 2 "_law_row" ["_law_state_here"] (sp__law_row K) := ⟨_, _, ok__law_row F70 T D__law_take, k70, b70, PySem.W.mg_of X G a70⟩
  have F71 := fun_mk (st := s__law_layer) l71 c71 k71
  have b71 := F71.binds (ps := ["_law_state_here", "_law_most", "_law_ended"]) fun _ _ _ _ _ _ us hl => match us, hl with | [_, _, _], _ => rfl
  have D__law_layer : Cl l.prog w K mg base 3 "_law_layer" ["_law_state_here", "_law_most", "_law_ended"] (sp__law_layer K) := ⟨_, _, ok__law_layer F71 T D__law_row D__law_take, k71, b71, PySem.W.mg_of X G a71⟩
  have F72 := fun_mk (st := s__law_window) l72 c72 k72
  have b72 := F72.binds (ps := ["_law_state_here", "_law_most"]) fun _ _ _ _ _ _ us hl => match us, hl with | [_, _], _ => rfl
  have D__law_window : Cl l.prog w K mg base 2 "_law_window" ["_law_state_here", "_law_most"] (sp__law_window K) := ⟨_, _, ok__law_window F72 T D__law_take, k72, b72, PySem.W.mg_of X G a72⟩
  have F73 := fun_mk (st := s__law_sheet) l73 c73 k73
  have b73 := F73.binds (ps := ["_law_state_here", "_law_layers", "_law_most", "_law_ended"]) fun _ _ _ _ _ _ us hl => match us, hl with | [_, _, _, _], _ => rfl
  have D__law_sheet : Cl l.prog w K mg base 4 "_law_sheet" ["_law_state_here", "_law_layers", "_law_most", "_law_ended"] (sp__law_sheet K) := ⟨_, _, ok__law_sheet F73 T D__law_window D__law_layer, k73, b73, PySem.W.mg_of X G a73⟩
  have F74 := fun_mk (st := s__law_length) l74 c74 k74
  have b74 := F74.binds (ps := ["_law_rows"]) fun _ _ _ _ _ _ us hl => match us, hl with | [_], _ => rfl
  have D__law_length : Cl l.prog w K mg base 1 "_law_length" ["_law_rows"] (sp__law_length K) := ⟨_, _, ok__law_length F74 T , k74, b74, PySem.W.mg_of X G a74⟩
  have F75 := fun_mk (st := s__law_drawing) l75 c75 k75
  have b75 := F75.binds (ps := ["_law_layer_here", "_law_moment"]) fun _ _ _ _ _ _ us hl => match us, hl with | [_, _], _ => rfl
  have D__law_drawing : Cl l.prog w K mg base 2 "_law_drawing" ["_law_layer_here", "_law_moment"] (sp__law_drawing K) := ⟨_, _, ok__law_drawing F75 T D__law_length, k75, b75, PySem.W.mg_of X G a75⟩
  have F76 := fun_mk (st := s__law_fraction) l76 c76 k76
  have b76 := F76.binds (ps := ["_law_top", "_law_bottom"]) fun _ _ _ _ _ _ us hl => match us, hl with | [_, _], _ => rfl
  have D__law_fraction : Cl l.prog w K mg base 1 "_law_fraction" ["_law_top", "_law_bottom"] (sp__law_fraction K) := ⟨_, _, ok__law_fraction F76 T , k76, b76, PySem.W.mg_of X G a76⟩
  have F77 := fun_mk (st := s__law_stands) l77 c77 k77
  have b77 := F77.binds (ps := ["_law_window_here", "_law_moment"]) fun _ _ _ _ _ _ us hl => match us, hl with | [_, _], _ => rfl
  have D__law_stands : Cl l.prog w K mg base 2 "_law_stands" ["_law_window_here", "_law_moment"] (sp__law_stands K) := ⟨_, _, ok__law_stands F77 T D__law_fraction, k77, b77, PySem.W.mg_of X G a77⟩
  have F78 := fun_mk (st := s__law_picture) l78 c78 k78
  have b78 := F78.binds (ps := ["_law_sheet_here", "_law_moment"]) fun _ _ _ _ _ _ us hl => match us, hl with | [_, _], _ => rfl
  have D__law_picture : Cl l.prog w K mg base 3 "_law_picture" ["_law_sheet_here", "_law_moment"] (sp__law_picture K) := ⟨_, _, ok__law_picture F78 T D__law_drawing D__law_stands, k78, b78, PySem.W.mg_of X G a78⟩
  have F79 := fun_mk (st := s__law_marked) l79 c79 k79
  have b79 := F79.binds (ps := ["_law_told"]) fun _ _ _ _ _ _ us hl => match us, hl with | [_], _ => rfl
  have D__law_marked : Cl l.prog w K mg base 1 "_law_marked" ["_law_told"] (sp__law_marked K) := ⟨_, _, ok__law_marked F79 T , k79, b79, PySem.W.mg_of X G a79⟩
  have F80 := funC_mk (st := s__law_round) l80 c80
  have F80b := fun_mk (st := s__law_round) l80 c80 k80
  have b80 := F80b.binds (ps := ["_law_sheets", "_law_layers", "_law_many"]) fun _ _ _ _ _ _ us hl => match us, hl with | [_, _, _], _ => rfl
  have MR80 : Mkr base mg cc80 PP80 "_law_round" [(PP80, qLam "_law_round")] := ⟨tb (cc80, PP80) (by simp), by simp, fun p hp e => by
    simp only [List.mem_cons, List.not_mem_nil, or_false] at hp
    rcases hp with rfl
    · rfl⟩
  have D__law_round : Cl l.prog w K mg base 12 "_law_round" ["_law_sheets", "_law_layers", "_law_many"] (sp__law_round K [(PP80, qLam "_law_round")]) := ⟨_, _, ok__law_round F80 T TX MR80 F0 (PySem.W.mg_of X G a0) b0 DE D_plates D_read_sheet D_sheet_text D_sheet_retimed D_least_paper D_behind D_beside D_evened D_retimed, k80, b80, PySem.W.mg_of X G a80⟩
  have F81 := fun_mk (st := s_law) l81 c81 k81
  exact ok_law F81 T D__law_state D__law_take D__law_sheet D__law_layer D_read_sheet D_sheet_text D_plates D__law_picture D__law_round D__law_marked
theorem hall {w : World} {K : PySem.W.Frag} {h : Heap} {mg : Str → Option Value} {fa : Addr} (X : K.In h) (G : h.Ns mainGlobals mg) (hfa : mg "law" = some (.ref fa)) (c : He.SaysX [] hfn hts htf hex w h K) : LawAtG PySem.Challenge.rw_lanternrows_k59_asked_by_turns w K 13 63 "_law_script" mg fa h := by
  have z : ∀ (i : Nat) {b : Bool}, (hzs K)[i]? = some b → b = true := fun i b e => List.all_eq_true.mp c.more b (List.mem_of_getElem? e)
  obtain ⟨oc0, od0, sl0, kV0, dc0, pm0, an0, cd0, ct0, l0, c0, k0⟩ := fnl c.t.d 0 (by rfl)
  obtain ⟨oc1, od1, sl1, kV1, dc1, pm1, an1, cd1, ct1, l1, c1, k1⟩ := fnl c.t.d 1 (by rfl)
  obtain ⟨oc2, od2, sl2, kV2, dc2, pm2, an2, cd2, ct2, l2, c2, k2⟩ := fnl c.t.d 2 (by rfl)
  obtain ⟨oc3, od3, sl3, kV3, dc3, pm3, an3, cd3, ct3, l3, c3, k3⟩ := fnl c.t.d 3 (by rfl)
  obtain ⟨oc4, od4, sl4, kV4, dc4, pm4, an4, cd4, ct4, l4, c4, k4⟩ := fnl c.t.d 4 (by rfl)
  obtain ⟨oc5, od5, sl5, kV5, dc5, pm5, an5, cd5, ct5, l5, c5, k5⟩ := fnl c.t.d 5 (by rfl)
  obtain ⟨oc6, od6, sl6, kV6, dc6, pm6, an6, cd6, ct6, l6, c6, k6⟩ := fnl c.t.d 6 (by rfl)
  obtain ⟨oc7, od7, sl7, kV7, dc7, pm7, an7, cd7, ct7, l7, c7, k7⟩ := fnl c.t.d 7 (by rfl)
  obtain ⟨oc8, od8, sl8, kV8, dc8, pm8, an8, cd8, ct8, l8, c8, k8⟩ := fnl c.t.d 8 (by rfl)
  obtain ⟨oc9, od9, sl9, kV9, dc9, pm9, an9, cd9, ct9, l9, c9, k9⟩ := fnl c.t.d 9 (by rfl)
  obtain ⟨oc10, od10, sl10, kV10, dc10, pm10, an10, cd10, ct10, l10, c10, k10⟩ := fnl c.t.d 10 (by rfl)
  obtain ⟨oc11, od11, sl11, kV11, dc11, pm11, an11, cd11, ct11, l11, c11, k11⟩ := fnl c.t.d 11 (by rfl)
  obtain ⟨oc12, od12, sl12, kV12, dc12, pm12, an12, cd12, ct12, l12, c12, k12⟩ := fnl c.t.d 12 (by rfl)
  obtain ⟨oc13, od13, sl13, kV13, dc13, pm13, an13, cd13, ct13, l13, c13, k13⟩ := fnl c.t.d 13 (by rfl)
  obtain ⟨oc14, od14, sl14, kV14, dc14, pm14, an14, cd14, ct14, l14, c14, k14⟩ := fnl c.t.d 14 (by rfl)
  obtain ⟨oc15, od15, sl15, kV15, dc15, pm15, an15, cd15, ct15, l15, c15, k15⟩ := fnl c.t.d 15 (by rfl)
  obtain ⟨oc16, od16, sl16, kV16, dc16, pm16, an16, cd16, ct16, l16, c16, k16⟩ := fnl c.t.d 16 (by rfl)
  obtain ⟨oc17, od17, sl17, kV17, dc17, pm17, an17, cd17, ct17, l17, c17, k17⟩ := fnl c.t.d 17 (by rfl)
  obtain ⟨oc18, od18, sl18, kV18, dc18, pm18, an18, cd18, ct18, l18, c18, k18⟩ := fnl c.t.d 18 (by rfl)
  obtain ⟨oc19, od19, sl19, kV19, dc19, pm19, an19, cd19, ct19, l19, c19, k19⟩ := fnl c.t.d 19 (by rfl)
  obtain ⟨oc20, od20, sl20, kV20, dc20, pm20, an20, cd20, ct20, l20, c20, k20⟩ := fnl c.t.d 20 (by rfl)
  obtain ⟨oc21, od21, sl21, kV21, dc21, pm21, an21, cd21, ct21, l21, c21, k21⟩ := fnl c.t.d 21 (by rfl)
  obtain ⟨oc22, od22, sl22, kV22, dc22, pm22, an22, cd22, ct22, l22, c22, k22⟩ := fnl c.t.d 22 (by rfl)
  obtain ⟨oc23, od23, sl23, kV23, dc23, pm23, an23, cd23, ct23, l23, c23, k23⟩ := fnl c.t.d 23 (by rfl)
  obtain ⟨oc24, od24, sl24, kV24, dc24, pm24, an24, cd24, ct24, l24, c24, k24⟩ := fnl c.t.d 24 (by rfl)
  obtain ⟨oc25, od25, sl25, kV25, dc25, pm25, an25, cd25, ct25, l25, c25, k25⟩ := fnl c.t.d 25 (by rfl)
  obtain ⟨oc26, od26, sl26, kV26, dc26, pm26, an26, cd26, ct26, l26, c26, k26⟩ := fnl c.t.d 26 (by rfl)
  obtain ⟨oc27, od27, sl27, kV27, dc27, pm27, an27, cd27, ct27, l27, c27, k27⟩ := fnl c.t.d 27 (by rfl)
  obtain ⟨oc28, od28, sl28, kV28, dc28, pm28, an28, cd28, ct28, l28, c28, k28⟩ := fnl c.t.d 28 (by rfl)
  obtain ⟨oc29, od29, sl29, kV29, dc29, pm29, an29, cd29, ct29, l29, c29, k29⟩ := fnl c.t.d 29 (by rfl)
  obtain ⟨oc30, od30, sl30, kV30, dc30, pm30, an30, cd30, ct30, l30, c30, k30⟩ := fnl c.t.d 30 (by rfl)
  obtain ⟨oc31, od31, sl31, kV31, dc31, pm31, an31, cd31, ct31, l31, c31, k31⟩ := fnl c.t.d 31 (by rfl)
  obtain ⟨oc32, od32, sl32, kV32, dc32, pm32, an32, cd32, ct32, l32, c32, k32⟩ := fnl c.t.d 32 (by rfl)
  obtain ⟨oc33, od33, sl33, kV33, dc33, pm33, an33, cd33, ct33, l33, c33, k33⟩ := fnl c.t.d 33 (by rfl)
  obtain ⟨oc34, od34, sl34, kV34, dc34, pm34, an34, cd34, ct34, l34, c34, k34⟩ := fnl c.t.d 34 (by rfl)
  obtain ⟨oc35, od35, sl35, kV35, dc35, pm35, an35, cd35, ct35, l35, c35, k35⟩ := fnl c.t.d 35 (by rfl)
  obtain ⟨oc36, od36, sl36, kV36, dc36, pm36, an36, cd36, ct36, l36, c36, k36⟩ := fnl c.t.d 36 (by rfl)
  obtain ⟨oc37, od37, sl37, kV37, dc37, pm37, an37, cd37, ct37, l37, c37, k37⟩ := fnl c.t.d 37 (by rfl)
  obtain ⟨oc38, od38, sl38, kV38, dc38, pm38, an38, cd38, ct38, l38, c38, k38⟩ := fnl c.t.d 38 (by rfl)
  obtain ⟨oc39, od39, sl39, kV39, dc39, pm39, an39, cd39, ct39, l39, c39, k39⟩ := fnl c.t.d 39 (by rfl)
  obtain ⟨oc40, od40, sl40, kV40, dc40, pm40, an40, cd40, ct40, l40, c40, k40⟩ := fnl c.t.d 40 (by rfl)
  obtain ⟨oc41, od41, sl41, kV41, dc41, pm41, an41, cd41, ct41, l41, c41, k41⟩ := fnl c.t.d 41 (by rfl)
  obtain ⟨oc42, od42, sl42, kV42, dc42, pm42, an42, cd42, ct42, l42, c42, k42⟩ := fnl c.t.d 42 (by rfl)
  obtain ⟨oc43, od43, sl43, kV43, dc43, pm43, an43, cd43, ct43, l43, c43, k43⟩ := fnl c.t.d 43 (by rfl)
  obtain ⟨oc44, od44, sl44, kV44, dc44, pm44, an44, cd44, ct44, l44, c44, k44⟩ := fnl c.t.d 44 (by rfl)
  obtain ⟨oc45, od45, sl45, kV45, dc45, pm45, an45, cd45, ct45, l45, c45, k45⟩ := fnl c.t.d 45 (by rfl)
  obtain ⟨oc46, od46, sl46, kV46, dc46, pm46, an46, cd46, ct46, l46, c46, k46⟩ := fnl c.t.d 46 (by rfl)
  obtain ⟨oc47, od47, sl47, kV47, dc47, pm47, an47, cd47, ct47, l47, c47, k47⟩ := fnl c.t.d 47 (by rfl)
  obtain ⟨oc48, od48, sl48, kV48, dc48, pm48, an48, cd48, ct48, l48, c48, k48⟩ := fnl c.t.d 48 (by rfl)
  obtain ⟨oc49, od49, sl49, kV49, dc49, pm49, an49, cd49, ct49, l49, c49, k49⟩ := fnl c.t.d 49 (by rfl)
  obtain ⟨oc50, od50, sl50, kV50, dc50, pm50, an50, cd50, ct50, l50, c50, k50⟩ := fnl c.t.d 50 (by rfl)
  obtain ⟨oc51, od51, sl51, kV51, dc51, pm51, an51, cd51, ct51, l51, c51, k51⟩ := fnl c.t.d 51 (by rfl)
  obtain ⟨oc52, od52, sl52, kV52, dc52, pm52, an52, cd52, ct52, l52, c52, k52⟩ := fnl c.t.d 52 (by rfl)
  obtain ⟨oc53, od53, sl53, kV53, dc53, pm53, an53, cd53, ct53, l53, c53, k53⟩ := fnl c.t.d 53 (by rfl)
  obtain ⟨oc54, od54, sl54, kV54, dc54, pm54, an54, cd54, ct54, l54, c54, k54⟩ := fnl c.t.d 54 (by rfl)
  obtain ⟨oc55, od55, sl55, kV55, dc55, pm55, an55, cd55, ct55, l55, c55, k55⟩ := fnl c.t.d 55 (by rfl)
  obtain ⟨oc56, od56, sl56, kV56, dc56, pm56, an56, cd56, ct56, l56, c56, k56⟩ := fnl c.t.d 56 (by rfl)
  obtain ⟨oc57, od57, sl57, kV57, dc57, pm57, an57, cd57, ct57, l57, c57, k57⟩ := fnl c.t.d 57 (by rfl)
  obtain ⟨oc58, od58, sl58, kV58, dc58, pm58, an58, cd58, ct58, l58, c58, k58⟩ := fnl c.t.d 58 (by rfl)
  obtain ⟨oc59, od59, sl59, kV59, dc59, pm59, an59, cd59, ct59, l59, c59, k59⟩ := fnl c.t.d 59 (by rfl)
  obtain ⟨oc60, od60, sl60, kV60, dc60, pm60, an60, cd60, ct60, l60, c60, k60⟩ := fnl c.t.d 60 (by rfl)
  obtain ⟨oc61, od61, sl61, kV61, dc61, pm61, an61, cd61, ct61, l61, c61, k61⟩ := fnl c.t.d 61 (by rfl)
  obtain ⟨oc62, od62, sl62, kV62, dc62, pm62, an62, cd62, ct62, l62, c62, k62⟩ := fnl c.t.d 62 (by rfl)
  obtain ⟨oc63, od63, sl63, kV63, dc63, pm63, an63, cd63, ct63, l63, c63, k63⟩ := fnl c.t.d 63 (by rfl)
  obtain ⟨oc64, od64, sl64, kV64, dc64, pm64, an64, cd64, ct64, l64, c64, k64⟩ := fnl c.t.d 64 (by rfl)
  obtain ⟨oc65, od65, sl65, kV65, dc65, pm65, an65, cd65, ct65, l65, c65, k65⟩ := fnl c.t.d 65 (by rfl)
  obtain ⟨oc66, od66, sl66, kV66, dc66, pm66, an66, cd66, ct66, l66, c66, k66⟩ := fnl c.t.d 66 (by rfl)
  obtain ⟨oc67, od67, sl67, kV67, dc67, pm67, an67, cd67, ct67, l67, c67, k67⟩ := fnl c.t.d 67 (by rfl)
  obtain ⟨oc68, od68, sl68, kV68, dc68, pm68, an68, cd68, ct68, l68, c68, k68⟩ := fnl c.t.d 68 (by rfl)
  obtain ⟨oc69, od69, sl69, kV69, dc69, pm69, an69, cd69, ct69, l69, c69, k69⟩ := fnl c.t.d 69 (by rfl)
  obtain ⟨oc70, od70, sl70, kV70, dc70, pm70, an70, cd70, ct70, l70, c70, k70⟩ := fnl c.t.d 70 (by rfl)
  obtain ⟨oc71, od71, sl71, kV71, dc71, pm71, an71, cd71, ct71, l71, c71, k71⟩ := fnl c.t.d 71 (by rfl)
  obtain ⟨oc72, od72, sl72, kV72, dc72, pm72, an72, cd72, ct72, l72, c72, k72⟩ := fnl c.t.d 72 (by rfl)
  obtain ⟨oc73, od73, sl73, kV73, dc73, pm73, an73, cd73, ct73, l73, c73, k73⟩ := fnl c.t.d 73 (by rfl)
  obtain ⟨oc74, od74, sl74, kV74, dc74, pm74, an74, cd74, ct74, l74, c74, k74⟩ := fnl c.t.d 74 (by rfl)
  obtain ⟨oc75, od75, sl75, kV75, dc75, pm75, an75, cd75, ct75, l75, c75, k75⟩ := fnl c.t.d 75 (by rfl)
  obtain ⟨oc76, od76, sl76, kV76, dc76, pm76, an76, cd76, ct76, l76, c76, k76⟩ := fnl c.t.d 76 (by rfl)
  obtain ⟨oc77, od77, sl77, kV77, dc77, pm77, an77, cd77, ct77, l77, c77, k77⟩ := fnl c.t.d 77 (by rfl)
  obtain ⟨oc78, od78, sl78, kV78, dc78, pm78, an78, cd78, ct78, l78, c78, k78⟩ := fnl c.t.d 78 (by rfl)
  obtain ⟨oc79, od79, sl79, kV79, dc79, pm79, an79, cd79, ct79, l79, c79, k79⟩ := fnl c.t.d 79 (by rfl)
  obtain ⟨oc80, od80, sl80, kV80, dc80, pm80, an80, ct80, l80, c80, k80⟩ := fnlC c.t.d 80 (by rfl)
  obtain ⟨oc81, od81, sl81, kV81, dc81, pm81, an81, cd81, ct81, l81, c81, k81⟩ := fnl c.t.d 81 (by rfl)
  obtain ⟨ocITooMany, odITooMany, slITooMany, kVITooMany, dcITooMany, pmITooMany, anITooMany, cdITooMany, ctITooMany, lITooMany, cITooMany, kITooMany⟩ := fnl c.t.d 82 (by rfl)
  obtain ⟨nmTooMany, qnTooMany, NTooMany, bsTooMany, bmTooMany, snTooMany, suTooMany, abTooMany, coTooMany, ddTooMany, m0TooMany, m1TooMany, m2TooMany, m3TooMany, m5TooMany, xoTooMany, xrTooMany⟩ := oexB_ok (z 132 rfl)
  exact all_mk X G hfa
    (of_decide_eq_true (z 0 rfl))
    l0
    c0
    k0
    (of_decide_eq_true (z 1 rfl))
    l1
    c1
    k1
    (of_decide_eq_true (z 2 rfl))
    l2
    c2
    k2
    (of_decide_eq_true (z 3 rfl))
    l3
    c3
    k3
    (of_decide_eq_true (z 4 rfl))
    l4
    c4
    k4
    (of_decide_eq_true (z 5 rfl))
    l5
    c5
    k5
    (of_decide_eq_true (z 6 rfl))
    l6
    c6
    k6
    (of_decide_eq_true (z 7 rfl))
    l7
    c7
    k7
    (of_decide_eq_true (z 8 rfl))
    l8
    c8
    k8
    (of_decide_eq_true (z 9 rfl))
    l9
    c9
    k9
    (of_decide_eq_true (z 10 rfl))
    l10
    c10
    k10
    (of_decide_eq_true (z 11 rfl))
    l11
    c11
    k11
    (of_decide_eq_true (z 12 rfl))
    l12
    c12
    k12
    (of_decide_eq_true (z 13 rfl))
    l13
    c13
    k13
    (of_decide_eq_true (z 14 rfl))
    l14
    c14
    k14
    (of_decide_eq_true (z 15 rfl))
    l15
    c15
    k15
    (of_decide_eq_true (z 16 rfl))
    l16
    c16
    k16
    (of_decide_eq_true (z 17 rfl))
    l17
    c17
    k17
    (of_decide_eq_true (z 18 rfl))
    l18
    c18
    k18
    (of_decide_eq_true (z 19 rfl))
    l19
    c19
    k19
    (of_decide_eq_true (z 20 rfl))
    l20
    c20
    k20
    (of_decide_eq_true (z 21 rfl))
    l21
    c21
    k21
    (of_decide_eq_true (z 22 rfl))
    l22
    c22
    k22
    (of_decide_eq_true (z 23 rfl))
    l23
    c23
    k23
    (of_decide_eq_true (z 24 rfl))
    l24
    c24
    k24
    (of_decide_eq_true (z 25 rfl))
    l25
    c25
    k25
    (of_decide_eq_true (z 26 rfl))
    l26
    c26
    k26
    (of_decide_eq_true (z 27 rfl))
    l27
    c27
    k27
    (of_decide_eq_true (z 28 rfl))
    l28
    c28
    k28
    (of_decide_eq_true (z 29 rfl))
    l29
    c29
    k29
    (of_decide_eq_true (z 30 rfl))
    l30
    c30
    k30
    (of_decide_eq_true (z 31 rfl))
    l31
    c31
    k31
    (of_decide_eq_true (z 32 rfl))
    l32
    c32
    k32
    (of_decide_eq_true (z 33 rfl))
    l33
    c33
    k33
    (of_decide_eq_true (z 34 rfl))
    l34
    c34
    k34
    (of_decide_eq_true (z 35 rfl))
    l35
    c35
    k35
    (of_decide_eq_true (z 36 rfl))
    l36
    c36
    k36
    (of_decide_eq_true (z 37 rfl))
    l37
    c37
    k37
    (of_decide_eq_true (z 38 rfl))
    l38
    c38
    k38
    (of_decide_eq_true (z 39 rfl))
    l39
    c39
    k39
    (of_decide_eq_true (z 40 rfl))
    l40
    c40
    k40
    (of_decide_eq_true (z 41 rfl))
    l41
    c41
    k41
    (of_decide_eq_true (z 42 rfl))
    l42
    c42
    k42
    (of_decide_eq_true (z 43 rfl))
    l43
    c43
    k43
    (of_decide_eq_true (z 44 rfl))
    l44
    c44
    k44
    (of_decide_eq_true (z 45 rfl))
    l45
    c45
    k45
    (of_decide_eq_true (z 46 rfl))
    l46
    c46
    k46
    (of_decide_eq_true (z 47 rfl))
    l47
    c47
    k47
    (of_decide_eq_true (z 48 rfl))
    l48
    c48
    k48
    (of_decide_eq_true (z 49 rfl))
    l49
    c49
    k49
    (of_decide_eq_true (z 50 rfl))
    l50
    c50
    k50
    (of_decide_eq_true (z 51 rfl))
    l51
    c51
    k51
    (of_decide_eq_true (z 52 rfl))
    l52
    c52
    k52
    (of_decide_eq_true (z 53 rfl))
    l53
    c53
    k53
    (of_decide_eq_true (z 54 rfl))
    l54
    c54
    k54
    (of_decide_eq_true (z 55 rfl))
    l55
    c55
    k55
    (of_decide_eq_true (z 56 rfl))
    l56
    c56
    k56
    (of_decide_eq_true (z 57 rfl))
    l57
    c57
    k57
    (of_decide_eq_true (z 58 rfl))
    l58
    c58
    k58
    (of_decide_eq_true (z 59 rfl))
    l59
    c59
    k59
    (of_decide_eq_true (z 60 rfl))
    l60
    c60
    k60
    (of_decide_eq_true (z 61 rfl))
    l61
    c61
    k61
    (of_decide_eq_true (z 62 rfl))
    l62
    c62
    k62
    (of_decide_eq_true (z 63 rfl))
    l63
    c63
    k63
    (of_decide_eq_true (z 64 rfl))
    l64
    c64
    k64
    (of_decide_eq_true (z 65 rfl))
    l65
    c65
    k65
    (of_decide_eq_true (z 66 rfl))
    l66
    c66
    k66
    (of_decide_eq_true (z 67 rfl))
    l67
    c67
    k67
    (of_decide_eq_true (z 68 rfl))
    l68
    c68
    k68
    (of_decide_eq_true (z 69 rfl))
    l69
    c69
    k69
    (of_decide_eq_true (z 70 rfl))
    l70
    c70
    k70
    (of_decide_eq_true (z 71 rfl))
    l71
    c71
    k71
    (of_decide_eq_true (z 72 rfl))
    l72
    c72
    k72
    (of_decide_eq_true (z 73 rfl))
    l73
    c73
    k73
    (of_decide_eq_true (z 74 rfl))
    l74
    c74
    k74
    (of_decide_eq_true (z 75 rfl))
    l75
    c75
    k75
    (of_decide_eq_true (z 76 rfl))
    l76
    c76
    k76
    (of_decide_eq_true (z 77 rfl))
    l77
    c77
    k77
    (of_decide_eq_true (z 78 rfl))
    l78
    c78
    k78
    (of_decide_eq_true (z 79 rfl))
    l79
    c79
    k79
    (of_decide_eq_true (z 80 rfl))
    l80
    c80
    k80
    (c.empty ("_law_round", none) (by simp [htf]))
    (PySem.W.codeHd_of_K X (c.hd ("_law_round", none) (by simp [htf])))
    (c.out ("_law_round", none) (by simp [htf]))
    (of_decide_eq_true (z 81 rfl))
    l81
    c81
    k81
    (of_decide_eq_true (z 82 rfl))
    (of_decide_eq_true (z 83 rfl))
    (of_decide_eq_true (z 84 rfl))
    (of_decide_eq_true (z 85 rfl))
    (of_decide_eq_true (z 86 rfl))
    (of_decide_eq_true (z 87 rfl))
    (of_decide_eq_true (z 88 rfl))
    (of_decide_eq_true (z 89 rfl))
    (of_decide_eq_true (z 90 rfl))
    (of_decide_eq_true (z 91 rfl))
    (of_decide_eq_true (z 92 rfl))
    (of_decide_eq_true (z 93 rfl))
    (of_decide_eq_true (z 94 rfl))
    (of_decide_eq_true (z 95 rfl))
    (of_decide_eq_true (z 96 rfl))
    (of_decide_eq_true (z 97 rfl))
    (of_decide_eq_true (z 98 rfl))
    (of_decide_eq_true (z 99 rfl))
    (of_decide_eq_true (z 100 rfl))
    (of_decide_eq_true (z 101 rfl))
    (of_decide_eq_true (z 102 rfl))
    (of_decide_eq_true (z 103 rfl))
    (of_decide_eq_true (z 104 rfl))
    (of_decide_eq_true (z 105 rfl))
    (of_decide_eq_true (z 106 rfl))
    (of_decide_eq_true (z 107 rfl))
    (of_decide_eq_true (z 108 rfl))
    (of_decide_eq_true (z 109 rfl))
    (of_decide_eq_true (z 110 rfl))
    (of_decide_eq_true (z 111 rfl))
    (of_decide_eq_true (z 112 rfl))
    (of_decide_eq_true (z 113 rfl))
    (of_decide_eq_true (z 114 rfl))
    (of_decide_eq_true (z 115 rfl))
    (of_decide_eq_true (z 116 rfl))
    (of_decide_eq_true (z 117 rfl))
    (of_decide_eq_true (z 118 rfl))
    (of_decide_eq_true (z 119 rfl))
    (of_decide_eq_true (z 120 rfl))
    (of_decide_eq_true (z 121 rfl))
    (of_decide_eq_true (z 122 rfl))
    (of_decide_eq_true (z 123 rfl))
    (of_decide_eq_true (z 124 rfl))
    (of_decide_eq_true (z 125 rfl))
    (of_decide_eq_true (z 126 rfl))
    (of_decide_eq_true (z 127 rfl))
    (z 128 rfl)
    (of_decide_eq_true (z 129 rfl))
    (of_decide_eq_true (z 130 rfl))
    (of_decide_eq_true (z 131 rfl))
    xoTooMany
    xrTooMany
    (of_decide_eq_true (z 133 rfl))
    (of_decide_eq_true (z 134 rfl))
    (of_decide_eq_true (z 135 rfl))
    lITooMany
    cITooMany
    kITooMany
end Lan
open PySem PySem.W PySem.Calls PyProof.Rows
set_option maxRecDepth 100000 in
set_option maxHeartbeats 0 in
theorem PySem.Challenge.cw_lanternrows_k59_asked_by_turns_holds : PySem.Challenge.rw_lanternrows_k59_asked_by_turns.Holds := by
  w_on; o_law
  refine HandSHeadRun.head_any (r := Lan.hR) (q := Lan.hqv) (H := Lan.hk) (ob := Lan.hob) (M := 20000) (loose := Lan.hlo) (d := HandSHeadRun.topDef Lan.hR.prog 117) (kwd := []) Lan.hob_eq (by kernel_rfl) (fun s => by kernel_rfl) Lan.hrun (by kernel_rfl) (by kernel_rfl) (by kernel_rfl) (by rfl) (by first | assumption | decide +kernel) (by decide +kernel) ⟨rfl, rfl, rfl, rfl, rfl, by decide +kernel⟩ ?hw ?hc
  case hw => w_witness2
  case hc =>
    refine Lan.walk_ofEG (l := PySem.Challenge.rw_lanternrows_k59_asked_by_turns) (n := 63) (k := 13) (x := "_law_script") rfl (by decide) (by kernel_rfl) ⟨rfl, by decide, by decide⟩ ?F
    intro w mg fa h Y G hmg0
    obtain ⟨K, KX, c⟩ := Y
    have hmg : mg ("law" : PySem.Str) = some (.ref fa) := by
      have e : (HandSHeadRun.topDef Lan.hR.prog 117).name = ("law" : PySem.Str) := by kernel_rfl
      rw [← e]
      exact hmg0
    exact ⟨K, KX, Lan.hall KX G hmg c⟩
