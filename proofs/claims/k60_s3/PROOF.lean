import PyProof.Rows.All
import Wide.All
import OpenK.AllK
import Wide.FinOn
import HandS.ForMost
import HandS.IsInst
import HandS.TupAny
import HandS.TupMul
import HandS.Conv
import HandS.Style
import HandS.Flow
import HandS.Codes
import HandS.Zip
import KE.GoesNew
import HandS.Lambda
import HandS.EndTab
import HandS.ExcInit
import HandS.ExcField
import HandS.ExcIs
import HandS.HeadHook3
import HandS.Head2
import HandS.HeadHook4
import HandS.HeadWalk
import HandS.HotCalls
import HandS.TryOnly
import HandS.WordsExc
import HandS.ExcOwn
import HandS.Small
import HandS.FStr
import KE.KExcIs
import HandS.SetFor
import HandS.Strs
import KE.KDictZip
import HandS.SortKw
import KE.DataMinMax
import HandS.Flt
import HandS.RaiseMore
import HandS.StrMore
import HandS.Walk
import HandS.Deep
import HandS.CallSlots
import HandS.ListItems
import HandS.DictComp
import HandS.Star
import HandS.JoinGen
import PySem.Challenge.RW_lanternrows_k60_whole_a_desk_is_its_roll
set_option Elab.async false
set_option linter.all false
set_option maxRecDepth 100000
set_option maxHeartbeats 4000000
namespace Lan
open PySem PySem.Spec PyProof.Rows L2
/-! ### short rules -/
def bkV : Option Int → V
  | none => .non
  | some i => .int i
structure Cl (P : Program) (w : World) (K : PySem.W.Frag) (mg : Str → Option Value) (base : Heap) (k : Nat) (x : Str) (ps : List Str) (sp : Sp) : Prop where
  ex : ∃ (f : Addr) (fd : FuncData), FnOk P w K mg base CX0 k f fd ps sp ∧ PySem.W.keepIn K (.ref f) = true ∧ Binds K fd ps [] ∧ mg x = some (.ref f)
section
variable {X : Cx}
theorem pe_gint {x : Str} {pos : Pos} {n : Int} (hg : Gl X x) (h : ∃ t, X.mg x = some (.int n t)) (hd : (x == ("__debug__" : Str)) = false := by decide) : PE X (.Name x pos) (tC (.int n)) := by
  obtain ⟨t, h⟩ := h
  exact pe_glob hg h ⟨_, rfl⟩ hd
theorem pe_own {k : Nat} {x : Str} {ps : List Str} {sp : Sp} {e : Expr} {es : List Expr} {t : TA} {p pos : Pos} (C : Cl X.prog X.w X.K X.mg X.base k x ps sp) (hr : Room k X.A) (hg : Gl X x) (ha : PA X (e :: es) t)
    (hdb : (x == ("__debug__" : Str)) = false := by decide) (he : starEach (e :: es) X.env = (false, eval e X.env) :: starEach es X.env := by rfl) (hpl : (backTo pos (starEach es X.env)).any (·.1) = false := by rfl) :
    PE X (.Call (.Name x p) (e :: es) [] pos) (tCall sp [] E0 t) := by
  obtain ⟨f, fd, F, hk, hb, hm⟩ := C.ex
  exact pe_call F hr hg hm hk hb .nil pass0 ha hdb he hpl
def tPartN (t : TE) : TO := fun σ H Q => t σ H fun x H1 => ∃ o : Option Int, x = bkV o ∧ Q o H1
theorem po_opt {e : Expr} {te : TE} (h : PE X e te) : PO X (some e) (tPartN te) := by
  refine ⟨fun pins s σ H Q I hw => ?_⟩
  rw [evalPart_some]
  refine thn (h.run pins s σ H _ I hw) fun u s1 ⟨x, H1, I1, r1, q1⟩ => ?_
  obtain ⟨o, rfl, q⟩ := q1
  cases o with
  | none =>
    cases r1
    exact ⟨none, H1, I1, .none, q⟩
  | some i =>
    obtain ⟨t, rfl⟩ := r1
    exact ⟨some i, H1, I1, .int i t, q⟩
end
/-! ### heaps -/
theorem same_upd {H : Hp} {p : Addr} {o : HO} (h : H p = none) : Same H (upd H p o) := fun b x e => by
  rw [upd_ne (ne_of_none e h)]
  exact e
theorem new_at {H : Hp} {p : Addr} (o : HO) (h : H p = none) : Same H (upd H p o) ∧ (upd H p o) p = some o := ⟨same_upd h, upd_same⟩
theorem Same.sqT {K : PySem.W.Frag} {H H' : Hp} {a : Addr} {xs : List V} (e : Same H H') (h : SqT K H a xs) : SqT K H' a xs := by
  rcases h with (h | ⟨o, h⟩) | h
  · exact .inl (.inl (e _ _ h))
  · exact .inl (.inr ⟨o, e _ _ h⟩)
  · exact .inr h
def IsSt (H : Hp) (st : Addr) : Prop := ∃ a b : Int, H st = some (.lst [.int a, .int b]) ∧ 0 ≤ a ∧ 0 ≤ b ∧ b < 2147483647
/-- all but the state at st stands, and st holds a state as before -/
def Gr (st : Addr) (H H' : Hp) : Prop := (∀ b o, b ≠ st → H b = some o → H' b = some o) ∧ (IsSt H st → IsSt H' st)
theorem Gr.refl {st : Addr} {H : Hp} : Gr st H H := ⟨fun _ _ _ h => h, id⟩
theorem Gr.trans {st : Addr} {H H1 H2 : Hp} (a : Gr st H H1) (b : Gr st H1 H2) : Gr st H H2 := ⟨fun c o n h => b.1 c o n (a.1 c o n h), fun h => b.2 (a.2 h)⟩
theorem gr_same {st : Addr} {H H' : Hp} (s : Same H H') : Gr st H H' := ⟨fun b o _ h => s b o h, fun ⟨a, b, h, r⟩ => ⟨a, b, s _ _ h, r⟩⟩
theorem gr_set {st : Addr} {H : Hp} {a b : Int} (h0 : 0 ≤ a) (h1 : 0 ≤ b) (h2 : b < 2147483647) : Gr st H (upd H st (.lst [.int a, .int b])) :=
  ⟨fun c o n h => by rw [upd_ne n]; exact h, fun _ => ⟨a, b, upd_same, h0, h1, h2⟩⟩
theorem Gr.sqT {st : Addr} {K : PySem.W.Frag} {H H' : Hp} {a : Addr} {xs : List V} (g : Gr st H H') (s : IsSt H st) (h : SqT K H a xs) : SqT K H' a xs := by
  obtain ⟨u, v, hs, _⟩ := s
  rcases h with (h | ⟨o, h⟩) | h
  · exact .inl (.inl (g.1 _ _ (ne_of h hs (by intro z; cases z)) h))
  · exact .inl (.inr ⟨o, g.1 _ _ (ne_of h hs (by intro z; cases z)) h⟩)
  · exact .inr h
/-- behind a state that was not there before -/
theorem Gr.same {st : Addr} {H H1 H2 : Hp} (g : Gr st H1 H2) (s : Same H H1) (n : H st = none) : Same H H2 := fun b o h => g.1 b o (ne_of_none h n) (s b o h)
theorem tyT {K : PySem.W.Frag} {H : Hp} {a : Addr} {xs : List V} (h : SqT K H a xs) : TyX K H (.ref a) (.type "tuple") := by
  rcases h with (h | ⟨o, h⟩) | ⟨o, its, n, h, c, _⟩
  · exact .base (.tup h)
  · exact .fTuple h
  · exact .kTuple h c
theorem yes_ok {σ : L2.St} {H : Hp} {te : TE} {R : VK} {Z : Hp → Prop} (h : te σ H R) : tYes σ H (fun b H3 => if b = true then te σ H3 R else Z H3) := by
  show if true = true then te σ H R else Z H
  rw [if_pos rfl]
  exact h
/-! ### comprehensions that make one value an item and leave the heap -/
theorem lcmap_tup {K : PySem.W.Frag} {a : Addr} {xs : List V} {g : TG} {tt : TT} {te : TE} {vs : List Nat} {σ : L2.St} {H1 : Hp} {D : Addr} {Qd : Hp → Prop} (ys : List V) (hl : ys.length = xs.length) (hz : xs.length ≤ 1000) (hS : SqT K H1 a xs) (hD : H1 D = none)
    (hs : ∀ (i : Nat) (x y : V) (H : Hp) (R : V → Hp → Prop) (Z : Hp → Prop), xs[i]? = some x → ys[i]? = some y → Same H1 H → (∀ H4, Same H H4 → R y H4) → g x (wipe σ vs) H fun σ2 H2 => wipe σ2 vs = wipe σ vs ∧ tt σ2 H2 fun b H3 => if b = true then te σ2 H3 R else Z H3)
    (hd : ∀ H, Same H1 H → H D = some (.lst ys) → Qd H) :
    ∃ W : Nat → Nat → Hp → Prop, (∃ m, W 0 m (upd H1 D (.lst []))) ∧ ∀ i m H, W i m H →
      ((Itt K a).stop i H ∧ Qd H) ∨ ((Itt K a).go i H ∧ ∃ Nx : Hp → Prop, (∀ H', Nx H' → ∃ m', m' < m ∧ W (i + 1) m' H') ∧ ∀ x H', (Itt K a).yld i H x H' → g x (wipe σ vs) H' fun σ2 H2 => wipe σ2 vs = wipe σ vs ∧ tt σ2 H2 fun b H3 =>
        if b = true then te σ2 H3 fun y H4 => ∃ acc, H4 D = some (.lst acc) ∧ acc.length < sizeLine ∧ Nx (upd H4 D (.lst (acc ++ [y]))) else Nx H3) := by
  refine lc_tup (K := K) (a := a) (xs := xs) (fun i H => Same H1 H ∧ H D = some (.lst (ys.take i))) ⟨same_upd hD, upd_same⟩ (fun i H _ p => Same.sqT p.1 hS) (fun i x H hx p => ?_) (fun H p => ?_)
  · have hi : i < xs.length := (List.getElem?_eq_some_iff.mp hx).1
    obtain ⟨y, hy⟩ : ∃ y, ys[i]? = some y := ⟨_, List.getElem?_eq_getElem (by omega)⟩
    refine hs i x y H _ _ hx hy p.1 (fun H4 s4 => ⟨ys.take i, s4 _ _ p.2, ?_, ?_, ?_⟩)
    · rw [List.length_take]
      exact Nat.lt_of_le_of_lt (Nat.min_le_left _ _) (small1000 (by omega))
    · intro b o e
      rw [upd_ne (ne_of_none e hD)]
      exact s4 _ _ (p.1 _ _ e)
    · rw [upd_same, List.take_add_one, hy]
      rfl
  · refine hd H p.1 ?_
    rw [p.2, List.take_of_length_le (by omega)]
/-! ### paired lists -/
theorem Paired.mono {α β : Type} {F G : α → β → Prop} {l₁ : List α} {l₂ : List β} (p : Paired F l₁ l₂) (f : ∀ a b, F a b → G a b) : Paired G l₁ l₂ := Paired.mapP p f
theorem Paired.takeP {α β : Type} {F : α → β → Prop} : ∀ {l₁ : List α} {l₂ : List β} (n : Nat), Paired F l₁ l₂ → Paired F (l₁.take n) (l₂.take n)
  | _, _, 0, _ => .nil
  | _, _, _ + 1, .nil => .nil
  | _, _, n + 1, .cons r t => .cons r (Paired.takeP n t)
theorem Paired.dropP {α β : Type} {F : α → β → Prop} : ∀ {l₁ : List α} {l₂ : List β} (n : Nat), Paired F l₁ l₂ → Paired F (l₁.drop n) (l₂.drop n)
  | _, _, 0, p => p
  | _, _, _ + 1, .nil => .nil
  | _, _, n + 1, .cons _ t => Paired.dropP n t
theorem Paired.at {α β : Type} {F : α → β → Prop} : ∀ {l₁ : List α} {l₂ : List β} {i : Nat} {x : α}, Paired F l₁ l₂ → l₁[i]? = some x → ∃ y, l₂[i]? = some y ∧ F x y
  | _, _, i, x, .nil, h => by simp at h
  | _, _, 0, x, .cons (a := a) r t, h => by
    have e : _ = x := Option.some.inj h
    subst e
    exact ⟨_, rfl, r⟩
  | _, _, i + 1, x, .cons r t, h => Paired.at (i := i) t h
theorem Paired.at2 {α β : Type} {F : α → β → Prop} : ∀ {l₁ : List α} {l₂ : List β} {i : Nat} {y : β}, Paired F l₁ l₂ → l₂[i]? = some y → ∃ x, l₁[i]? = some x ∧ F x y
  | _, _, i, y, .nil, h => by simp at h
  | _, _, 0, y, .cons r t, h => by
    have e : _ = y := Option.some.inj h
    subst e
    exact ⟨_, rfl, r⟩
  | _, _, i + 1, y, .cons r t, h => Paired.at2 (i := i) t h
theorem Paired.snocP {α β : Type} {F : α → β → Prop} : ∀ {l₁ : List α} {l₂ : List β} {x : α} {y : β}, Paired F l₁ l₂ → F x y → Paired F (l₁ ++ [x]) (l₂ ++ [y])
  | _, _, _, _, .nil, h => .cons h .nil
  | _, _, _, _, .cons r t, h => .cons r (Paired.snocP t h)
/-! ### rows, layers as they lie in the heap -/
abbrev RW := Int × Int
def RowAt (K : PySem.W.Frag) (H : Hp) (v : V) (r : RW) : Prop := ∃ p, v = .ref p ∧ SqT K H p [.int r.1, .int r.2]
def RowsAt (K : PySem.W.Frag) (H : Hp) (v : V) (rs : List RW) : Prop := ∃ p vs, v = .ref p ∧ SqT K H p vs ∧ Paired (RowAt K H) vs rs
def LayAt (K : PySem.W.Frag) (H : Hp) (v : V) (rs : List RW) (bk : Option Int) : Prop := ∃ p rv, v = .ref p ∧ SqT K H p [rv, bkV bk] ∧ RowsAt K H rv rs
def VRow (r : RW) : Prop := 0 ≤ r.1 ∧ r.1 ≤ 9 ∧ 1 ≤ r.2 ∧ r.2 ≤ 24
def VRows (rs : List RW) : Prop := rs.length ≤ 8 ∧ ∀ r ∈ rs, VRow r
def VBack (rs : List RW) (bk : Option Int) : Prop := ∀ i, bk = some i → 0 ≤ i ∧ i < rs.length
abbrev TKeep (K : PySem.W.Frag) (H H' : Hp) : Prop := ∀ a xs, SqT K H a xs → SqT K H' a xs
theorem Same.tk {K : PySem.W.Frag} {H H' : Hp} (s : Same H H') : TKeep K H H' := fun _ _ h => Same.sqT s h
theorem Gr.tk {st : Addr} {K : PySem.W.Frag} {H H' : Hp} (g : Gr st H H') (s : IsSt H st) : TKeep K H H' := fun _ _ h => g.sqT s h
theorem RowAt.keep {K : PySem.W.Frag} {H H' : Hp} {v : V} {r : RW} (k : TKeep K H H') : RowAt K H v r → RowAt K H' v r := fun ⟨p, e, h⟩ => ⟨p, e, k _ _ h⟩
theorem RowsAt.keep {K : PySem.W.Frag} {H H' : Hp} {v : V} {rs : List RW} (k : TKeep K H H') : RowsAt K H v rs → RowsAt K H' v rs := fun ⟨p, vs, e, h, q⟩ => ⟨p, vs, e, k _ _ h, Paired.mono q fun _ _ => RowAt.keep k⟩
theorem LayAt.keep {K : PySem.W.Frag} {H H' : Hp} {v : V} {rs : List RW} {bk : Option Int} (k : TKeep K H H') : LayAt K H v rs bk → LayAt K H' v rs bk := fun ⟨p, rv, e, h, q⟩ => ⟨p, rv, e, k _ _ h, q.keep k⟩
/-! ### what a layer shows -/
def tot (rs : List RW) : Int := (rs.map (·.2)).sum
theorem tot_nil : tot [] = 0 := rfl
theorem tot_cons (r : RW) (rs : List RW) : tot (r :: rs) = r.2 + tot rs := by
  unfold tot
  rw [List.map_cons, List.sum_cons]
theorem tot_append (rs qs : List RW) : tot (rs ++ qs) = tot rs + tot qs := by
  induction rs with
  | nil => simp [tot_nil]
  | cons r t ih =>
    rw [List.cons_append, tot_cons, tot_cons, ih]
    omega
theorem tot_split (rs : List RW) (k : Nat) : tot rs = tot (rs.take k) + tot (rs.drop k) := by
  rw [← tot_append, List.take_append_drop]
theorem tot_nonneg : ∀ {rs : List RW}, (∀ r ∈ rs, VRow r) → (rs.length : Int) ≤ tot rs ∧ tot rs ≤ 24 * rs.length
  | [], _ => by
    rw [tot_nil]
    exact ⟨Int.le_refl _, Int.le_refl _⟩
  | r :: t, h => by
    have h1 := h r (List.mem_cons_self ..)
    have ih := tot_nonneg (rs := t) fun q hq => h q (List.mem_cons_of_mem _ hq)
    rw [tot_cons, List.length_cons]
    obtain ⟨_, _, h3, h4⟩ := h1
    obtain ⟨i1, i2⟩ := ih
    constructor <;> omega
def walk : List RW → Int → Int
  | [], _ => 0
  | r :: t, m => if m < r.2 then r.1 else walk t (m - r.2)
def near (rs : List RW) (bk : Option Int) (m : Int) : Int := match bk with
  | none => m
  | some b => if m < tot (rs.take b.toNat) then m else tot (rs.take b.toNat) + (m - tot (rs.take b.toNat)) % tot (rs.drop b.toNat)
def shown (rs : List RW) (bk : Option Int) (m : Int) : Int := walk rs (near rs bk m)
theorem walk_out : ∀ (rs : List RW) (m : Int), tot rs ≤ m → (∀ r ∈ rs, VRow r) → walk rs m = 0
  | [], _, _, _ => rfl
  | r :: t, m, h, v => by
    have v1 := v r (List.mem_cons_self ..)
    have vt : ∀ q ∈ t, VRow q := fun q hq => v q (List.mem_cons_of_mem _ hq)
    have t0 := (tot_nonneg vt).1
    rw [tot_cons] at h
    unfold walk
    rw [if_neg (by omega)]
    exact walk_out t _ (by omega) vt
theorem walk_at : ∀ (rs : List RW) (p : Nat) (r : RW) (j : Int), rs[p]? = some r → (∀ r ∈ rs, VRow r) → 0 ≤ j → j < r.2 → walk rs (tot (rs.take p) + j) = r.1
  | [], p, r, j, h, _, _, _ => by simp at h
  | q :: t, 0, r, j, h, _, h0, h1 => by
    have e : q = r := Option.some.inj h
    subst e
    rw [List.take_zero, tot_nil]
    unfold walk
    rw [if_pos (by omega)]
  | q :: t, p + 1, r, j, h, v, h0, h1 => by
    have vq := v q (List.mem_cons_self ..)
    have vt : ∀ q ∈ t, VRow q := fun q hq => v q (List.mem_cons_of_mem _ hq)
    have tp : 0 ≤ tot (t.take p) := by
      have := (tot_nonneg (rs := t.take p) fun q hq => vt q (List.mem_of_mem_take hq)).1
      omega
    rw [List.take_succ_cons, tot_cons]
    unfold walk
    rw [if_neg (by omega), show q.2 + tot (t.take p) + j - q.2 = tot (t.take p) + j by omega]
    exact walk_at t p r j h vt h0 h1
theorem tot_take_le {rs : List RW} (v : ∀ r ∈ rs, VRow r) {p : Nat} {r : RW} (h : rs[p]? = some r) : tot (rs.take p) + r.2 ≤ tot rs := by
  have hp : p < rs.length := (List.getElem?_eq_some_iff.mp h).1
  have e : rs.take (p + 1) = rs.take p ++ [r] := by
    rw [List.take_add_one, h]
    rfl
  have s := tot_split rs (p + 1)
  rw [e, tot_append] at s
  have e1 : tot [r] = r.2 := by
    rw [tot_cons, tot_nil]
    omega
  have := (tot_nonneg (rs := rs.drop (p + 1)) fun q hq => v q (List.mem_of_mem_drop hq)).1
  omega
/-- the j-th picture of the row p, behind k more rounds -/
theorem shown_at {rs : List RW} {bk : Option Int} (v : ∀ r ∈ rs, VRow r) (vb : VBack rs bk) {p k : Nat} {r : RW} {j c : Int} (h : rs[p]? = some r) (h0 : 0 ≤ j) (h1 : j < r.2)
    (hc : ∀ b, bk = some b → c = tot (rs.drop b.toNat)) (hk : 0 < k → ∃ b, bk = some b ∧ b ≤ p) : shown rs bk (tot (rs.take p) + k * c + j) = r.1 := by
  have w := walk_at rs p r j h v h0 h1
  have tp : 0 ≤ tot (rs.take p) := by
    have := (tot_nonneg (rs := rs.take p) fun q hq => v q (List.mem_of_mem_take hq)).1
    omega
  unfold shown near
  cases bk with
  | none =>
    have k0 : k = 0 := by
      rcases Nat.eq_zero_or_pos k with z | z
      · exact z
      · obtain ⟨b, e, _⟩ := hk z
        cases e
    subst k0
    dsimp only
    rw [show tot (rs.take p) + ((0 : Nat) : Int) * c + j = tot (rs.take p) + j by simp]
    exact w
  | some b =>
    have hb := vb b rfl
    have ec := hc b rfl
    have s := tot_split rs b.toNat
    have le := tot_take_le v h
    rw [← ec] at s
    dsimp only
    rw [← ec]
    have cpos : 0 < c := by
      have := (tot_nonneg (rs := rs.drop b.toNat) fun q hq => v q (List.mem_of_mem_drop hq)).1
      rw [← ec, List.length_drop] at this
      omega
    rcases Nat.eq_zero_or_pos k with z | z
    · subst z
      rw [show tot (rs.take p) + ((0 : Nat) : Int) * c + j = tot (rs.take p) + j by simp]
      by_cases hm : tot (rs.take p) + j < tot (rs.take b.toNat)
      · rw [if_pos hm]
        exact w
      · rw [if_neg hm, Int.emod_eq_of_lt (by omega) (by omega)]
        rw [show tot (rs.take b.toNat) + (tot (rs.take p) + j - tot (rs.take b.toNat)) = tot (rs.take p) + j by omega]
        exact w
    · obtain ⟨b', e, hbp⟩ := hk z
      have e' : b = b' := Option.some.inj e
      subst e'
      have bp : b.toNat ≤ p := by omega
      have tb : tot (rs.take b.toNat) ≤ tot (rs.take p) := by
        have e1 : rs.take b.toNat = (rs.take p).take b.toNat := by
          rw [List.take_take, Nat.min_eq_left bp]
        have s1 := tot_split (rs.take p) b.toNat
        rw [← e1] at s1
        have := (tot_nonneg (rs := (rs.take p).drop b.toNat) fun q hq => v q (List.mem_of_mem_take (List.mem_of_mem_drop hq))).1
        omega
      have kc : 0 ≤ (k : Int) * c := Int.mul_nonneg (by omega) (by omega)
      rw [if_neg (by omega)]
      rw [show tot (rs.take p) + (k : Int) * c + j - tot (rs.take b.toNat) = (tot (rs.take p) + j - tot (rs.take b.toNat)) + c * k by rw [Int.mul_comm c]; omega, Int.add_mul_emod_self_left, Int.emod_eq_of_lt (by omega) (by omega)]
      rw [show tot (rs.take b.toNat) + (tot (rs.take p) + j - tot (rs.take b.toNat)) = tot (rs.take p) + j by omega]
      exact w
theorem shown_end {rs : List RW} (v : ∀ r ∈ rs, VRow r) {m : Int} (h : tot rs ≤ m) : shown rs none m = 0 := walk_out rs m h v
/-- a great moment is as the one so many whole rounds ahead -/
theorem shown_far {rs : List RW} {bk : Option Int} (v : ∀ r ∈ rs, VRow r) (vb : VBack rs bk) {m s : Int} (hs : s = match bk with | none => 1 | some b => tot (rs.drop b.toNat)) (h : tot rs ≤ m) :
    shown rs bk (tot rs + (m - tot rs) % s) = shown rs bk m := by
  cases bk with
  | none =>
    dsimp only at hs
    subst hs
    rw [shown_end v h, shown_end v (by omega)]
  | some b =>
    dsimp only at hs
    have hb := vb b rfl
    have e := tot_split rs b.toNat
    have spos : 0 < s := by
      have := (tot_nonneg (rs := rs.drop b.toNat) fun q hq => v q (List.mem_of_mem_drop hq)).1
      rw [← hs, List.length_drop] at this
      omega
    have hm := Int.emod_nonneg (m - tot rs) (show s ≠ 0 by omega)
    unfold shown near
    dsimp only
    rw [← hs] at e ⊢
    rw [if_neg (by omega), if_neg (by omega)]
    congr 2
    rw [show tot rs + (m - tot rs) % s - tot (rs.take b.toNat) = (m - tot rs) % s + s * 1 by omega, Int.add_mul_emod_self_left, Int.emod_emod,
      show m - tot (rs.take b.toNat) = (m - tot rs) + s * 1 by omega, Int.add_mul_emod_self_left]
theorem shown_walk_none (rs : List RW) (m : Int) : shown rs none m = walk rs m := rfl
/-! ### slices -/
theorem cut_to (xs : List V) (k : Nat) : cutV xs none (some (k : Int)) = xs.take k := by
  unfold cutV
  rw [HT.sIx_none, HT.sIx_nat, List.drop_zero, Nat.sub_zero]
  rcases Nat.le_total k xs.length with h | h
  · rw [Nat.min_eq_left h]
  · rw [Nat.min_eq_right h, List.take_length, List.take_of_length_le h]
theorem cut_from (xs : List V) (k : Nat) : cutV xs (some (k : Int)) none = xs.drop k := by
  unfold cutV
  rw [HT.sIx_none, HT.sIx_nat]
  rcases Nat.le_total k xs.length with h | h
  · rw [Nat.min_eq_left h, List.take_of_length_le (by rw [List.length_drop]; omega)]
  · rw [Nat.min_eq_right h, Nat.sub_self, List.take_zero, List.drop_of_length_le h]
theorem cut_all (xs : List V) : cutV xs none none = xs := by
  unfold cutV
  rw [HT.sIx_none, HT.sIx_none, List.drop_zero, Nat.sub_zero, List.take_length]
theorem cut_whole {xs : List V} {lo hi : Option Int} (h : HT.sIx xs.length 0 lo = 0 ∧ HT.sIx xs.length xs.length hi = xs.length) : cutV xs lo hi = xs := by
  unfold cutV
  rw [h.1, h.2, List.drop_zero, Nat.sub_zero, List.take_length]
theorem sl_rows {K : PySem.W.Frag} {H : Hp} {a : Addr} {xs : List V} {lo hi : Option Int} (rs : List RW) {R : VK} (hS : SqT K H a xs) (hp : Paired (RowAt K H) (cutV xs lo hi) rs) (h : ∀ H' v, Same H H' → RowsAt K H' v rs → R v H') :
    rSlA K (.ref a) lo hi H R := by
  refine ⟨a, xs, rfl, hS, fun w => h H _ (Same.refl _) ⟨a, xs, rfl, hS, ?_⟩, fun _ p np => ?_⟩
  · rw [cut_whole w] at hp
    exact hp
  · have s := same_upd (o := .tup (cutV xs lo hi)) np
    exact h _ _ s ⟨p, _, rfl, .inl (.inl upd_same), Paired.mono hp fun _ _ => RowAt.keep (Same.tk s)⟩
/-! ### windows -/
abbrev MV := Int × Int × Int
def MoveAt (K : PySem.W.Frag) (H : Hp) (v : V) (m : MV) : Prop := ∃ p, v = .ref p ∧ SqT K H p [.int m.1, .int m.2.1, .int m.2.2]
def MovesAt (K : PySem.W.Frag) (H : Hp) (v : V) (ms : List MV) : Prop := ∃ p vs, v = .ref p ∧ SqT K H p vs ∧ Paired (MoveAt K H) vs ms
def WinAt (K : PySem.W.Frag) (H : Hp) (v : V) (x y : Int) (ms : List MV) : Prop := ∃ p mv, v = .ref p ∧ SqT K H p [.int x, .int y, mv] ∧ MovesAt K H mv ms
def VMove (m : MV) : Prop := (-20 ≤ m.1 ∧ m.1 ≤ 20) ∧ (-20 ≤ m.2.1 ∧ m.2.1 ≤ 20) ∧ 0 ≤ m.2.2 ∧ m.2.2 ≤ 24
def VWin (x y : Int) (ms : List MV) : Prop := (-20 ≤ x ∧ x ≤ 20) ∧ (-20 ≤ y ∧ y ≤ 20) ∧ ms.length ≤ 8 ∧ ∀ m ∈ ms, VMove m
theorem MoveAt.keep {K : PySem.W.Frag} {H H' : Hp} {v : V} {m : MV} (k : TKeep K H H') : MoveAt K H v m → MoveAt K H' v m := fun ⟨p, e, h⟩ => ⟨p, e, k _ _ h⟩
theorem MovesAt.keep {K : PySem.W.Frag} {H H' : Hp} {v : V} {ms : List MV} (k : TKeep K H H') : MovesAt K H v ms → MovesAt K H' v ms := fun ⟨p, vs, e, h, q⟩ => ⟨p, vs, e, k _ _ h, Paired.mono q fun _ _ => MoveAt.keep k⟩
theorem WinAt.keep {K : PySem.W.Frag} {H H' : Hp} {v : V} {x y : Int} {ms : List MV} (k : TKeep K H H') : WinAt K H v x y ms → WinAt K H' v x y ms := fun ⟨p, mv, e, h, q⟩ => ⟨p, mv, e, k _ _ h, q.keep k⟩
def mtot (ms : List MV) : Int := (ms.map (·.2.2)).sum
/-! ### sheets -/
abbrev LY := List RW × Option Int
def LyAt (K : PySem.W.Frag) (H : Hp) (v : V) (l : LY) : Prop := LayAt K H v l.1 l.2
def LaysAt (K : PySem.W.Frag) (H : Hp) (v : V) (ls : List LY) : Prop := ∃ p vs, v = .ref p ∧ SqT K H p vs ∧ Paired (LyAt K H) vs ls
def VLy (l : LY) : Prop := VRows l.1 ∧ VBack l.1 l.2
def VLays (ls : List LY) : Prop := 1 ≤ ls.length ∧ ls.length ≤ 4 ∧ ∀ l ∈ ls, VLy l
def ShAt (K : PySem.W.Frag) (H : Hp) (v : V) (ls : List LY) (x y : Int) (ms : List MV) : Prop := ∃ p lv wv, v = .ref p ∧ SqT K H p [lv, wv] ∧ LaysAt K H lv ls ∧ WinAt K H wv x y ms
theorem LyAt.keep {K : PySem.W.Frag} {H H' : Hp} {v : V} {l : LY} (k : TKeep K H H') : LyAt K H v l → LyAt K H' v l := LayAt.keep k
theorem LaysAt.keep {K : PySem.W.Frag} {H H' : Hp} {v : V} {ls : List LY} (k : TKeep K H H') : LaysAt K H v ls → LaysAt K H' v ls := fun ⟨p, vs, e, h, q⟩ => ⟨p, vs, e, k _ _ h, Paired.mono q fun _ _ => LyAt.keep k⟩
theorem ShAt.keep {K : PySem.W.Frag} {H H' : Hp} {v : V} {ls : List LY} {x y : Int} {ms : List MV} (k : TKeep K H H') : ShAt K H v ls x y ms → ShAt K H' v ls x y ms := fun ⟨p, lv, wv, e, h, q, r⟩ => ⟨p, lv, wv, e, k _ _ h, q.keep k, r.keep k⟩
/-! ### places -/
def PlAt (K : PySem.W.Frag) (H : Hp) (v : V) (p : RW × RW) : Prop := ∃ a v1 v2, v = .ref a ∧ SqT K H a [v1, v2] ∧ RowAt K H v1 p.1 ∧ RowAt K H v2 p.2
theorem PlAt.keep {K : PySem.W.Frag} {H H' : Hp} {v : V} {p : RW × RW} (k : TKeep K H H') : PlAt K H v p → PlAt K H' v p := fun ⟨a, v1, v2, e, h, r1, r2⟩ => ⟨a, v1, v2, e, k _ _ h, r1.keep k, r2.keep k⟩
/-! ### pictures -/
abbrev PIC := List Int × (RW × RW)
def PicAt (K : PySem.W.Frag) (H : Hp) (v : V) (c : PIC) : Prop := ∃ a b v2, v = .ref a ∧ SqT K H a [.ref b, v2] ∧ SqT K H b (c.1.map V.int) ∧ PlAt K H v2 c.2
theorem PicAt.keep {K : PySem.W.Frag} {H H' : Hp} {v : V} {c : PIC} (k : TKeep K H H') : PicAt K H v c → PicAt K H' v c := fun ⟨a, b, v2, e, h, h1, h2⟩ => ⟨a, b, v2, e, k _ _ h, k _ _ h1, h2.keep k⟩
/-! ### fractions in lowest terms -/
def lo (t b : Int) : RW := (t / ((Nat.gcd t.natAbs b.natAbs : Nat) : Int), b / ((Nat.gcd t.natAbs b.natAbs : Nat) : Int))
theorem gcd_facts {t b : Int} (hb : 0 < b) : ∃ g t' b' : Int, ((Nat.gcd t.natAbs b.natAbs : Nat) : Int) = g ∧ 0 < g ∧ t = g * t' ∧ b = g * b' ∧ 0 < b' ∧ (lo t b) = (t', b') ∧ g ≤ b ∧ Nat.Coprime b'.natAbs t'.natAbs := by
  have g0 : 0 < Nat.gcd t.natAbs b.natAbs := Nat.gcd_pos_of_pos_right _ (by omega)
  obtain ⟨t', ht⟩ : ((Nat.gcd t.natAbs b.natAbs : Nat) : Int) ∣ t := Int.natAbs_dvd_natAbs.mp (by rw [Int.natAbs_natCast]; exact Nat.gcd_dvd_left _ _)
  obtain ⟨b', hb'⟩ : ((Nat.gcd t.natAbs b.natAbs : Nat) : Int) ∣ b := Int.natAbs_dvd_natAbs.mp (by rw [Int.natAbs_natCast]; exact Nat.gcd_dvd_right _ _)
  have gp : (0 : Int) < ((Nat.gcd t.natAbs b.natAbs : Nat) : Int) := by omega
  have bp : 0 < b' := Int.pos_of_mul_pos_left (a := b') (b := ((Nat.gcd t.natAbs b.natAbs : Nat) : Int)) (by rw [Int.mul_comm, ← hb']; exact hb) gp
  have gle : ((Nat.gcd t.natAbs b.natAbs : Nat) : Int) ≤ b := by
    have := Nat.gcd_le_right t.natAbs (show 0 < b.natAbs by omega)
    omega
  have cop : Nat.gcd b'.natAbs t'.natAbs = 1 := by
    have e1 : t.natAbs = Nat.gcd t.natAbs b.natAbs * t'.natAbs := by
      have := congrArg Int.natAbs ht
      rw [Int.natAbs_mul, Int.natAbs_natCast] at this
      exact this
    have e2 : b.natAbs = Nat.gcd t.natAbs b.natAbs * b'.natAbs := by
      have := congrArg Int.natAbs hb'
      rw [Int.natAbs_mul, Int.natAbs_natCast] at this
      exact this
    have e3 : Nat.gcd (Nat.gcd t.natAbs b.natAbs * t'.natAbs) (Nat.gcd t.natAbs b.natAbs * b'.natAbs) = Nat.gcd t.natAbs b.natAbs * Nat.gcd t'.natAbs b'.natAbs := Nat.gcd_mul_left _ _ _
    rw [← e1, ← e2] at e3
    rw [Nat.gcd_comm]
    exact Nat.eq_of_mul_eq_mul_left g0 (by rw [← e3, Nat.mul_one])
  refine ⟨_, t', b', rfl, gp, ht, hb', bp, ?_, gle, cop⟩
  unfold lo
  congr 1
  · conv => lhs; arg 1; rw [ht]
    exact Int.mul_ediv_cancel_left _ (by omega)
  · conv => lhs; arg 1; rw [hb']
    exact Int.mul_ediv_cancel_left _ (by omega)
theorem lo_mem {t b k : Int} (hb : 0 < b) : t * k % b = 0 ↔ (lo t b).2 ∣ k := by
  obtain ⟨g, t', b', _, gp, et, eb, bp, el, _, cop⟩ := gcd_facts (t := t) hb
  rw [el]
  show _ ↔ b' ∣ k
  constructor
  · intro h
    have h1 := Int.dvd_of_emod_eq_zero h
    rw [et, eb, Int.mul_assoc] at h1
    obtain ⟨c, hc⟩ := h1
    rw [Int.mul_assoc] at hc
    have h2 : b' ∣ t' * k := ⟨c, Int.eq_of_mul_eq_mul_left (by omega) hc⟩
    have h3 := Int.natAbs_dvd_natAbs.mpr h2
    rw [Int.natAbs_mul] at h3
    exact Int.natAbs_dvd_natAbs.mp (Nat.Coprime.dvd_of_dvd_mul_left cop h3)
  · rintro ⟨c, hc⟩
    apply Int.emod_eq_zero_of_dvd
    refine ⟨t' * c, ?_⟩
    rw [et, eb, hc]
    rw [Int.mul_assoc, Int.mul_assoc, Int.mul_left_comm t' b' c]
/-- the numbers from 1 to n that the law looks through -/
def ks (t b : Int) (n : Nat) : List Int := ((List.range n).map fun j => 1 + ((j : Nat) : Int)).filter fun k => decide (t * k % b = 0)
theorem ks_head {t b : Int} (hb : 0 < b) : (ks t b b.toNat)[0]? = some (lo t b).2 := by
  obtain ⟨g, t', b', _, gp, et, eb, bp, el, _, cop⟩ := gcd_facts (t := t) hb
  have hm : ∀ k, t * k % b = 0 ↔ b' ∣ k := fun k => by
    have := lo_mem (t := t) (k := k) hb
    rw [el] at this
    exact this
  rw [el]
  show (ks t b b.toNat)[0]? = some b'
  have ble : b' ≤ b := by
    rw [eb]
    have : 1 * b' ≤ g * b' := Int.mul_le_mul_of_nonneg_right (by omega) (by omega)
    omega
  unfold ks
  rw [List.filter_map, List.getElem?_map, ← List.head?_eq_getElem?, List.head?_filter]
  have e : (List.range b.toNat).find? ((fun k : Int => decide (t * k % b = 0)) ∘ fun j : Nat => 1 + (j : Int)) = some (b'.toNat - 1) := by
    rw [List.find?_range_eq_some]
    refine ⟨?_, List.mem_range.mpr (by omega), fun j hj => ?_⟩
    · show decide (t * (1 + ((b'.toNat - 1 : Nat) : Int)) % b = 0) = true
      rw [decide_eq_true_eq, hm, show 1 + ((b'.toNat - 1 : Nat) : Int) = b' by omega]
      exact Int.dvd_refl _
    · show (!decide (t * (1 + (j : Int)) % b = 0)) = true
      rw [Bool.not_eq_true', decide_eq_false_iff_not, hm]
      intro hd
      have := Int.le_of_dvd (by omega) hd
      omega
  rw [e]
  show some (1 + ((b'.toNat - 1 : Nat) : Int)) = some b'
  congr 1
  omega
theorem lo_top {t b : Int} (hb : 0 < b) : t * (lo t b).2 / b = (lo t b).1 := by
  obtain ⟨g, t', b', _, gp, et, eb, bp, el, _, cop⟩ := gcd_facts (t := t) hb
  rw [el]
  show t * b' / b = t'
  rw [et, show g * t' * b' = b * t' by rw [eb, Int.mul_assoc, Int.mul_assoc, Int.mul_comm t' b']]
  exact Int.mul_ediv_cancel_left _ (by omega)
/-! ### where a window stands -/
def plc (x y : Int) : List MV → Int → RW × RW
  | [], _ => ((x, 1), (y, 1))
  | m :: r, t => if t < m.2.2 then (lo (x * m.2.2 + (m.1 - x) * (t + 1)) m.2.2, lo (y * m.2.2 + (m.2.1 - y) * (t + 1)) m.2.2) else plc m.1 m.2.1 r (t - m.2.2)
theorem way_eq (x g n k : Int) : x * (n - k) + g * k = x * n + (g - x) * k := by
  rw [Int.mul_sub, Int.sub_mul]
  omega
theorem plc_nil (x y t : Int) : plc x y [] t = ((x, 1), (y, 1)) := rfl
theorem plc_cons (x y : Int) (m : MV) (r : List MV) (t : Int) : plc x y (m :: r) t = if t < m.2.2 then (lo (x * m.2.2 + (m.1 - x) * (t + 1)) m.2.2, lo (y * m.2.2 + (m.2.1 - y) * (t + 1)) m.2.2) else plc m.1 m.2.1 r (t - m.2.2) := rfl
theorem mtot_cons (m : MV) (r : List MV) : mtot (m :: r) = m.2.2 + mtot r := by
  unfold mtot
  rw [List.map_cons, List.sum_cons]
theorem mtot_nonneg : ∀ {ms : List MV}, (∀ m ∈ ms, VMove m) → 0 ≤ mtot ms ∧ mtot ms ≤ 24 * ms.length
  | [], _ => ⟨Int.le_refl _, Int.le_refl _⟩
  | m :: r, h => by
    have ih := mtot_nonneg (ms := r) fun q hq => h q (List.mem_cons_of_mem _ hq)
    obtain ⟨_, _, h3, h4⟩ := h m (List.mem_cons_self ..)
    rw [mtot_cons, List.length_cons]
    obtain ⟨i1, i2⟩ := ih
    constructor <;> omega
theorem plc_far : ∀ (ms : List MV) (x y a b : Int), (∀ m ∈ ms, VMove m) → mtot ms ≤ a → mtot ms ≤ b → plc x y ms a = plc x y ms b
  | [], _, _, _, _, _, _, _ => rfl
  | m :: r, x, y, a, b, h, ha, hb => by
    have hr : ∀ q ∈ r, VMove q := fun q hq => h q (List.mem_cons_of_mem _ hq)
    have := (mtot_nonneg hr).1
    rw [mtot_cons] at ha hb
    rw [plc_cons, plc_cons, if_neg (by omega), if_neg (by omega)]
    exact plc_far r _ _ _ _ hr (by omega) (by omega)
def pic (ls : List LY) (x y : Int) (ms : List MV) (m : Int) : PIC := (ls.map (fun l => shown l.1 l.2 m), plc x y ms m)
/-! ### the law's own helpers -/
theorem fm {x m : Int} (h : 0 < m) : 0 ≤ x.fmod m ∧ x.fmod m < m := by
  rw [Int.fmod_eq_emod_of_nonneg x (by omega)]
  exact ⟨Int.emod_nonneg _ (by omega), Int.emod_lt_of_pos _ h⟩
theorem tk_updL {K : PySem.W.Frag} {H : Hp} {D : Addr} {xs ys : List V} (h : H D = some (.lst xs)) : TKeep K H (upd H D (.lst ys)) := by
  intro a zs q
  rcases q with (q | ⟨o, q⟩) | q
  · refine .inl (.inl ?_)
    rw [upd_ne (ne_of q h (by intro z; cases z))]
    exact q
  · refine .inl (.inr ⟨o, ?_⟩)
    rw [upd_ne (ne_of q h (by intro z; cases z))]
    exact q
  · exact .inr q
inductive Fl : V → String → Bool → Prop
  | non : Fl .non "NoneType" false
  | bl (b : Bool) : Fl (.bl b) "bool" true
  | int (i : Int) : Fl (.int i) "int" false
theorem Fl.ty {K : PySem.W.Frag} {H : Hp} {x : V} {t : String} {b : Bool} (f : Fl x t b) : TyX K H x (.type t) := by
  cases f with
  | non => exact .base .non
  | bl b => exact .base (.bl b)
  | int i => exact .base (.int i)
theorem Fl.kit {x : V} {t : String} {b : Bool} (f : Fl x t b) : kitB t "bool" = some b := by
  cases f <;> decide +kernel
theorem Fl.kit2 {K : PySem.W.Frag} {x : V} {t : String} {b : Bool} (f : Fl x t b) : PySem.W.kitAny K (.type t) [.type "tuple", .type "list"] = some false := by
  cases f <;> exact kitAny_cons (kit_ty (r := false) (by decide +kernel)) (fun _ => kitAny_cons (kit_ty (r := false) (by decide +kernel)) (fun _ => kitAny_nil) (fun z => nomatch z)) (fun z => nomatch z)
theorem Fl.scal {x y : V} {t u : String} {b : Bool} (f : Fl x t b) (g : Fl y u b) : L2.scal x y = true := by
  cases f <;> cases g <;> rfl
theorem Fl.ne {x y : V} {t u : String} {b c : Bool} (f : Fl x t b) (g : Fl y u c) (h : b ≠ c) : x ≠ y := by
  cases f <;> cases g <;> first | exact absurd rfl h | (intro z; cases z)
theorem st_ne {H : Hp} {st p : Addr} (s : IsSt H st) (h : H p = none) : p ≠ st := by
  obtain ⟨x, y, hx, _⟩ := s
  exact fun z => by rw [z, hx] at h; cases h
theorem st_neT {H : Hp} {st p : Addr} {xs : List V} (s : IsSt H st) (h : H p = some (.tup xs)) : p ≠ st := by
  obtain ⟨x, y, hx, _⟩ := s
  exact ne_of h hx (by intro z; cases z)
/-! ### the law's own comparison, of equal data -/
theorem tyL {K : PySem.W.Frag} {H : Hp} {a : Addr} {xs : List V} (h : SqL K H a xs) : TyX K H (.ref a) (.type "list") := by
  rcases h with (h | ⟨o, h⟩) | ⟨o, its, n, h, c, _⟩
  · exact .base (.lst h)
  · exact .base (.frz h)
  · exact .kList h c
mutual
theorem Dp.sm {K : PySem.W.Frag} {H H' : Hp} (s : Same H H') : ∀ {v : V} {d : PyData}, Dp K H v d → Dp K H' v d
  | _, _, .non => .non
  | _, _, .bl b => .bl b
  | _, _, .int i => .int i
  | _, _, .str x => .str x
  | _, _, .lst h q => .lst (s.seq h) (DpAll.sm s q)
  | _, _, .tup h q => .tup (Same.sqT s h) (DpAll.sm s q)
theorem DpAll.sm {K : PySem.W.Frag} {H H' : Hp} (s : Same H H') : ∀ {v : List V} {d : List PyData}, DpAll K H v d → DpAll K H' v d
  | _, _, .nil => .nil
  | _, _, .cons h q => .cons (Dp.sm s h) (DpAll.sm s q)
end
theorem DpAll.at {K : PySem.W.Frag} {H : Hp} : ∀ {vs : List V} {ds : List PyData} {i : Nat} {v : V}, DpAll K H vs ds → vs[i]? = some v → ∃ d, ds[i]? = some d ∧ Dp K H v d
  | _, _, i, v, .nil, h => by simp at h
  | _, _, 0, v, .cons a t, h => by
    have e : _ = v := Option.some.inj h
    subst e
    exact ⟨_, rfl, a⟩
  | _, _, i + 1, v, .cons a t, h => DpAll.at (i := i) t h
theorem DpAll.len {K : PySem.W.Frag} {H : Hp} : ∀ {vs : List V} {ds : List PyData}, DpAll K H vs ds → vs.length = ds.length
  | _, _, .nil => rfl
  | _, _, .cons _ t => by rw [List.length_cons, List.length_cons, DpAll.len t]
def flD (d : PyData) : Prop := d = .none ∨ (∃ b, d = .bool b) ∨ ∃ i, d = .int i
def dOk : Nat → PyData → Prop
  | 0, d => flD d
  | n + 1, d => flD d ∨ ∃ ds, (d = .list ds ∨ d = .tuple ds) ∧ ds.length ≤ 1000 ∧ ∀ e ∈ ds, dOk n e
theorem flD.fl {K : PySem.W.Frag} {H : Hp} {x y : V} {d : PyData} (f : flD d) (hx : Dp K H x d) (hy : Dp K H y d) : x = y ∧ ∃ t b, Fl x t b := by
  rcases f with rfl | ⟨b, rfl⟩ | ⟨i, rfl⟩
  · cases hx
    cases hy
    exact ⟨rfl, _, _, .non⟩
  · cases hx
    cases hy
    exact ⟨rfl, _, _, .bl b⟩
  · cases hx
    cases hy
    exact ⟨rfl, _, _, .int i⟩
/-- a comprehension over a zip of two that stand still, each item True -/
theorem lc_zip {J : It} {xs ys : List V} {g : TG} {tt : TT} {te : TE} {vs : List Nat} {σ : L2.St} {H1 : Hp} {D : Addr} {Qd : Hp → Prop} (hl : ys.length = xs.length) (hz : xs.length ≤ 1000) (hD : H1 D = none)
    (st : ∀ H, Same H1 H → J.stop xs.length H) (go : ∀ (i : Nat) (H : Hp), Same H1 H → i < xs.length → J.go i H)
    (yl : ∀ (i : Nat) (H : Hp) (v : V) (H' : Hp), Same H1 H → J.yld i H v H' → ∃ T x y, v = .ref T ∧ H T = none ∧ H' = upd H T (.tup [x, y]) ∧ xs[i]? = some x ∧ ys[i]? = some y)
    (hs : ∀ (i : Nat) (x y : V) (T : Addr) (H : Hp) (R : V → Hp → Prop) (Z : Hp → Prop), xs[i]? = some x → ys[i]? = some y → Same H1 H → H T = some (.tup [x, y]) → (∀ H4, Same H H4 → R (.bl true) H4) →
      g (.ref T) (wipe σ vs) H fun σ2 H2 => wipe σ2 vs = wipe σ vs ∧ tt σ2 H2 fun b H3 => if b = true then te σ2 H3 R else Z H3)
    (hd : ∀ H, Same H1 H → H D = some (.lst ((List.replicate xs.length true).map V.bl)) → Qd H) :
    ∃ W : Nat → Nat → Hp → Prop, (∃ m, W 0 m (upd H1 D (.lst []))) ∧ ∀ i m H, W i m H →
      (J.stop i H ∧ Qd H) ∨ (J.go i H ∧ ∃ Nx : Hp → Prop, (∀ H', Nx H' → ∃ m', m' < m ∧ W (i + 1) m' H') ∧ ∀ x H', J.yld i H x H' → g x (wipe σ vs) H' fun σ2 H2 => wipe σ2 vs = wipe σ vs ∧ tt σ2 H2 fun b H3 =>
        if b = true then te σ2 H3 fun y H4 => ∃ acc, H4 D = some (.lst acc) ∧ acc.length < sizeLine ∧ Nx (upd H4 D (.lst (acc ++ [y]))) else Nx H3) := by
  refine ⟨fun i m H => m = xs.length - i ∧ i ≤ xs.length ∧ Same H1 H ∧ H D = some (.lst ((List.replicate i true).map V.bl)), ⟨xs.length, by simp, Nat.zero_le _, same_upd hD, upd_same⟩, ?_⟩
  rintro i m H ⟨rfl, hi, s1, eD⟩
  by_cases hlt : i < xs.length
  · refine .inr ⟨go i H s1 hlt, fun H' => Same H1 H' ∧ H' D = some (.lst ((List.replicate (i + 1) true).map V.bl)), fun H' p => ⟨xs.length - (i + 1), by omega, rfl, hlt, p⟩, fun v H' hy => ?_⟩
    obtain ⟨T, x, y, rfl, nT, rfl, hx, hy⟩ := yl i H v H' s1 hy
    have sT : Same H (upd H T (.tup [x, y])) := same_upd nT
    refine hs i x y T _ _ _ hx hy (s1.trans sT) upd_same (fun H4 s4 => ⟨_, s4 _ _ (sT _ _ eD), ?_, ?_, ?_⟩)
    · rw [List.length_map, List.length_replicate]
      exact small1000 (by omega)
    · intro b o e
      rw [upd_ne (ne_of_none e hD)]
      exact s4 _ _ (sT _ _ (s1 _ _ e))
    · rw [upd_same, List.replicate_succ', List.map_append]
      rfl
  · have e : i = xs.length := by omega
    subst e
    exact .inl ⟨st H s1, hd H s1 eD⟩
/-! ### a def that is entered where nothing is being shown: repr is known there -/
structure FnG (P : Program) (w : World) (K : PySem.W.Frag) (mg : Str → Option Value) (base : Heap) (k : Nat) (f : Addr) (fd : FuncData) (ps : List Str) (sp : Sp) : Prop where
  len : ∀ vs H Q E, sp vs H Q E → vs.length = ps.length
  run : ∀ (A : Around) (outer : List Env) (s : Shared) (H : Hp) (args : Args) (us : List Value) (vs : List V) (Q : VK) (E : XK), A.guards = some [] → Room k A → Env0 P w K mg base A outer s H → BindsTo s fd args (ps.zip us) →
    Vals vs us → sp vs H Q E → codeAny (model P w) A (.call (.ref f) args) (CR CX0 outer P w H s Q E) s
/-! ### a call goes by the def's body, in whatever context the body is read -/
/-- the def st stands at f, its code object is cdv -/
structure DefAt (K : PySem.W.Frag) (x qual : Str) (st : Stmt) (f : Addr) (fd : FuncData) (cdv : Value) : Prop where
  isFn : ∃ (kV doc pm : Value) (an : Option Addr) (ct : Value), fd = PySem.W.fnOf x qual (defArgs st) (defBody st) (defScope st) .none kV doc pm an cdv ct
  there : ∃ (oc : Value) (od : Option Addr) (osl : Array (Option Value)), K.lookup f = some ⟨oc, od, .func fd, osl⟩
  coded : PySem.W.codeIn K cdv qual = true
/-- what a call's value is, told by how the body ends -/
def given : Flow → Value
  | .ret u => u
  | _ => .none
/-- the state in which a body begins whose parameters ps hold us -/
abbrev Begun (qual : Str) (st : Stmt) (f : Addr) (cdv : Value) (ps : List Str) (us : List Value) (s s1 : Shared) : Prop :=
  InCallC s s.heap.objs.size (bindL (envOfC qual (defScope st) s.heap.objs.size f cdv).kindOf (ps.zip us) fun _ => none) (cellsFrom (s.heap.objs.size + 1) (defScope st).names [])
    (bindC (envOfC qual (defScope st) s.heap.objs.size f cdv).kindOf (ps.zip us) fun _ => none) s1
theorem given_by {X : Cx} {Q : VK} {fl : Flow} {s' : Shared} (none : X.ex = []) (h : SP X [] { nx := fun _ H' => Q .non H', rt := Q } fl s') : CE X.outer X.prog X.w X.H_0 X.s_0 Q (given fl) s' := by
  have told : ∀ {σ : L2.St} {H' : Hp} {v : V}, Inv X [] σ H' s' → RelV v (given fl) → Q v H' → CE X.outer X.prog X.w X.H_0 X.s_0 Q (given fl) s' := fun J rv q => ⟨_, _, J.os, J.bare, none ▸ J.base, J.hok, rv, q⟩
  match fl, h with
  | .ret _, ⟨_, _, _, J, rv, q⟩ => exact told J rv q
  | .next, ⟨_, _, J, q⟩ => exact told (v := .non) J rfl q
  | .brk, ⟨_, _, _, q⟩ | .cont, ⟨_, _, _, q⟩ => exact q.elim
section
variable {P : Program} {w : World} {K : PySem.W.Frag} {mg : Str → Option Value} {base : Heap}
theorem defAt_of {x qual : Str} {st : Stmt} {f : Addr} {fd : FuncData} (F : Fun K x qual st f fd) : ∃ cdv, DefAt K x qual st f fd cdv :=
  let ⟨oc, od, kV, doc, pm, an, cdv, ct, osl, e, l, c⟩ := F.ex
  ⟨cdv, ⟨kV, doc, pm, an, ct, e⟩, ⟨oc, od, osl, l⟩, c⟩
theorem DefAt.call {x qual : Str} {st : Stmt} {f : Addr} {fd : FuncData} {cdv : Value} {N ps : List Str} {A : Around} {outer : List Env} {s : Shared} {H : Hp} {args : Args} {us : List Value} {R : Result → Shared → Prop} (D : DefAt K x qual st f fd cdv) (S : FnScope N ps (defScope st))
    (room : A.depth < recursionLimit) (e0 : Env0 P w K mg base A outer s H) (hb : BindsTo s fd args (ps.zip us))
    (body : ∀ s1, Begun qual st f cdv ps us s s1 → wpAny (model P w) (A.deeper (envOfC qual (defScope st) s.heap.objs.size f cdv)) (execs (defBody st) (envOfC qual (defScope st) s.heap.objs.size f cdv)) (fun fl s' => R (.ok (.ret (given fl))) s')
      (fun e s' => wpAny (model P w) (A.deeper (envOfC qual (defScope st) s.heap.objs.size f cdv)) (leaving (envOfC qual (defScope st) s.heap.objs.size f cdv) e) (fun _ z => R (.error e) z) (fun e' z => R (.error e') z) s') s1) :
    codeAny (model P w) A (.call (.ref f) args) R s := by
  obtain ⟨⟨kV, doc, pm, an, ct, rfl⟩, ⟨oc, od, osl, there⟩, coded⟩ := D
  have stands : ∀ b o, base.get? b = some o → s.heap.get? b = some o := fun b o z => (e0.bs b o z).1
  have kin := e0.mod.kin.keeps stands
  apply codeAny_call_function room (kin f _ there) rfl S.co S.gen rfl (PySem.W.codeRec_of kin coded)
  apply hb
  apply wpAny_newFunctionEnv_cells S.kind
  · exact fun y hy => (S.par y.1 (List.of_mem_zip hy).1).imp id fun c => ⟨c, PySem.W.cellsFrom_some _ _ _ (.inl c)⟩
  · rintro _ rfl s1 begun
    exact ⟨(e0.mod.nolimit.keeps stands).keeps begun.toInCall.keep, codeAny_func (wpAny_mono (body s1 begun) (fun fl _ h => by cases fl <;> exact h) fun _ _ h => h)⟩
theorem fun_okG {x qual : Str} {st : Stmt} {f : Addr} {fd : FuncData} {N ps : List Str} {k : Nat} {sp : Sp} (F : Fun K x qual st f fd) (S : FnScope N ps (defScope st)) (ln : ∀ vs H Q E, sp vs H Q E → vs.length = ps.length)
    (hbody : ∀ (cdv : Value) (A : Around) (outer : List Env) (s : Shared) (H : Hp) (vs : List V) (Q : VK) (E : XK), A.guards = some [] → Room k (A.deeper (envOfC qual (defScope st) s.heap.objs.size f cdv)) → sp vs H Q E →
      ∃ t, PSs (cxOf CX0 P w K mg base N qual (defScope st) f cdv A outer s H E).nox (defBody st) t ∧ t { nx := fun _ H' => Q .non H', rt := Q } (L2.start N vs) H) : FnG P w K mg base (k + 1) f fd ps sp := by
  obtain ⟨cdv, D⟩ := defAt_of F
  refine ⟨ln, fun A outer s H args us vs Q E hgu hr e0 hb r hsp => D.call S hr.depth e0 hb fun s1 begun => ?_⟩
  obtain ⟨t, ht, hq⟩ := hbody cdv A outer s H vs Q E hgu (hr.deeper _) hsp
  exact thn (ht.nox.run [] s1 _ H _ (inv_start S hr.hd e0 (ln _ _ _ _ hsp) r begun) hq) fun _ _ h => given_by rfl h
/-- the law's call from such a promise -/
theorem law_callG {mb : Str → Option Value} {k : Nat} {fa a : Addr} {fd : FuncData} {x : Str} {sp : Sp} {s₁ : Shared} {vs : List Value} {ns : List Int}
    (KX : K.In s₁.heap) (hns : s₁.heap.Ns mainGlobals mg) (hb : s₁.heap.Ns builtinsNs mb) (hbb : ∀ x : Str, x ≠ "__name__" → mb x = bootBuiltins x) (hlim : s₁.heap.NoLimit)
    (hge : s₁.gens = #[]) (ha : s₁.heap.get? a = some { cls := .type "list", data := .seq vs.toArray }) (hi : IntsAre vs ns) (hl : ns.length ≤ sizeLine) (hr : Room k callerA)
    (F : ∀ base : Heap, K.In base → base.Ns mainGlobals mg → FnG P w K mg base k fa fd [x] sp)
    (hbind : ∀ (s : Shared) (u : Value), BindsTo s fd ⟨[u], []⟩ [(x, u)])
    (hsp : ∀ H : Hp, SqL K H a (ns.map V.int) → sp [.ref a] H (fun v _ => v = .bl true) fun _ _ _ => False) :
    codeAny (model P w) callerA (.call (.ref fa) ⟨[.ref a], []⟩)
      (fun r s' => r = .ok (.ret (.bool true)) ∧ OldK s₁.heap s'.heap ∧ s'.os = s₁.os ∧ AllBare s'.gens) s₁ := by
  have rv := vals_ints hi
  have lv := hi.length
  obtain ⟨H, hH⟩ : ∃ H : Hp, ∀ b, H b = if b = a ∧ K.lookup a = none then some (.frz { cls := .type "list", data := .seq vs.toArray } (.lst (ns.map V.int))) else none := ⟨fun b => _, fun _ => rfl⟩
  have some_of : ∀ {b u}, H b = some u → b = a ∧ K.lookup a = none ∧ u = .frz { cls := .type "list", data := .seq vs.toArray } (.lst (ns.map V.int)) := by
    intro b u e
    rw [hH b] at e
    by_cases c : b = a ∧ K.lookup a = none
    · rw [if_pos c] at e
      exact ⟨c.1, c.2, (Option.some.inj e).symm⟩
    · rw [if_neg c] at e
      cases e
  have none_of : ∀ {b o} {es : Array DictEntry} {ep : Nat}, s₁.heap.get? b = some o → o.data = .dict es ep → H b = none := by
    intro b o es ep e d
    cases c : H b with
    | none => rfl
    | some u =>
      obtain ⟨rfl, _, _⟩ := some_of c
      rw [ha] at e
      cases e
      cases d
  have hS : SqL K H a (ns.map V.int) := by
    cases hk : K.lookup a with
    | none => exact .inl (.inr ⟨_, by rw [hH a, if_pos ⟨rfl, hk⟩]⟩)
    | some o =>
      have e := KX a o hk
      rw [ha] at e
      cases e
      refine .inr ⟨_, vs.toArray, _, hk, rfl, rfl, rfl, ?_, by simpa using rv⟩
      rw [List.size_toArray, lv]
      exact hl
  have hok : HOk P w H s₁.heap := by
    intro b u e
    obtain ⟨rfl, _, rfl⟩ := some_of e
    refine ⟨ha, ?_, vs, _, rv, ha⟩
    rw [List.length_map]
    exact hl
  have nsB : ∀ {b : Addr} {m : Str → Option Value}, s₁.heap.Ns b m → (hidT s₁.heap H).Ns b m := by
    rintro b m ⟨o, es, ep, e, d, r⟩
    exact ⟨o, es, ep, hidT_get e (none_of e d), d, r⟩
  have kB : K.In (hidT s₁.heap H) := by
    intro b o e
    refine hidT_get (KX b o e) ?_
    cases c : H b with
    | none => rfl
    | some u =>
      obtain ⟨rfl, k0, _⟩ := some_of c
      rw [k0] at e
      cases e
  have md : Mod K mg (hidT s₁.heap H) := by
    obtain ⟨mc, h1, h2⟩ := hlim
    exact ⟨kB, nsB hns, ⟨mb, nsB hb, hbb⟩, ⟨mc, nsB h1, h2⟩⟩
  have e0 : Env0 P w K mg (hidT s₁.heap H) callerA [] s₁ H := by
    refine ⟨rfl, md, fun b o e => of_hidT e, Nat.le_of_eq (hidT_size _ _), trivial, ?_, hok, .of_eq hge⟩
    intro b hb
    exact absurd (show b ∈ ([] : List Addr) from hb) (by simp)
  have go := (F _ kB (nsB hns)).run callerA [] s₁ H ⟨[.ref a], []⟩ [.ref a] [.ref a] _ _ rfl hr e0
    (hbind s₁ (.ref a)) (.cons rfl .nil) (hsp H hS)
  refine codeAny_mono go fun r s' h => ?_
  cases r with
  | error e => exact h.elim
  | ok fl =>
    cases fl with
    | ret u =>
      obtain ⟨v, H', os, bare, un, hok', r', qv⟩ := h
      have qv' : v = .bl true := qv
      subst qv'
      obtain rfl : u = Value.bool true := r'
      refine ⟨rfl, OldK.of_keep fun b o e => ?_, os, bare⟩
      cases c : H b with
      | none =>
        refine un.keep b o e c ?_ (by simp)
        intro z
        exact absurd (show b ∈ ([] : List Addr) from z) (by simp)
      | some u =>
        obtain ⟨_, _, rfl⟩ := some_of c
        have c2 := un.frzs b _ _ c
        obtain ⟨e1, _⟩ := hok b _ c
        obtain ⟨e2, _⟩ := hok' b _ c2
        rw [e] at e1
        cases e1
        exact e2
    | next => exact False.elim h
    | brk => exact False.elim h
    | cont => exact False.elim h
end
theorem walk_ofG {l : PySem.W.OpenLaw} {n k : Nat} {q : Program} {loose : List Str} {XP : (Str → Option Value) → Heap → Prop} {YP : World → Heap → Prop} {d : DefRec} {K : Params → PySem.W.Frag} {sp : World → Sp} {x : Str}
    (hn : l.most = some n) (hn2 : n ≤ sizeLine) (hdf : d.params.defaults = []) (hr : Room k callerA) (hY : ∀ (w : World) (h : Heap), YP w h → (K w.params).In h)
    (F : ∀ (w : World) (mg : Str → Option Value) (fa : Addr) (h : Heap), (K w.params).In h → h.Ns mainGlobals mg → mg d.name = some (.ref fa) →
      ∃ fd : FuncData, (∀ (s : Shared) (u : Value), BindsTo s fd ⟨[u], []⟩ [(x, u)]) ∧
        ∀ base : Heap, (K w.params).In base → base.Ns mainGlobals mg → FnG l.prog w (K w.params) mg base k fa fd [x] (sp w))
    (hsp : ∀ (w : World) (H : Hp) (a : Addr) (ns : List Int), ns.length ≤ n → SqL (K w.params) H a (ns.map V.int) → sp w [.ref a] H (fun v _ => v = .bl true) fun _ _ _ => False) :
    PySem.W.WalkO q loose XP YP l.row.toRowW d [] (fun f vs => PySem.call f vs) := by
  refine Att.attach_call hn hdf fun w s₀ s₁ mg mb fa o pm cd doc a vs ns G Y _ _ _ hmg hobj hints hlen hge => ?_
  have KX := hY w _ Y
  obtain ⟨fd, hb, hF⟩ := F w mg fa _ KX G.T.g hmg
  exact law_callG KX G.T.g G.T.b G.T.builtins G.T.nolimit hge hobj hints (Nat.le_trans hlen hn2) hr hF hb
    (fun H hS => hsp w H a ns hlen hS)
/-! ### repr of data -/
def rRepr (K : PySem.W.Frag) : List V → Hp → VK → Prop := fun xs H Q => ∃ (a : Addr) (d : PyData) (S : Str), xs = [.ref a] ∧ Dp K H (.ref a) d ∧ d.showable = true ∧ d.hasDict = false ∧ d.depth ≤ 30 ∧ d.shown.length ≤ sizeLine ∧ d.shown = S ∧ Q (.str S) H
theorem call_repr {X : Cx} (hg : X.A.guards = some []) (hu : X.A.units + 64 < cLine) : CallR X (.builtin "repr") (rRepr X.K) := by
  intro pins s σ H xs us Q I r h
  obtain ⟨a, d, S, rfl, hd, hs, hnd, hdep, hsz, hS, q⟩ := h
  subst hS
  obtain ⟨u, rfl, rx⟩ := vals1 r
  cases (show u = Value.ref a from rx)
  obtain ⟨as, rd⟩ := Dp.reads I d _ _ hd rfl
  refine repr_of_reads' rd hs (fun z => by rw [hnd] at z; cases z) hg (by omega) (fun _ _ e => e) (fun h' u tk hk => ?_) hsz
  exact ⟨.str d.shown, H, I.kept hk, ⟨_, rfl⟩, q⟩
/-! ### data that can be shown -/
structure RO (k w : Nat) (d : PyData) : Prop where
  sh : d.showable = true
  nd : d.hasDict = false
  dp : d.depth ≤ k
  lv : d.leavesShort 13 = true
  wt : d.weight ≤ w
theorem RO.none {w : Nat} : RO 0 w .none := ⟨rfl, rfl, Nat.le_refl _, rfl, Nat.zero_le _⟩
theorem RO.bool {w : Nat} (b : Bool) : RO 0 w (.bool b) := ⟨rfl, rfl, Nat.le_refl _, rfl, Nat.zero_le _⟩
theorem RO.int {i : Int} (h1 : -999999999999 ≤ i) (h2 : i ≤ 999999999999) : RO 0 41 (.int i) := by
  have hl : i.natAbs.log2 < 41 := by
    rcases Nat.eq_zero_or_pos i.natAbs with e | e
    · rw [e]
      decide
    · exact (Nat.log2_lt (by omega)).mpr (Nat.lt_of_le_of_lt (show i.natAbs ≤ 999999999999 by omega) (by decide))
  refine ⟨decide_eq_true (by omega), rfl, Nat.le_refl _, decide_eq_true (PyData.shown_int_le2 h1 h2), ?_⟩
  show (if i == 0 then 0 else i.natAbs.log2 + 1) ≤ 41
  split <;> omega
theorem RO.more {k w k' w' : Nat} {d : PyData} (h : RO k w d) (h1 : k ≤ k') (h2 : w ≤ w') : RO k' w' d := ⟨h.sh, h.nd, Nat.le_trans h.dp h1, h.lv, Nat.le_trans h.wt h2⟩
theorem ro_all {k w : Nat} : ∀ {ds : List PyData}, (∀ e ∈ ds, RO k w e) → PyData.showableAll ds = true ∧ PyData.hasDictAll ds = false ∧ PyData.depthAll ds ≤ k ∧ PyData.leavesShortAll 13 ds = true ∧ PyData.weightAll ds ≤ ds.length * (w + 1)
  | [], _ => ⟨rfl, rfl, Nat.zero_le _, rfl, Nat.zero_le _⟩
  | d :: t, h => by
    obtain ⟨a, b, c, e, f⟩ := ro_all (ds := t) fun x hx => h x (List.mem_cons_of_mem _ hx)
    have h1 := h d (List.mem_cons_self ..)
    refine ⟨?_, ?_, ?_, ?_, ?_⟩
    · show (d.showable && PyData.showableAll t) = true
      rw [h1.sh, a]
      rfl
    · show (d.hasDict || PyData.hasDictAll t) = false
      rw [h1.nd, b]
      rfl
    · show max d.depth (PyData.depthAll t) ≤ k
      exact Nat.max_le.mpr ⟨h1.dp, c⟩
    · show (d.leavesShort 13 && PyData.leavesShortAll 13 t) = true
      rw [h1.lv, e]
      rfl
    · show d.weight + 1 + PyData.weightAll t ≤ (t.length + 1) * (w + 1)
      have := h1.wt
      rw [Nat.add_mul, Nat.one_mul]
      omega
theorem RO.tup {k w n : Nat} {ds : List PyData} (h : ∀ e ∈ ds, RO k w e) (hn : ds.length * (w + 1) ≤ n) : RO (k + 1) n (.tuple ds) := by
  obtain ⟨a, b, c, e, f⟩ := ro_all h
  exact ⟨a, b, Nat.succ_le_succ c, e, Nat.le_trans f hn⟩
theorem RO.lst {k w n : Nat} {ds : List PyData} (h : ∀ e ∈ ds, RO k w e) (hn : ds.length * (w + 1) ≤ n) : RO (k + 1) n (.list ds) := by
  obtain ⟨a, b, c, e, f⟩ := ro_all h
  exact ⟨a, b, Nat.succ_le_succ c, e, Nat.le_trans f hn⟩
theorem RO.fits {k w : Nat} {d : PyData} (h : RO k w d) (hw : w ≤ 1000000) : d.shown.length ≤ sizeLine := by
  have := PyData.shown_le 13 (by decide) d h.lv
  have := h.wt
  have e : sizeLine = 16777216 := by decide
  omega
/-! ### windows and places as data -/
theorem dpAll_of {K : PySem.W.Frag} {H : Hp} {β : Type} {R : V → β → Prop} {f : β → PyData} (h : ∀ v m, R v m → Dp K H v (f m)) : ∀ {vs : List V} {ms : List β}, Paired R vs ms → DpAll K H vs (ms.map f)
  | _, _, .nil => .nil
  | _, _, .cons r t => .cons (h _ _ r) (dpAll_of h t)
def rwD (r : RW) : PyData := .tuple [.int r.1, .int r.2]
def plD (p : RW × RW) : PyData := .tuple [rwD p.1, rwD p.2]
def mvD (m : MV) : PyData := .tuple [.int m.1, .int m.2.1, .int m.2.2]
def winD (x y : Int) (ms : List MV) : PyData := .tuple [.int x, .int y, .tuple (ms.map mvD)]
theorem RowAt.dp {K : PySem.W.Frag} {H : Hp} {v : V} {r : RW} : RowAt K H v r → Dp K H v (rwD r) := by
  rintro ⟨p, rfl, h⟩
  exact .tup h (.cons (.int _) (.cons (.int _) .nil))
theorem PlAt.dp {K : PySem.W.Frag} {H : Hp} {v : V} {p : RW × RW} : PlAt K H v p → Dp K H v (plD p) := by
  rintro ⟨a, v1, v2, rfl, h, r1, r2⟩
  exact .tup h (.cons r1.dp (.cons r2.dp .nil))
theorem MoveAt.dp {K : PySem.W.Frag} {H : Hp} {v : V} {m : MV} : MoveAt K H v m → Dp K H v (mvD m) := by
  rintro ⟨p, rfl, h⟩
  exact .tup h (.cons (.int _) (.cons (.int _) (.cons (.int _) .nil)))
theorem WinAt.dp {K : PySem.W.Frag} {H : Hp} {v : V} {x y : Int} {ms : List MV} : WinAt K H v x y ms → Dp K H v (winD x y ms) := by
  rintro ⟨p, mv, rfl, h, pm, vs, rfl, hq, pd⟩
  exact .tup h (.cons (.int _) (.cons (.int _) (.cons (.tup hq (dpAll_of (f := mvD) (fun _ _ h => MoveAt.dp h) pd)) .nil)))
theorem mem3 {α : Type} {a b c e : α} (h : e ∈ [a, b, c]) : e = a ∨ e = b ∨ e = c := by
  simpa using h
theorem mvD_ro {m : MV} (h : VMove m) : RO 1 126 (mvD m) := by
  obtain ⟨h1, h2, h3, h4⟩ := h
  refine RO.tup (k := 0) (w := 41) (fun e he => ?_) (by show 3 * 42 ≤ 126; decide)
  rcases mem3 he with rfl | rfl | rfl <;> exact RO.int (by omega) (by omega)
theorem winD_ro {x y : Int} {ms : List MV} (h : VWin x y ms) : RO 3 3051 (winD x y ms) := by
  obtain ⟨h1, h2, h3, h4⟩ := h
  refine RO.tup (k := 2) (w := 1016) (fun e he => ?_) (by show 3 * 1017 ≤ 3051; decide)
  rcases mem3 he with rfl | rfl | rfl
  · exact (RO.int (by omega) (by omega)).more (by omega) (by omega)
  · exact (RO.int (by omega) (by omega)).more (by omega) (by omega)
  · refine RO.tup (k := 1) (w := 126) (fun e he => ?_) ?_
    · obtain ⟨m, hm, rfl⟩ := List.mem_map.mp he
      exact mvD_ro (h4 m hm)
    · rw [List.length_map]
      omega
theorem ro_args {k w : Nat} {d : PyData} (h : RO k w d) (hk : k ≤ 30) (hw : w ≤ 1000000) : d.showable = true ∧ d.hasDict = false ∧ d.depth ≤ 30 ∧ d.shown.length ≤ sizeLine := ⟨h.sh, h.nd, Nat.le_trans h.dp hk, h.fits hw⟩
theorem fl_int (i : Int) : flD (.int i) := .inr (.inr ⟨i, rfl⟩)
theorem dOk_rw (r : RW) : dOk 1 (rwD r) := by
  refine .inr ⟨_, .inr rfl, (by show 2 ≤ 1000; decide), fun e he => ?_⟩
  rcases List.mem_cons.mp he with rfl | he
  · exact fl_int _
  · rw [List.mem_singleton.mp he]
    exact fl_int _
theorem dOk_pl (p : RW × RW) : dOk 2 (plD p) := by
  refine .inr ⟨_, .inr rfl, (by show 2 ≤ 1000; decide), fun e he => ?_⟩
  rcases List.mem_cons.mp he with rfl | he
  · exact dOk_rw _
  · rw [List.mem_singleton.mp he]
    exact dOk_rw _
/-! ### layers, sheets, pictures as data -/
def bkD : Option Int → PyData
  | none => .none
  | some i => .int i
def lyD (l : LY) : PyData := .tuple [.tuple (l.1.map rwD), bkD l.2]
def shD (ls : List LY) (x y : Int) (ms : List MV) : PyData := .tuple [.tuple (ls.map lyD), winD x y ms]
def picD (c : PIC) : PyData := .tuple [.tuple (c.1.map .int), plD c.2]
theorem bkD_dp {K : PySem.W.Frag} {H : Hp} (o : Option Int) : Dp K H (bkV o) (bkD o) := by
  cases o with
  | none => exact .non
  | some i => exact .int i
theorem LyAt.dp {K : PySem.W.Frag} {H : Hp} {v : V} {l : LY} : LyAt K H v l → Dp K H v (lyD l) := by
  rintro ⟨p, rv, rfl, h, pr, vs, rfl, hq, pd⟩
  exact .tup h (.cons (.tup hq (dpAll_of (f := rwD) (fun _ _ h => RowAt.dp h) pd)) (.cons (bkD_dp _) .nil))
theorem ShAt.dp {K : PySem.W.Frag} {H : Hp} {v : V} {ls : List LY} {x y : Int} {ms : List MV} : ShAt K H v ls x y ms → Dp K H v (shD ls x y ms) := by
  rintro ⟨p, lv, wv, rfl, h, ⟨pl, vs, rfl, hq, pd⟩, hw⟩
  exact .tup h (.cons (.tup hq (dpAll_of (f := lyD) (fun _ _ h => LyAt.dp h) pd)) (.cons hw.dp .nil))
theorem ints_dp {K : PySem.W.Frag} {H : Hp} : ∀ ns : List Int, DpAll K H (ns.map V.int) (ns.map .int)
  | [] => .nil
  | n :: r => .cons (.int n) (ints_dp r)
theorem PicAt.dp {K : PySem.W.Frag} {H : Hp} {v : V} {c : PIC} : PicAt K H v c → Dp K H v (picD c) := by
  rintro ⟨a, b, v2, rfl, h, h1, h2⟩
  exact .tup h (.cons (.tup h1 (ints_dp _)) (.cons h2.dp .nil))
theorem mem2 {α : Type} {a b e : α} (h : e ∈ [a, b]) : e = a ∨ e = b := by
  simpa using h
theorem rwD_ro {r : RW} (h : VRow r) : RO 1 84 (rwD r) := by
  obtain ⟨h1, h2, h3, h4⟩ := h
  refine RO.tup (k := 0) (w := 41) (fun e he => ?_) (by show 2 * 42 ≤ 84; decide)
  rcases mem2 he with rfl | rfl <;> exact RO.int (by omega) (by omega)
theorem lyD_ro {l : LY} (h : VLy l) : RO 3 1362 (lyD l) := by
  obtain ⟨⟨h8, hr⟩, hb⟩ := h
  refine RO.tup (k := 2) (w := 680) (fun e he => ?_) (by show 2 * 681 ≤ 1362; decide)
  rcases mem2 he with rfl | rfl
  · refine RO.tup (k := 1) (w := 84) (fun e he => ?_) ?_
    · obtain ⟨r, hm, rfl⟩ := List.mem_map.mp he
      exact rwD_ro (hr r hm)
    · rw [List.length_map]
      omega
  · cases e : l.2 with
    | none => exact RO.none.more (by omega) (Nat.le_refl _)
    | some i =>
      have := hb i e
      exact (RO.int (by omega) (by omega)).more (by omega) (by omega)
theorem shD_ro {ls : List LY} {x y : Int} {ms : List MV} (h : VLays ls) (hw : VWin x y ms) : RO 5 10906 (shD ls x y ms) := by
  obtain ⟨h1, h4, hl⟩ := h
  refine RO.tup (k := 4) (w := 5452) (fun e he => ?_) (by show 2 * 5453 ≤ 10906; decide)
  rcases mem2 he with rfl | rfl
  · refine RO.tup (k := 3) (w := 1362) (fun e he => ?_) ?_
    · obtain ⟨l, hm, rfl⟩ := List.mem_map.mp he
      exact lyD_ro (hl l hm)
    · rw [List.length_map]
      omega
  · exact (winD_ro hw).more (by omega) (by omega)
theorem dOk_up : ∀ {n : Nat} {d : PyData}, dOk n d → dOk (n + 1) d
  | 0, _, h => .inl h
  | n + 1, _, .inl h => .inl h
  | n + 1, _, .inr ⟨ds, h1, h2, h3⟩ => .inr ⟨ds, h1, h2, fun e he => dOk_up (h3 e he)⟩
theorem dOk_pic {c : PIC} (h : c.1.length ≤ 1000) : dOk 3 (picD c) := by
  refine .inr ⟨_, .inr rfl, (by show 2 ≤ 1000; decide), fun e he => ?_⟩
  rcases mem2 he with rfl | rfl
  · refine dOk_up (n := 1) (.inr ⟨_, .inr rfl, by rw [List.length_map]; exact h, fun e he => ?_⟩)
    obtain ⟨i, _, rfl⟩ := List.mem_map.mp he
    exact fl_int i
  · exact dOk_pl _
theorem dOk_pics {cs : List PIC} (h : cs.length ≤ 1000) (hc : ∀ c ∈ cs, c.1.length ≤ 1000) : dOk 4 (.list (cs.map picD)) := by
  refine .inr ⟨_, .inl rfl, by rw [List.length_map]; exact h, fun e he => ?_⟩
  obtain ⟨c, hm, rfl⟩ := List.mem_map.mp he
  exact dOk_pic (hc c hm)
theorem lcmap_list {K : PySem.W.Frag} {a : Addr} {xs : List V} {g : TG} {tt : TT} {te : TE} {vs : List Nat} {σ : L2.St} {H1 : Hp} {D : Addr} {Qd : Hp → Prop} (ys : List V) (hl : ys.length = xs.length) (hz : xs.length ≤ 1000) (hS : SqL K H1 a xs) (hD : H1 D = none)
    (hs : ∀ (i : Nat) (x y : V) (H : Hp) (R : V → Hp → Prop) (Z : Hp → Prop), xs[i]? = some x → ys[i]? = some y → Same H1 H → (∀ H4, Same H H4 → R y H4) → g x (wipe σ vs) H fun σ2 H2 => wipe σ2 vs = wipe σ vs ∧ tt σ2 H2 fun b H3 => if b = true then te σ2 H3 R else Z H3)
    (hd : ∀ H, Same H1 H → H D = some (.lst ys) → Qd H) :
    ∃ W : Nat → Nat → Hp → Prop, (∃ m, W 0 m (upd H1 D (.lst []))) ∧ ∀ i m H, W i m H →
      ((Itl K a).stop i H ∧ Qd H) ∨ ((Itl K a).go i H ∧ ∃ Nx : Hp → Prop, (∀ H', Nx H' → ∃ m', m' < m ∧ W (i + 1) m' H') ∧ ∀ x H', (Itl K a).yld i H x H' → g x (wipe σ vs) H' fun σ2 H2 => wipe σ2 vs = wipe σ vs ∧ tt σ2 H2 fun b H3 =>
        if b = true then te σ2 H3 fun y H4 => ∃ acc, H4 D = some (.lst acc) ∧ acc.length < sizeLine ∧ Nx (upd H4 D (.lst (acc ++ [y]))) else Nx H3) := by
  refine lc_list (K := K) (a := a) (xs := xs) (fun i H => Same H1 H ∧ H D = some (.lst (ys.take i))) ⟨same_upd hD, upd_same⟩ (fun i H _ p => p.1.seq hS) (fun i x H hx p => ?_) (fun H p => ?_)
  · have hi : i < xs.length := (List.getElem?_eq_some_iff.mp hx).1
    obtain ⟨y, hy⟩ : ∃ y, ys[i]? = some y := ⟨_, List.getElem?_eq_getElem (by omega)⟩
    refine hs i x y H _ _ hx hy p.1 (fun H4 s4 => ⟨ys.take i, s4 _ _ p.2, ?_, ?_, ?_⟩)
    · rw [List.length_take]
      exact Nat.lt_of_le_of_lt (Nat.min_le_left _ _) (small1000 (by omega))
    · intro b o e
      rw [upd_ne (ne_of_none e hD)]
      exact s4 _ _ (p.1 _ _ e)
    · rw [upd_same, List.take_add_one, hy]
      rfl
  · refine hd H p.1 ?_
    rw [p.2, List.take_of_length_le (by omega)]
/-! ### laying -/
def rnd (rs : List RW) : Option Int → Int
  | none => 0
  | some b => tot (rs.drop b.toNat)
def lays (rs : List RW) (bk : Option Int) (n : Nat) : List V := (List.range n).map fun i => V.int (shown rs bk (i : Nat))
theorem lays_at {rs : List RW} {bk : Option Int} {n i : Nat} (h : i < n) : (lays rs bk n)[i]? = some (.int (shown rs bk (i : Nat))) := by
  unfold lays
  rw [List.getElem?_map, List.getElem?_range h]
  rfl
theorem lays_len (rs : List RW) (bk : Option Int) (n : Nat) : (lays rs bk n).length = n := by
  unfold lays
  rw [List.length_map, List.length_range]
theorem lays_of {rs : List RW} {bk : Option Int} {n : Nat} {fs : List Int} (hl : n ≤ fs.length) (h : ∀ i, i < fs.length → fs[i]? = some (shown rs bk (i : Nat))) : (fs.map V.int).take n = lays rs bk n := by
  apply List.ext_getElem?
  intro i
  by_cases hi : i < n
  · rw [lays_at hi, List.getElem?_take_of_lt hi, List.getElem?_map, h i (by omega)]
    rfl
  · rw [List.getElem?_eq_none (by rw [List.length_take]; omega), List.getElem?_eq_none (by rw [lays_len]; omega)]
/-! ### laid out, row by row -/
/-- a walk over J: Body tells what is asked of a turn, Qd what is asked at the end -/
abbrev Goes (J : It) (Body : V → Hp → (Hp → Prop) → Prop) (Hs : Hp) (Qd : Hp → Prop) : Prop :=
  ∃ W : Nat → Nat → Hp → Prop, (∃ m, W 0 m Hs) ∧ ∀ i m H, W i m H →
    (J.stop i H ∧ Qd H) ∨ (J.go i H ∧ ∃ Nx : Hp → Prop, (∀ H', Nx H' → ∃ m', m' < m ∧ W (i + 1) m' H') ∧ ∀ x H', J.yld i H x H' → Body x H' Nx)
/-- n turns: Pv i stands when i of them are done -/
theorem goes_by {J : It} {n : Nat} {Body : V → Hp → (Hp → Prop) → Prop} {Hs : Hp} {Qd : Hp → Prop} (Pv : Nat → Hp → Prop) (h0 : Pv 0 Hs) (last : ∀ H, Pv n H → J.stop n H ∧ Qd H)
    (turn : ∀ i H, i < n → Pv i H → J.go i H ∧ ∀ x H', J.yld i H x H' → Body x H' (Pv (i + 1))) : Goes J Body Hs Qd := by
  refine ⟨fun done left H => done + left = n ∧ Pv done H, ⟨n, Nat.zero_add n, h0⟩, fun i left H here => ?_⟩
  cases left with
  | zero =>
    obtain ⟨rfl, p⟩ := here
    exact .inl (last H p)
  | succ less =>
    have now := turn i H (by have := here.1; omega) here.2
    exact .inr ⟨now.1, Pv (i + 1), fun H' p => ⟨less, Nat.lt_succ_self less, by have := here.1; omega, p⟩, now.2⟩
theorem wk_tup {K : PySem.W.Frag} {a : Addr} {xs : List V} {Body : V → Hp → (Hp → Prop) → Prop} {Hs : Hp} {Qd : Hp → Prop} (Pv : Nat → Hp → Prop) (h0 : Pv 0 Hs) (hl : ∀ i H, i ≤ xs.length → Pv i H → SqT K H a xs)
    (hs : ∀ i x H, xs[i]? = some x → Pv i H → Body x H (Pv (i + 1))) (hd : ∀ H, Pv xs.length H → Qd H) : Goes (Itt K a) Body Hs Qd :=
  goes_by (n := xs.length) Pv h0 (fun H p => ⟨⟨xs, hl _ H (Nat.le_refl _) p, Nat.le_refl _⟩, hd H p⟩) fun i H lt p =>
    have stays := hl i H (Nat.le_of_lt lt) p
    ⟨⟨xs, _, stays, List.getElem?_eq_getElem lt⟩, fun x _ y => y.1 ▸ hs i x H (y.2 xs stays) p⟩
theorem wk_list {K : PySem.W.Frag} {a : Addr} {xs : List V} {Body : V → Hp → (Hp → Prop) → Prop} {Hs : Hp} {Qd : Hp → Prop} (Pv : Nat → Hp → Prop) (h0 : Pv 0 Hs) (hl : ∀ i H, i ≤ xs.length → Pv i H → SqL K H a xs)
    (hs : ∀ i x H, xs[i]? = some x → Pv i H → Body x H (Pv (i + 1))) (hd : ∀ H, Pv xs.length H → Qd H) : Goes (Itl K a) Body Hs Qd :=
  goes_by (n := xs.length) Pv h0 (fun H p => ⟨⟨xs, hl _ H (Nat.le_refl _) p, Nat.le_refl _⟩, hd H p⟩) fun i H lt p =>
    have stays := hl i H (Nat.le_of_lt lt) p
    ⟨⟨xs, _, stays, List.getElem?_eq_getElem lt⟩, fun x _ y => y.1 ▸ hs i x H (y.2 xs stays) p⟩
theorem wk_range {lo : Int} {n : Nat} {Body : V → Hp → (Hp → Prop) → Prop} {Hs : Hp} {Qd : Hp → Prop} (Pv : Nat → Hp → Prop) (h0 : Pv 0 Hs)
    (hs : ∀ i H, i < n → Pv i H → Body (.int (lo + i)) H (Pv (i + 1))) (hd : ∀ H, Pv n H → Qd H) : Goes (Itr lo n) Body Hs Qd :=
  goes_by Pv h0 (fun H p => ⟨Nat.le_refl n, hd H p⟩) fun i H lt p => ⟨lt, fun _ _ y => y.1 ▸ y.2 ▸ hs i H lt p⟩
theorem yes_ok2 {σ : L2.St} {H : Hp} {X Z : Hp → Prop} (h : X H) : tYes σ H (fun b H3 => if b = true then X H3 else Z H3) := by
  show if true = true then X H else Z H
  rw [if_pos rfl]
  exact h
def dwg : List RW → List Int
  | [] => []
  | r :: t => List.replicate r.2.toNat r.1 ++ dwg t
theorem dwg_append (a b : List RW) : dwg (a ++ b) = dwg a ++ dwg b := by
  induction a with
  | nil => rfl
  | cons r t ih => rw [List.cons_append, dwg, dwg, ih, List.append_assoc]
theorem dwg_len : ∀ {rs : List RW}, (∀ r ∈ rs, VRow r) → ((dwg rs).length : Int) = tot rs
  | [], _ => rfl
  | r :: t, v => by
    have v1 := v r (List.mem_cons_self ..)
    have ih := dwg_len (rs := t) fun q hq => v q (List.mem_cons_of_mem _ hq)
    rw [dwg, List.length_append, List.length_replicate, tot_cons]
    obtain ⟨_, _, h3, _⟩ := v1
    omega
theorem dwg_at : ∀ {rs : List RW} {i : Nat}, (∀ r ∈ rs, VRow r) → (i : Int) < tot rs → (dwg rs)[i]? = some (walk rs i)
  | [], i, _, h => by
    rw [tot_nil] at h
    omega
  | r :: t, i, v, h => by
    have v1 := v r (List.mem_cons_self ..)
    have vt : ∀ q ∈ t, VRow q := fun q hq => v q (List.mem_cons_of_mem _ hq)
    obtain ⟨_, _, h3, _⟩ := v1
    rw [tot_cons] at h
    rw [dwg]
    unfold walk
    by_cases c : (i : Int) < r.2
    · rw [if_pos c, List.getElem?_append_left (by rw [List.length_replicate]; omega), List.getElem?_replicate, if_pos (by omega)]
    · rw [if_neg c, List.getElem?_append_right (by rw [List.length_replicate]; omega), List.length_replicate]
      have := dwg_at (rs := t) (i := i - r.2.toNat) vt (by omega)
      rw [this]
      congr 2
      omega
theorem walk_cons (r : RW) (t : List RW) (m : Int) : walk (r :: t) m = if m < r.2 then r.1 else walk t (m - r.2) := rfl
theorem walk_append : ∀ {a b : List RW} {m : Int}, (∀ r ∈ a, VRow r) → 0 ≤ m → walk (a ++ b) m = if m < tot a then walk a m else walk b (m - tot a)
  | [], b, m, _, h => by
    rw [tot_nil, if_neg (by omega), List.nil_append, show m - 0 = m by omega]
  | r :: t, b, m, v, h => by
    have v1 := v r (List.mem_cons_self ..)
    have vt : ∀ q ∈ t, VRow q := fun q hq => v q (List.mem_cons_of_mem _ hq)
    have t0 := (tot_nonneg vt).1
    obtain ⟨_, _, h3, _⟩ := v1
    rw [List.cons_append, tot_cons, walk_cons, walk_cons]
    by_cases c : m < r.2
    · rw [if_pos c, if_pos (by omega), if_pos c]
    · rw [if_neg c, walk_append vt (by omega), if_neg c]
      by_cases d : m < r.2 + tot t
      · rw [if_pos d, if_pos (by omega)]
      · rw [if_neg d, if_neg (by omega), show m - r.2 - tot t = m - (r.2 + tot t) by omega]
theorem rep_at {α : Type} {B : List α} (hB : 0 < B.length) : ∀ (t j : Nat), j < t * B.length → (List.replicate t B).flatten[j]? = B[j % B.length]?
  | 0, j, h => by omega
  | t + 1, j, h => by
    rw [List.replicate_succ, List.flatten_cons]
    by_cases c : j < B.length
    · rw [List.getElem?_append_left c, Nat.mod_eq_of_lt c]
    · rw [List.getElem?_append_right (by omega), rep_at hB t (j - B.length) (by rw [Nat.add_mul, Nat.one_mul] at h; omega), ← Nat.mod_eq_sub_mod (by omega)]
/-- what a layer shows: ahead once, around again and again -/
def ahL (rs : List RW) : Option Int → List Int
  | none => dwg rs
  | some b => dwg (rs.take b.toNat)
def arL (rs : List RW) : Option Int → List Int
  | none => [0]
  | some b => dwg (rs.drop b.toNat)
theorem VRows.takeV {rs : List RW} (v : VRows rs) (k : Nat) : VRows (rs.take k) := ⟨by rw [List.length_take]; have := v.1; omega, fun r hr => v.2 r (List.mem_of_mem_take hr)⟩
theorem VRows.dropV {rs : List RW} (v : VRows rs) (k : Nat) : VRows (rs.drop k) := ⟨by rw [List.length_drop]; have := v.1; omega, fun r hr => v.2 r (List.mem_of_mem_drop hr)⟩
theorem ahL_len {rs : List RW} {bk : Option Int} (v : VRows rs) : (ahL rs bk).length ≤ 192 := by
  cases bk with
  | none =>
    have h := dwg_len v.2
    have t := (tot_nonneg v.2).2
    have := v.1
    show (dwg rs).length ≤ 192
    omega
  | some b =>
    have h := dwg_len (v.takeV b.toNat).2
    have t := (tot_nonneg (v.takeV b.toNat).2).2
    have := (v.takeV b.toNat).1
    show (dwg (rs.take b.toNat)).length ≤ 192
    omega
theorem arL_len {rs : List RW} {bk : Option Int} (v : VRows rs) (vb : VBack rs bk) : 1 ≤ (arL rs bk).length ∧ (arL rs bk).length ≤ 192 := by
  cases bk with
  | none => exact ⟨Nat.le_refl _, by show 1 ≤ 192; omega⟩
  | some b =>
    have hb := vb b rfl
    have h := dwg_len (v.dropV b.toNat).2
    have t := tot_nonneg (v.dropV b.toNat).2
    have := v.1
    rw [List.length_drop] at t
    show 1 ≤ (dwg (rs.drop b.toNat)).length ∧ (dwg (rs.drop b.toNat)).length ≤ 192
    omega
theorem shown_lay {rs : List RW} {bk : Option Int} (v : VRows rs) (vb : VBack rs bk) (i : Nat) :
    some (shown rs bk i) = if i < (ahL rs bk).length then (ahL rs bk)[i]? else (arL rs bk)[(i - (ahL rs bk).length) % (arL rs bk).length]? := by
  cases bk with
  | none =>
    have h := dwg_len v.2
    show some (walk rs i) = if i < (dwg rs).length then (dwg rs)[i]? else ([0] : List Int)[(i - (dwg rs).length) % 1]?
    by_cases c : i < (dwg rs).length
    · rw [if_pos c, dwg_at v.2 (by omega)]
    · rw [if_neg c, walk_out rs i (by omega) v.2, Nat.mod_one]
      rfl
  | some b =>
    have hb := vb b rfl
    have h := dwg_len (v.takeV b.toNat).2
    have h2 := dwg_len (v.dropV b.toNat).2
    have t2 := (tot_nonneg (v.dropV b.toNat).2).1
    rw [List.length_drop] at t2
    have cpos : 0 < tot (rs.drop b.toNat) := by omega
    show some (walk rs (if (i : Int) < tot (rs.take b.toNat) then (i : Int) else tot (rs.take b.toNat) + ((i : Int) - tot (rs.take b.toNat)) % tot (rs.drop b.toNat))) = if i < (dwg (rs.take b.toNat)).length then (dwg (rs.take b.toNat))[i]? else (dwg (rs.drop b.toNat))[(i - (dwg (rs.take b.toNat)).length) % (dwg (rs.drop b.toNat)).length]?
    have wa := fun m h0 => walk_append (a := rs.take b.toNat) (b := rs.drop b.toNat) (m := m) (v.takeV b.toNat).2 h0
    rw [List.take_append_drop] at wa
    by_cases c : i < (dwg (rs.take b.toNat)).length
    · rw [if_pos c, if_pos (by omega), wa _ (by omega), if_pos (by omega), dwg_at (v.takeV b.toNat).2 (by omega)]
    · have m0 := Int.emod_nonneg ((i : Int) - tot (rs.take b.toNat)) (show tot (rs.drop b.toNat) ≠ 0 by omega)
      have m1 := Int.emod_lt_of_pos ((i : Int) - tot (rs.take b.toNat)) cpos
      have t1 := (tot_nonneg (v.takeV b.toNat).2).1
      have em : (((i - (dwg (rs.take b.toNat)).length) % (dwg (rs.drop b.toNat)).length : Nat) : Int) = ((i : Int) - tot (rs.take b.toNat)) % tot (rs.drop b.toNat) := by
        rw [Int.natCast_emod, h2, Int.natCast_sub (by omega), h]
      rw [if_neg c, if_neg (by omega), wa _ (by omega), if_neg (by omega), dwg_at (v.dropV b.toNat).2 (by omega), em]
      congr 2
      omega
def laysI (rs : List RW) (bk : Option Int) (n : Nat) : List Int := (List.range n).map fun i => shown rs bk (i : Nat)
theorem laysI_map (rs : List RW) (bk : Option Int) (n : Nat) : lays rs bk n = (laysI rs bk n).map V.int := by
  unfold lays laysI
  rw [List.map_map]
  rfl
theorem first_lay {rs : List RW} {bk : Option Int} (v : VRows rs) (vb : VBack rs bk) {n t : Nat} (ht : n ≤ (ahL rs bk).length + t * (arL rs bk).length) :
    ((ahL rs bk) ++ (List.replicate t (arL rs bk)).flatten).take n = laysI rs bk n := by
  have hp := (arL_len v vb).1
  apply List.ext_getElem?
  intro i
  unfold laysI
  by_cases hi : i < n
  · rw [List.getElem?_take_of_lt hi, List.getElem?_map, List.getElem?_range hi]
    show _ = some (shown rs bk (i : Nat))
    rw [shown_lay v vb]
    by_cases c : i < (ahL rs bk).length
    · rw [if_pos c, List.getElem?_append_left c]
    · rw [if_neg c, List.getElem?_append_right (by omega), rep_at (by omega) t _ (by omega)]
  · rw [List.getElem?_eq_none (by rw [List.length_take]; omega), List.getElem?_eq_none (by rw [List.length_map, List.length_range]; omega)]
/-! ### data that is compared -/
mutual
def nb : PyData → Bool
  | .none => true
  | .int _ => true
  | .str x => PyData.strOk x
  | .bool _ => false
  | .list xs => nbs xs
  | .tuple xs => nbs xs
  | .dict _ => false
def nbs : List PyData → Bool
  | [] => true
  | x :: xs => nb x && nbs xs
end
theorem nbs_all : ∀ {xs : List PyData}, (∀ x ∈ xs, nb x = true) → nbs xs = true
  | [], _ => rfl
  | x :: xs, h => by
    show (nb x && nbs xs) = true
    rw [h x (List.mem_cons_self ..), nbs_all fun y hy => h y (List.mem_cons_of_mem _ hy)]
    rfl
mutual
theorem nb_can : ∀ d : PyData, nb d = true → d.canLay0 = true
  | .none, _ => rfl
  | .int _, _ => rfl
  | .str x, h => h
  | .bool _, h => nomatch h
  | .list xs, h => nbs_can xs h
  | .tuple xs, h => nbs_can xs h
  | .dict _, h => nomatch h
theorem nbs_can : ∀ xs : List PyData, nbs xs = true → PyData.canLayAll0 xs = true
  | [], _ => rfl
  | x :: xs, h => by
    have h' : (nb x && nbs xs) = true := h
    rw [Bool.and_eq_true] at h'
    show (x.canLay0 && PyData.canLayAll0 xs) = true
    rw [nb_can x h'.1, nbs_can xs h'.2]
    rfl
end
mutual
theorem nb_eq : ∀ d e : PyData, nb d = true → nb e = true → (PyData.eqv d e = true → d = e)
  | .none, e, _, h => by cases e <;> first | (intro _; rfl) | (intro z; cases z) | (cases h)
  | .int i, e, _, h => by
    cases e <;> first | (intro z; cases z) | (cases h) | skip
    intro z
    rw [PyData.eqv] at z
    rw [eq_of_beq z]
  | .str x, e, _, h => by
    cases e <;> first | (intro z; cases z) | (cases h) | skip
    intro z
    rw [PyData.eqv] at z
    rw [eq_of_beq z]
  | .bool _, _, h, _ => nomatch h
  | .list xs, e, h0, h => by
    cases e <;> first | (intro z; cases z) | (cases h) | skip
    intro z
    rw [PyData.eqv] at z
    rw [nbs_eq xs _ h0 h z]
  | .tuple xs, e, h0, h => by
    cases e <;> first | (intro z; cases z) | (cases h) | skip
    intro z
    rw [PyData.eqv] at z
    rw [nbs_eq xs _ h0 h z]
  | .dict _, _, h, _ => nomatch h
theorem nbs_eq : ∀ xs ys : List PyData, nbs xs = true → nbs ys = true → (PyData.eqvAll xs ys = true → xs = ys)
  | [], [], _, _ => fun _ => rfl
  | [], _ :: _, _, _ => fun z => nomatch z
  | _ :: _, [], _, _ => fun z => nomatch z
  | x :: xs, y :: ys, h0, h => by
    intro z
    have h0' : (nb x && nbs xs) = true := h0
    have h' : (nb y && nbs ys) = true := h
    rw [Bool.and_eq_true] at h0' h'
    rw [PyData.eqvAll, Bool.and_eq_true] at z
    rw [nb_eq x y h0'.1 h'.1 z.1, nbs_eq xs ys h0'.2 h'.2 z.2]
end
theorem nb_eqv {d e : PyData} (h0 : nb d = true) (h : nb e = true) : PyData.eqv d e = true ↔ d = e :=
  ⟨nb_eq d e h0 h, fun z => by rw [z]; exact SeqAt.eqv_refl e (nb_can e h)⟩
/-- may be compared: depth at most k -/
structure Sd (k : Nat) (d : PyData) : Prop where
  nb : nb d = true
  dp : d.depth ≤ k
theorem Sd.int {k : Nat} (i : Int) : Sd k (.int i) := ⟨rfl, Nat.zero_le _⟩
theorem Sd.none {k : Nat} : Sd k .none := ⟨rfl, Nat.zero_le _⟩
theorem Sd.more {k k' : Nat} {d : PyData} (h : Sd k d) (h1 : k ≤ k') : Sd k' d := ⟨h.nb, Nat.le_trans h.dp h1⟩
theorem sd_all {k : Nat} : ∀ {ds : List PyData}, (∀ e ∈ ds, Sd k e) → PyData.depthAll ds ≤ k
  | [], _ => Nat.zero_le _
  | d :: t, h => Nat.max_le.mpr ⟨(h d (List.mem_cons_self ..)).dp, sd_all fun x hx => h x (List.mem_cons_of_mem _ hx)⟩
theorem Sd.tup {k : Nat} {ds : List PyData} (h : ∀ e ∈ ds, Sd k e) : Sd (k + 1) (.tuple ds) := ⟨nbs_all fun x hx => (h x hx).nb, Nat.succ_le_succ (sd_all h)⟩
theorem Sd.lst {k : Nat} {ds : List PyData} (h : ∀ e ∈ ds, Sd k e) : Sd (k + 1) (.list ds) := ⟨nbs_all fun x hx => (h x hx).nb, Nat.succ_le_succ (sd_all h)⟩
theorem Sd.sh {k : Nat} {d : PyData} (h : Sd k d) (hk : k ≤ 64) : SeqAt.shaped d = true := by
  show (d.canLay0 && decide (d.depth ≤ 64)) = true
  rw [nb_can d h.nb, decide_eq_true (Nat.le_trans h.dp hk)]
  rfl
theorem Sd.ints {ns : List Int} : Sd 1 (.list (ns.map .int)) := Sd.lst fun e he => by
  obtain ⟨i, _, rfl⟩ := List.mem_map.mp he
  exact Sd.int i
theorem Sd.intsT {ns : List Int} : Sd 1 (.tuple (ns.map .int)) := Sd.tup fun e he => by
  obtain ⟨i, _, rfl⟩ := List.mem_map.mp he
  exact Sd.int i
theorem ints_inj {ns ms : List Int} : ns.map PyData.int = ms.map PyData.int ↔ ns = ms :=
  ⟨fun h => List.map_inj_right (fun _ _ e => PyData.int.inj e) |>.mp h, fun h => by rw [h]⟩
theorem eqv_ints (ns ms : List Int) : PyData.eqv (.list (ns.map .int)) (.list (ms.map .int)) = decide (ns = ms) := by
  have h := nb_eqv (Sd.ints (ns := ns)).nb (Sd.ints (ns := ms)).nb
  by_cases e : ns = ms
  · rw [decide_eq_true e]
    exact h.mpr (by rw [e])
  · rw [decide_eq_false e]
    exact Bool.eq_false_iff.mpr fun z => e (ints_inj.mp (PyData.list.inj (h.mp z)))
/-- x != y of data: the readings -/
theorem ne_data {K : PySem.W.Frag} {H : Hp} {x y : V} {d e : PyData} {k : Nat} {Q : VK} (hx : Dp K H x d) (hy : Dp K H y e) (sd : Sd k d) (se : Sd k e) (hk : k ≤ 64) (q : ∀ b : Bool, (b = true ↔ d = e) → Q (.bl (!b)) H) : rNeD K x y H Q :=
  ⟨d, e, hx, hy, sd.sh hk, se.sh hk, q _ (nb_eqv sd.nb se.nb)⟩
theorem ne_same {K : PySem.W.Frag} {H : Hp} {x y : V} {d : PyData} {k : Nat} {Q : VK} (hx : Dp K H x d) (hy : Dp K H y d) (sd : Sd k d) (hk : k ≤ 64) (q : Q (.bl false) H) : rNeD K x y H Q :=
  ⟨d, d, hx, hy, sd.sh hk, sd.sh hk, by rw [(nb_eqv sd.nb sd.nb).mpr rfl]; exact q⟩
theorem eq_data {K : PySem.W.Frag} {H : Hp} {x y : V} {d e : PyData} {k : Nat} {Q : VK} (hx : Dp K H x d) (hy : Dp K H y e) (sd : Sd k d) (se : Sd k e) (hk : k ≤ 64) (q : ∀ b : Bool, (b = true ↔ d = e) → Q (.bl b) H) : rEqD K x y H Q :=
  ⟨d, e, hx, hy, sd.sh hk, se.sh hk, q _ (nb_eqv sd.nb se.nb)⟩
theorem ne_ints {K : PySem.W.Frag} {H : Hp} {x y : Addr} {ns ms : List Int} {Q : VK} (hx : SqL K H x (ns.map V.int)) (hy : SqL K H y (ms.map V.int)) (q : Q (.bl (!decide (ns = ms))) H) : rNeD K (.ref x) (.ref y) H Q :=
  ⟨_, _, .lst hx (ints_dp _), .lst hy (ints_dp _), Sd.ints.sh (by decide), Sd.ints.sh (by decide), by rw [eqv_ints]; exact q⟩
theorem ints_dpl {K : PySem.W.Frag} {H : Hp} {p : Addr} {ns : List Int} (h : SqL K H p (ns.map V.int)) : Dp K H (.ref p) (.list (ns.map .int)) := .lst h (ints_dp _)
theorem while_R {c : TT} {tb : TS} {D : Ends} {σ : L2.St} {H : Hp} (Pv : L2.St → Hp → Prop) (μ : L2.St → Hp → Nat) (h0 : Pv σ H)
    (hs : ∀ σ H, Pv σ H → ∀ R : Bool → Hp → Prop, (∀ H1, tb { D with nx := fun σ' H' => Pv σ' H' ∧ μ σ' H' < μ σ H, ct := fun σ' H' => Pv σ' H' ∧ μ σ' H' < μ σ H, bk := D.nx } σ H1 → R true H1) → (∀ H1, D.nx σ H1 → R false H1) → c σ H R) : tWhile c tb D σ H := by
  refine ⟨fun m σ H => m = μ σ H ∧ Pv σ H, ⟨_, rfl, h0⟩, ?_⟩
  rintro m σ H ⟨rfl, p⟩
  refine hs σ H p _ (fun H1 h => ?_) (fun H1 h => ?_)
  · show if true = true then _ else _
    rw [if_pos rfl]
    exact ⟨_, fun σ' H' ⟨p', l⟩ => ⟨_, l, rfl, p'⟩, h⟩
  · show if false = true then _ else _
    rw [if_neg (by decide)]
    exact h
/-! ### what comes again and again -/
section
variable {f : Nat → Int}
theorem per_mul {A m : Nat} (h : ∀ t, A ≤ t → f (t + m) = f t) : ∀ (k t : Nat), A ≤ t → f (t + m * k) = f t
  | 0, t, _ => by rw [Nat.mul_zero, Nat.add_zero]
  | k + 1, t, ht => by rw [Nat.mul_succ, ← Nat.add_assoc, h _ (by omega), per_mul h k t ht]
theorem per_mod {A m n : Nat} (h : ∀ t, A ≤ t → f (t + m) = f t) (h' : ∀ t, A ≤ t → f (t + n) = f t) : ∀ t, A ≤ t → f (t + n % m) = f t := fun t ht => by
  rw [← per_mul h (n / m) _ (show A ≤ t + n % m by omega), Nat.add_assoc, Nat.mod_add_div, h' t ht]
theorem per_ev {A c m B : Nat} (hc : 1 ≤ c) (hp : ∀ t, A ≤ t → f (t + c) = f t) (h : ∀ t, B ≤ t → f (t + m) = f t) : ∀ t, A ≤ t → f (t + m) = f t := fun t ht => by
  have hb : B ≤ c * B := Nat.le_mul_of_pos_left B hc
  rw [← per_mul hp B t ht, ← h (t + c * B) (by omega), ← per_mul hp B (t + m) (by omega)]
  congr 1
  omega
/-- the least round -/
structure Lst (f : Nat → Int) (a m : Nat) : Prop where
  m1 : 1 ≤ m
  per : ∀ t, a ≤ t → f (t + m) = f t
  dvd : ∀ n B, (∀ t, B ≤ t → f (t + n) = f t) → m ∣ n
  fst : ∀ b, b + 1 = a → f (b + m) ≠ f b
theorem ex_least {A c : Nat} (hc : 1 ≤ c) (hp : ∀ t, A ≤ t → f (t + c) = f t) : ∃ m, 1 ≤ m ∧ m ≤ c ∧ (∀ t, A ≤ t → f (t + m) = f t) ∧ ∀ k, 1 ≤ k → (∀ t, A ≤ t → f (t + k) = f t) → m ≤ k := by
  induction c using Nat.strongRecOn with
  | ind c ih =>
    by_cases h : ∃ k, 1 ≤ k ∧ k < c ∧ ∀ t, A ≤ t → f (t + k) = f t
    · obtain ⟨k, k1, kc, kp⟩ := h
      obtain ⟨m, m1, mk, r⟩ := ih k kc k1 kp
      exact ⟨m, m1, by omega, r⟩
    · refine ⟨c, hc, Nat.le_refl _, hp, fun k k1 kp => ?_⟩
      exact Nat.le_of_not_lt fun z => h ⟨k, k1, z, kp⟩
/-- the least many, then the least ahead -/
theorem lst_of {A c m a : Nat} (hc : 1 ≤ c) (hp : ∀ t, A ≤ t → f (t + c) = f t) (m1 : 1 ≤ m) (hm : ∀ t, A ≤ t → f (t + m) = f t) (least : ∀ k, 1 ≤ k → k < m → c % k = 0 → ¬ ∀ t, A ≤ t → f (t + k) = f t)
    (ha : a ≤ A) (hb : ∀ t, a ≤ t → t < A → f (t + m) = f t) (hf : ∀ b, b + 1 = a → f (b + m) ≠ f b) : Lst f a m := by
  obtain ⟨n, n1, nc, np, nl⟩ := ex_least hc hp
  have div : ∀ k, (∀ t, A ≤ t → f (t + k) = f t) → n ∣ k := fun k kp => by
    apply Nat.dvd_of_mod_eq_zero
    rcases Nat.eq_zero_or_pos (k % n) with z | z
    · exact z
    · have := nl (k % n) z (per_mod np kp)
      have := Nat.mod_lt k (show 0 < n by omega)
      omega
  have e : m = n := by
    have h1 := Nat.le_of_dvd (by omega) (div m hm)
    rcases Nat.lt_or_ge n m with z | z
    · exact absurd np (least n n1 z (Nat.mod_eq_zero_of_dvd (div c hp)))
    · omega
  subst e
  refine ⟨m1, fun t ht => ?_, fun k B h => div k (per_ev hc hp h), hf⟩
  rcases Nat.lt_or_ge t A with z | z
  · exact hb t ht z
  · exact hm t z
theorem Lst.uniq {a m a' m' : Nat} (h : Lst f a m) (h' : Lst f a' m') : a = a' ∧ m = m' := by
  have e : m = m' := Nat.dvd_antisymm (h.dvd m' a' h'.per) (h'.dvd m a h.per)
  subst e
  refine ⟨?_, rfl⟩
  rcases Nat.lt_trichotomy a a' with z | z | z
  · exact absurd (h.per (a' - 1) (by omega)) (h'.fst (a' - 1) (by omega))
  · exact z
  · exact absurd (h'.per (a - 1) (by omega)) (h.fst (a - 1) (by omega))
/-- rounds by the least one -/
theorem Lst.iff {a m : Nat} (h : Lst f a m) (b n : Nat) (n1 : 1 ≤ n) : (∀ t, b ≤ t → f (t + n) = f t) ↔ a ≤ b ∧ m ∣ n := by
  constructor
  · intro hp
    have d := h.dvd n b hp
    refine ⟨?_, d⟩
    rcases Nat.lt_or_ge b a with z | z
    · obtain ⟨k, rfl⟩ := d
      have k1 : 1 ≤ k := by
        rcases Nat.eq_zero_or_pos k with z | z
        · rw [z] at n1
          omega
        · exact z
      exfalso
      refine h.fst (a - 1) (by omega) ?_
      have e := hp (a - 1) (by omega)
      have e2 := per_mul h.per (k - 1) (a - 1 + m) (by have := h.m1; omega)
      rw [show a - 1 + m + m * (k - 1) = a - 1 + m * k by
        obtain ⟨j, rfl⟩ : ∃ j, k = j + 1 := ⟨k - 1, by omega⟩
        rw [Nat.add_sub_cancel, Nat.mul_succ]
        omega, e] at e2
      exact e2.symm
    · exact z
  · rintro ⟨z, k, rfl⟩ t ht
    exact per_mul h.per k t (by omega)
def seg (f : Nat → Int) (A c : Nat) : List Int := (List.range c).map fun j => f (A + j)
theorem seg_len (A c : Nat) : (seg f A c).length = c := by
  unfold seg
  rw [List.length_map, List.length_range]
theorem seg_at {A c i : Nat} (h : i < c) : (seg f A c)[i]? = some (f (A + i)) := by
  unfold seg
  rw [List.getElem?_map, List.getElem?_range h]
  rfl
theorem rot_at {A c m j : Nat} (hp : ∀ t, A ≤ t → f (t + c) = f t) (hm : m ≤ c) (hj : j < c) : ((seg f A c).drop m ++ (seg f A c).take m)[j]? = some (f (A + j + m)) := by
  by_cases h : j < c - m
  · rw [List.getElem?_append_left (by rw [List.length_drop, seg_len]; exact h), List.getElem?_drop, seg_at (by omega)]
    congr 2
    omega
  · rw [List.getElem?_append_right (by rw [List.length_drop, seg_len]; omega), List.length_drop, seg_len, List.getElem?_take_of_lt (by omega), seg_at (by omega), ← hp _ (by omega)]
    congr 2
    omega
theorem rot_iff {A c m : Nat} (hc : 1 ≤ c) (hp : ∀ t, A ≤ t → f (t + c) = f t) (hm : m ≤ c) : (seg f A c).drop m ++ (seg f A c).take m = seg f A c ↔ ∀ t, A ≤ t → f (t + m) = f t := by
  constructor
  · intro h t ht
    have l := Nat.mod_lt (t - A) (show 0 < c by omega)
    have e := rot_at hp hm l
    rw [h, seg_at l] at e
    have e1 := Option.some.inj e
    have q := Nat.mod_add_div (t - A) c
    have e2 := per_mul hp ((t - A) / c) (A + (t - A) % c) (by omega)
    have e3 := per_mul hp ((t - A) / c) (A + (t - A) % c + m) (by omega)
    rw [show A + (t - A) % c + c * ((t - A) / c) = t by omega] at e2
    rw [show A + (t - A) % c + m + c * ((t - A) / c) = t + m by omega] at e3
    rw [e2, e3]
    exact e1.symm
  · intro h
    apply List.ext_getElem?
    intro i
    by_cases hi : i < c
    · rw [rot_at hp hm hi, seg_at hi, h _ (by omega)]
    · rw [List.getElem?_eq_none (by rw [List.length_append, List.length_drop, List.length_take, seg_len]; omega), List.getElem?_eq_none (by rw [seg_len]; omega)]
end
/-- what a layer shows, by the moment -/
def shN (rs : List RW) (bk : Option Int) (t : Nat) : Int := shown rs bk (t : Nat)
theorem shN_per {rs : List RW} {bk : Option Int} (v : VRows rs) (vb : VBack rs bk) : ∀ t, (ahL rs bk).length ≤ t → shN rs bk (t + (arL rs bk).length) = shN rs bk t := fun t ht => by
  have e1 := shown_lay v vb t
  have e2 := shown_lay v vb (t + (arL rs bk).length)
  rw [if_neg (by omega)] at e1 e2
  rw [show t + (arL rs bk).length - (ahL rs bk).length = t - (ahL rs bk).length + (arL rs bk).length by omega, Nat.add_mod_right] at e2
  exact Option.some.inj (e2.trans e1.symm)
theorem arL_seg {rs : List RW} {bk : Option Int} (v : VRows rs) (vb : VBack rs bk) : arL rs bk = seg (shN rs bk) (ahL rs bk).length (arL rs bk).length := by
  apply List.ext_getElem?
  intro i
  by_cases hi : i < (arL rs bk).length
  · rw [seg_at hi]
    show _ = some (shown rs bk (((ahL rs bk).length + i : Nat) : Int))
    rw [shown_lay v vb, if_neg (by omega), Nat.add_sub_cancel_left, Nat.mod_eq_of_lt hi]
  · rw [List.getElem?_eq_none (by omega), List.getElem?_eq_none (by rw [seg_len]; omega)]
theorem aa_at {rs : List RW} {bk : Option Int} (v : VRows rs) (vb : VBack rs bk) {i : Nat} (h : i < (ahL rs bk).length + (arL rs bk).length) : (ahL rs bk ++ arL rs bk)[i]? = some (shN rs bk i) := by
  show _ = some (shown rs bk (i : Nat))
  rw [shown_lay v vb]
  by_cases c : i < (ahL rs bk).length
  · rw [if_pos c, List.getElem?_append_left c]
  · rw [if_neg c, List.getElem?_append_right (by omega), Nat.mod_eq_of_lt (by omega)]
/-! ### helpers of the laws over rounds -/
theorem Paired.appP {α β : Type} {F : α → β → Prop} : ∀ {l₁ m₁ : List α} {l₂ m₂ : List β}, Paired F l₁ l₂ → Paired F m₁ m₂ → Paired F (l₁ ++ m₁) (l₂ ++ m₂)
  | _, _, _, _, .nil, h => h
  | _, _, _, _, .cons r t, h => .cons r (Paired.appP t h)
theorem Paired.repP {α β : Type} {F : α → β → Prop} {l₁ : List α} {l₂ : List β} (h : Paired F l₁ l₂) : ∀ n, Paired F (List.replicate n l₁).flatten (List.replicate n l₂).flatten
  | 0 => .nil
  | n + 1 => by
    rw [List.replicate_succ, List.replicate_succ, List.flatten_cons, List.flatten_cons]
    exact Paired.appP h (Paired.repP h n)
theorem mem_rep {α : Type} {l : List α} {x : α} {n : Nat} (h : x ∈ (List.replicate n l).flatten) : x ∈ l := by
  obtain ⟨m, hm, hx⟩ := List.mem_flatten.mp h
  rw [(List.mem_replicate.mp hm).2] at hx
  exact hx
theorem len_rep {α : Type} {l : List α} {n : Nat} : (List.replicate n l).flatten.length = n * l.length := by
  rw [List.length_flatten, List.map_replicate, List.sum_replicate_nat]
theorem cut_mid {xs : List V} {a b : Nat} (h : a ≤ b) (h2 : b ≤ xs.length) : cutV xs (some (a : Int)) (some (b : Int)) = (xs.drop a).take (b - a) := by
  unfold cutV
  rw [HT.sIx_nat, HT.sIx_nat, Nat.min_eq_left h2, Nat.min_eq_left (show a ≤ xs.length by omega)]
theorem lays_cut {rs : List RW} {bk : Option Int} {n a b : Nat} (h : a ≤ b) (h2 : b ≤ n) : cutV (lays rs bk n) (some (a : Int)) (some (b : Int)) = (seg (shN rs bk) a (b - a)).map V.int := by
  rw [cut_mid h (by rw [lays_len]; exact h2)]
  apply List.ext_getElem?
  intro i
  by_cases hi : i < b - a
  · rw [List.getElem?_take_of_lt hi, List.getElem?_drop, lays_at (by omega), List.getElem?_map, seg_at hi]
    rfl
  · rw [List.getElem?_eq_none (by rw [List.length_take]; omega), List.getElem?_eq_none (by rw [List.length_map, seg_len]; omega)]
theorem cut_opt {rs : List RW} {bk : Option Int} (vb : VBack rs bk) (xs : List V) : cutV xs none bk = match bk with | none => xs | some b => xs.take b.toNat := by
  cases bk with
  | none => exact cut_all xs
  | some b =>
    have hb := vb b rfl
    obtain ⟨k, rfl⟩ : ∃ k : Nat, b = (k : Int) := ⟨b.toNat, by omega⟩
    exact cut_to xs k
def ahd (rs : List RW) : Option Int → List RW
  | none => rs
  | some b => rs.take b.toNat
def siz (rs : List RW) : Option Int → Int
  | none => 1
  | some b => tot (rs.drop b.toNat)
theorem siz_pos {rs : List RW} {bk : Option Int} (v : VRows rs) (vb : VBack rs bk) : 1 ≤ siz rs bk ∧ siz rs bk ≤ 192 := by
  obtain ⟨v8, vr⟩ := v
  cases bk with
  | none => exact ⟨by show (1 : Int) ≤ 1; omega, by show (1 : Int) ≤ 192; omega⟩
  | some b =>
    have hb := vb b rfl
    have := tot_nonneg (rs := rs.drop b.toNat) fun q hq => vr q (List.mem_of_mem_drop hq)
    rw [List.length_drop] at this
    obtain ⟨t1, t2⟩ := this
    constructor
    · show 1 ≤ tot (rs.drop b.toNat)
      omega
    · show tot (rs.drop b.toNat) ≤ 192
      omega
theorem siz_len {rs : List RW} {bk : Option Int} (v : VRows rs) : siz rs bk = ((arL rs bk).length : Int) := by
  cases bk with
  | none => rfl
  | some b => exact (dwg_len (v.dropV b.toNat).2).symm
theorem ahL_tot {rs : List RW} {bk : Option Int} (v : VRows rs) : ((ahL rs bk).length : Int) ≤ tot rs := by
  cases bk with
  | none => exact Int.le_of_eq (dwg_len v.2)
  | some b =>
    show ((dwg (rs.take b.toNat)).length : Int) ≤ tot rs
    have h := dwg_len (v.takeV b.toNat).2
    have s := tot_split rs b.toNat
    have t := (tot_nonneg (v.dropV b.toNat).2).1
    omega
/-- by the whole length and the round's size -/
theorem per_whole {rs : List RW} {bk : Option Int} (v : VRows rs) (vb : VBack rs bk) {W c : Nat} (hW : (W : Int) = tot rs) (hc : (c : Int) = siz rs bk) : ∀ t, W ≤ t → shN rs bk (t + c) = shN rs bk t := fun t ht => by
  have e := siz_len (bk := bk) v
  have a := ahL_tot (bk := bk) v
  rw [show c = (arL rs bk).length by omega]
  exact shN_per v vb t (by omega)
theorem Gr.keepRow {st : Addr} {K : PySem.W.Frag} {H H' : Hp} (g : Gr st H H') (s : IsSt H st) {vs : List V} {rs : List RW} (p : Paired (RowAt K H) vs rs) : Paired (RowAt K H') vs rs := Paired.mono p fun _ _ => RowAt.keep (g.tk s)
theorem gr_upd {st D : Addr} {H0 H : Hp} {o : HO} (g : Gr st H0 H) (n0 : H0 D = none) (nD : D ≠ st) : Gr st H0 (upd H D o) :=
  ⟨fun b x nb e => by rw [upd_ne (ne_of_none e n0)]; exact g.1 b x nb e, fun hz => by
    obtain ⟨x, y, hx, hxy⟩ := g.2 hz
    exact ⟨x, y, by rw [upd_ne (Ne.symm nD)]; exact hx, hxy⟩⟩
/-! ### rounds of sheets -/
def plN (x y : Int) (ms : List MV) (t : Nat) : RW × RW := plc x y ms (t : Int)
theorem rwD_inj {r s : RW} (h : rwD r = rwD s) : r = s := by
  have e := PyData.tuple.inj h
  injection e with e1 e2
  injection e2 with e2 _
  exact Prod.ext (PyData.int.inj e1) (PyData.int.inj e2)
theorem plD_inj {p q : RW × RW} (h : plD p = plD q) : p = q := by
  have e := PyData.tuple.inj h
  injection e with e1 e2
  injection e2 with e2 _
  exact Prod.ext (rwD_inj e1) (rwD_inj e2)
theorem picD_inj {c d : PIC} (h : picD c = picD d) : c = d := by
  have e := PyData.tuple.inj h
  injection e with e1 e2
  injection e2 with e2 _
  exact Prod.ext (ints_inj.mp (PyData.tuple.inj e1)) (plD_inj e2)
theorem sd_rw (r : RW) : Sd 1 (rwD r) := Sd.tup fun e he => by
  rcases mem2 he with rfl | rfl <;> exact Sd.int _
theorem sd_pl (p : RW × RW) : Sd 2 (plD p) := Sd.tup fun e he => by
  rcases mem2 he with rfl | rfl <;> exact sd_rw _
theorem sd_pic (c : PIC) : Sd 3 (picD c) := Sd.tup fun e he => by
  rcases mem2 he with rfl | rfl
  · exact Sd.intsT.more (by decide)
  · exact sd_pl _
structure WinR (x y : Int) (ms : List MV) (b : Nat) : Prop where
  per : ∀ t, b ≤ t → plN x y ms (t + 1) = plN x y ms t
  fst : ∀ c, c + 1 = b → plN x y ms (c + 1) ≠ plN x y ms c
structure ShR (ls : List LY) (x y : Int) (ms : List MV) (a m : Nat) : Prop where
  m1 : 1 ≤ m
  perL : ∀ l ∈ ls, ∀ t, a ≤ t → shN l.1 l.2 (t + m) = shN l.1 l.2 t
  perW : ∀ t, a ≤ t → plN x y ms (t + 1) = plN x y ms t
  dvd : ∀ n, (∀ l ∈ ls, ∀ a' m', Lst (shN l.1 l.2) a' m' → m' ∣ n) → m ∣ n
  fst : ∀ b, b + 1 = a → (∃ l ∈ ls, shN l.1 l.2 (b + m) ≠ shN l.1 l.2 b) ∨ plN x y ms (b + 1) ≠ plN x y ms b
theorem ShR.uniq {ls : List LY} {x y : Int} {ms : List MV} {a m a' m' : Nat} (h : ShR ls x y ms a m) (h' : ShR ls x y ms a' m') : a = a' ∧ m = m' := by
  have e : m = m' := Nat.dvd_antisymm (h.dvd m' fun l hl b n hb => hb.dvd m' a' (h'.perL l hl)) (h'.dvd m fun l hl b n hb => hb.dvd m a (h.perL l hl))
  subst e
  refine ⟨?_, rfl⟩
  rcases Nat.lt_trichotomy a a' with z | z | z
  · rcases h'.fst (a' - 1) (by omega) with ⟨l, hl, hn⟩ | hn
    · exact absurd (h.perL l hl (a' - 1) (by omega)) hn
    · exact absurd (h.perW (a' - 1) (by omega)) hn
  · exact z
  · rcases h.fst (a - 1) (by omega) with ⟨l, hl, hn⟩ | hn
    · exact absurd (h'.perL l hl (a - 1) (by omega)) hn
    · exact absurd (h'.perW (a - 1) (by omega)) hn
theorem Paired.mem2 {α β : Type} {F : α → β → Prop} {l₁ : List α} {l₂ : List β} (p : Paired F l₁ l₂) {y : β} (h : y ∈ l₂) : ∃ x ∈ l₁, F x y := by
  obtain ⟨i, hi⟩ := List.mem_iff_getElem?.mp h
  obtain ⟨x, hx, f⟩ := Paired.at2 p hi
  exact ⟨x, List.mem_of_getElem? hx, f⟩
theorem Paired.mem1 {α β : Type} {F : α → β → Prop} {l₁ : List α} {l₂ : List β} (p : Paired F l₁ l₂) {x : α} (h : x ∈ l₁) : ∃ y ∈ l₂, F x y := by
  obtain ⟨i, hi⟩ := List.mem_iff_getElem?.mp h
  obtain ⟨y, hy, f⟩ := Paired.at p hi
  exact ⟨y, List.mem_of_getElem? hy, f⟩
abbrev RdOf (r : Nat × Nat) (l : LY) : Prop := Lst (shN l.1 l.2) r.1 r.2 ∧ r.1 ≤ 192 ∧ r.2 ≤ 192
theorem shR_mk {ls : List LY} {rd : List (Nat × Nat)} {x y : Int} {ms : List MV} {a b m : Nat} (hp : Paired RdOf rd ls) (hw : WinR x y ms b) (ha : ∀ r ∈ rd, r.1 ≤ a) (hb : b ≤ a) (hm : a = b ∨ ∃ r ∈ rd, r.1 = a) (m1 : 1 ≤ m)
    (hd : ∀ r ∈ rd, r.2 ∣ m) (hl : ∀ n, (∀ r ∈ rd, r.2 ∣ n) → m ∣ n) : ShR ls x y ms a m := by
  refine ⟨m1, fun l hl t ht => ?_, fun t ht => hw.per t (by omega), fun n hn => hl n fun r hr => ?_, fun c hc => ?_⟩
  · obtain ⟨r, hr, f, _⟩ := Paired.mem2 hp hl
    obtain ⟨k, rfl⟩ := hd r hr
    exact per_mul f.per k t (by have := ha r hr; omega)
  · obtain ⟨l, hl', f, _⟩ := Paired.mem1 hp hr
    exact hn l hl' r.1 r.2 f
  · rcases hm with e | ⟨r, hr, e⟩
    · exact .inr (hw.fst c (by omega))
    · obtain ⟨l, hl', f, _⟩ := Paired.mem1 hp hr
      refine .inl ⟨l, hl', fun z => f.fst c (by omega) ?_⟩
      obtain ⟨k, hk⟩ := hd r hr
      obtain ⟨j, rfl⟩ : ∃ j, k = j + 1 := ⟨k - 1, by
        rcases Nat.eq_zero_or_pos k with z | z
        · rw [z] at hk
          omega
        · omega⟩
      have e2 := per_mul f.per j (c + r.2) (by have := f.m1; omega)
      rw [show c + r.2 + r.2 * j = c + m by rw [hk, Nat.mul_succ]; omega, z] at e2
      exact e2.symm
theorem ShR.pic_eq {ls : List LY} {x y : Int} {ms : List MV} {a m : Nat} (h : ShR ls x y ms a m) {t : Nat} (ht : a ≤ t) (k : Nat) : pic ls x y ms ((t + m * k : Nat) : Int) = pic ls x y ms (t : Int) := by
  refine Prod.ext ?_ ?_
  · exact List.map_congr_left fun l hl => per_mul (h.perL l hl) k t ht
  · have := per_mul (f := fun t => (0 : Int)) (A := 0) (m := 1) (fun _ _ => rfl)
    have e : ∀ n, plN x y ms (t + n) = plN x y ms t := fun n => by
      induction n with
      | zero => rfl
      | succ n ih => rw [← Nat.add_assoc, h.perW _ (by omega), ih]
    exact e (m * k)
theorem ShR.pic_ne {ls : List LY} {x y : Int} {ms : List MV} {a m : Nat} (h : ShR ls x y ms a m) {b : Nat} (hb : b + 1 = a) : pic ls x y ms (b : Int) ≠ pic ls x y ms ((b + m : Nat) : Int) := fun e => by
  rcases h.fst b hb with ⟨l, hl, hn⟩ | hn
  · exact hn (List.map_inj_left.mp (congrArg Prod.fst e) l hl).symm
  · refine hn ?_
    have e1 : plN x y ms b = plN x y ms (b + m) := congrArg Prod.snd e
    have e2 : ∀ n, plN x y ms (b + 1 + n) = plN x y ms (b + 1) := fun n => by
      induction n with
      | zero => rfl
      | succ n ih => rw [← Nat.add_assoc, h.perW _ (by omega), ih]
    have m1 := h.m1
    have e3 := e2 (m - 1)
    rw [show b + 1 + (m - 1) = b + m by omega] at e3
    rw [e1, e3]
theorem winR_of {x y : Int} {ms : List MV} {L b : Nat} (vm : ∀ m ∈ ms, VMove m) (hL : (L : Int) = mtot ms) (hb : b ≤ L) (hp : ∀ t, b ≤ t → t < L → plN x y ms (t + 1) = plN x y ms t) (hf : ∀ c, c + 1 = b → plN x y ms (c + 1) ≠ plN x y ms c) : WinR x y ms b := by
  refine ⟨fun t ht => ?_, hf⟩
  rcases Nat.lt_or_ge t L with z | z
  · exact hp t ht z
  · exact plc_far ms x y _ _ vm (by omega) (by omega)
/-- the step of the law's own reckoning of a common multiple -/
theorem lcm_step {s z k : Nat} (s1 : 1 ≤ s) (z1 : 1 ≤ z) (k1 : 1 ≤ k) (hd : z ∣ s * k) (hmin : ∀ j, 1 ≤ j → j < k → ¬ z ∣ s * j) : s * k = Nat.lcm s z := by
  obtain ⟨j, hj⟩ := Nat.dvd_lcm_left s z
  have lp : 0 < Nat.lcm s z := Nat.lcm_pos (by omega) (by omega)
  have j1 : 1 ≤ j := by
    rcases Nat.eq_zero_or_pos j with e | e
    · rw [e] at hj
      omega
    · exact e
  have h1 : Nat.lcm s z ∣ s * k := Nat.lcm_dvd (Nat.dvd_mul_right s k) hd
  have h2 : k ≤ j := Nat.le_of_not_lt fun lt => hmin j j1 lt (by rw [← hj]; exact Nat.dvd_lcm_right s z)
  have h3 := Nat.le_of_dvd (Nat.mul_pos (by omega) (by omega)) h1
  have h4 : s * k ≤ s * j := Nat.mul_le_mul_left s h2
  omega
theorem lcm_le {s z : Nat} (h : 0 < Nat.gcd s z) : Nat.lcm s z ≤ s * z := by
  unfold Nat.lcm
  exact Nat.div_le_self _ _

/-! ### defs called where an error is handled -/
/-- f, called while the error at a (class cls, dict d) is handled, keeps sp -/
structure FnE (P : Program) (w : World) (K : PySem.W.Frag) (mg : Str → Option Value) (base : Heap) (k : Nat) (f : Addr) (fd : FuncData) (ps : List Str) (sp : Addr → Value → Option Addr → Sp) : Prop where
  len : ∀ a cls d vs H Q E, sp a cls d vs H Q E → vs.length = ps.length
  run : ∀ (A : Around) (outer : List Env) (s : Shared) (H : Hp) (args : Args) (us : List Value) (vs : List V) (Q : VK) (E : XK) (a : Addr) (oe : Obj) (cls : Value) (d : Option Addr), L2H.RoomH k A → Zc cls d oe → (∃ z, oe.data = .fields z) → L2H.PinOk outer H s (a, oe) →
    Env0 P w K mg base A outer s H → BindsTo s fd args (ps.zip us) → Vals vs us → sp a cls d vs H Q E → codeAny (model P w) A (.call (.ref f) args) (CR CX0 outer P w H s Q E) s
section
variable {P : Program} {w : World} {K : PySem.W.Frag} {mg : Str → Option Value} {base : Heap}
theorem fun_okE {x qual : Str} {st : Stmt} {f : Addr} {fd : FuncData} {N ps : List Str} {k : Nat} {sp : Addr → Value → Option Addr → Sp} (F : Fun K x qual st f fd) (S : FnScope N ps (defScope st)) (ln : ∀ a cls d vs H Q E, sp a cls d vs H Q E → vs.length = ps.length)
    (hbody : ∀ (cdv : Value) (A : Around) (outer : List Env) (s : Shared) (H : Hp) (vs : List V) (Q : VK) (E : XK) (a : Addr) (oe : Obj) (cls : Value) (d : Option Addr), Zc cls d oe → (∃ z, oe.data = .fields z) → L2H.RoomH k (A.deeper (envOfC qual (defScope st) s.heap.objs.size f cdv)) → sp a cls d vs H Q E →
      ∃ t, PSs (L2H.cxH CX0 P w K mg base N qual (defScope st) f cdv A outer s H E (a, oe)) (defBody st) t ∧ t { nx := fun _ H' => Q .non H', rt := Q } (L2.start N vs) H) : FnE P w K mg base (k + 1) f fd ps sp := by
  obtain ⟨cdv, D⟩ := defAt_of F
  refine ⟨ln, fun A outer s H args us vs Q E a oe cls d hr hz hfs hpin e0 hb r hsp => D.call S hr.depth e0 hb fun s1 begun => ?_⟩
  obtain ⟨t, ht, hq⟩ := hbody cdv A outer s H vs Q E a oe cls d hz hfs (hr.deeper _) hsp
  exact thn (ht.run [] s1 _ H _ (L2H.inv_startH S hpin e0 (ln _ _ _ _ _ _ _ hsp) r begun) hq) fun _ _ h => given_by rfl h
end
section
variable {X : Cx}
/-- what is pinned in the context may be pinned in a body that it calls -/
theorem pinned {pins : List (Addr × Obj)} {σ : L2.St} {H : Hp} {s : Shared} {p : Addr × Obj} (I : Inv X pins σ H s) (hpn : p ∈ X.pn) : L2H.PinOk X.stack H s p := by
  obtain ⟨get, free, low, far, flat⟩ := I.pin p (List.mem_append_left pins hpn)
  refine ⟨get, free, fun on => ?_, flat⟩
  rcases List.mem_cons.mp (I.stkSub p.1 on) with z | z
  · exact low z
  · exact far z
/-- a call of a global name: T tells what is asked of its arguments -/
theorem pe_named {f : Addr} {x : Str} {q pos : Pos} {e : Expr} {es : List Expr} {t : TA} {T : List V → Hp → VK → Prop} (hg : Gl X x) (hm : X.mg x = some (.ref f)) (hk : PySem.W.keepIn X.K (.ref f) = true) (ha : PA X (e :: es) t)
    (run : ∀ (pins : List (Addr × Obj)) (s : Shared) (σ : L2.St) (H : Hp) (us : List Value) (vs : List V) (Q : VK), Inv X pins σ H s → Vals vs us → T vs H Q → wpAny (model X.prog X.w) X.A (call (.ref f) us) (EP X pins σ Q) X.xe s)
    (plain : (x == ("__debug__" : Str)) = false) (first : starEach (e :: es) X.env = (false, eval e X.env) :: starEach es X.env) (noStar : (backTo pos (starEach es X.env)).any (·.1) = false) :
    PE X (.Call (.Name x q) (e :: es) [] pos) (fun σ H Q => t σ H fun vs H1 => T vs H1 Q) :=
  ⟨fun pins s σ H Q I h => wpAny_Call_Name_kw (ld_glob I hg hm (PySem.W.callWith_K (h₀ := X.base) I.ok.mod.kin hk
    (thn (ha.run pos pins s σ H _ I h) fun us s1 ⟨vs, H1, I1, r, due⟩ => ⟨I1.kIn, run pins s1 σ H1 us vs Q I1 r due⟩) first noStar) plain)⟩
/-- f(e, ..), the error at a being handled -/
theorem pe_callE {k : Nat} {f a : Addr} {oe : Obj} {cls : Value} {d : Option Addr} {fd : FuncData} {ps : List Str} {sp : Addr → Value → Option Addr → Sp} {x : Str} {q pos : Pos} {e : Expr} {es : List Expr} {t : TA} (F : FnE X.prog X.w X.K X.mg X.base k f fd ps sp) (hr : L2H.RoomH k X.A) (hpn : (a, oe) ∈ X.pn)
    (hz : Zc cls d oe) (hfs : ∃ z, oe.data = .fields z) (hg : Gl X x) (hm : X.mg x = some (.ref f)) (hk : PySem.W.keepIn X.K (.ref f) = true) (hb : Binds X.K fd ps []) (ha : PA X (e :: es) t)
    (hdb : (x == ("__debug__" : Str)) = false := by decide) (he : starEach (e :: es) X.env = (false, eval e X.env) :: starEach es X.env := by rfl) (hpl : (backTo pos (starEach es X.env)).any (·.1) = false := by rfl) :
    PE X (.Call (.Name x q) (e :: es) [] pos) (fun σ H Q => t σ H fun vs H1 => sp a cls d vs H1 Q E0) := by
  refine pe_named (T := fun vs H Q => sp a cls d vs H Q E0) hg hm hk ha (fun pins s σ H us vs Q I r due => ?_) hdb he hpl
  have binds : BindsTo s fd ⟨us, []⟩ (ps.zip us) := by
    simpa only [List.append_nil] using hb s us I.kIn (by rw [List.append_nil, ← r.length]; exact F.len _ _ _ _ _ _ _ due)
  refine wpAny_call (codeAny_mono (F.run X.A X.stack s H ⟨us, []⟩ us vs Q E0 a oe cls d hr hz hfs (pinned I hpn) I.env0 binds r due) fun res s' left => ?_)
  match res, left with
  | .ok (.ret _), left => exact I.after left
  | .ok .next, left | .ok .brk, left | .ok .cont, left | .error _, left => exact False.elim left
/-- isinstance(e, c), e a handled error -/
def rIsP (K : PySem.W.Frag) (D a : Addr) (d : Option Addr) : List V → Hp → VK → Prop := fun xs H Q => ∃ (c : V) (cv : Value) (b : Bool), xs = [.ref a, c] ∧ (∀ u, RelV c u → u = cv) ∧ PySem.W.kitOne K (.ref D) cv = some b ∧
  (∀ dd, d = some dd → ∃ fs, H dd = some (.xd fs)) ∧ Q (.bl b) H
theorem call_isP {a D : Addr} {oe : Obj} {d : Option Addr} (hpn : (a, oe) ∈ X.pn) (C : ExcC X.K D) (hz : Zc (.ref D) d oe) (hfs : ∃ z, oe.data = .fields z) : CallR X (.builtin "isinstance") (rIsP X.K D a d) := by
  intro pins s σ H xs us Q I r h
  obtain ⟨c, cv, b, rfl, hcv, e, hd, q⟩ := h
  obtain ⟨u1, u2, rfl, r1, r2⟩ := vals2 r
  have ec := hcv _ r2
  subst ec
  cases (show u1 = Value.ref a from r1)
  obtain ⟨hget, _⟩ := I.pin (a, oe) (List.mem_append_left _ hpn)
  obtain ⟨z, hv⟩ := hfs
  have hno : PySem.W.notCls oe = true := by
    unfold PySem.W.notCls
    rw [hv]
  obtain ⟨od, J⟩ : ∃ od, PySem.W.InstAt s.heap a oe D od := by
    cases d with
    | none => exact ⟨none, hget, hz.1, hno, by rw [hz.2]; trivial⟩
    | some dd =>
      obtain ⟨fs, hfs⟩ := hd dd rfl
      obtain ⟨mA, hns, hr⟩ := (show ObjOk X.prog X.w H s.heap dd (.xd fs) from I.hok dd _ hfs)
      obtain ⟨od, ho, hl⟩ := lookIn_ns hns
      exact ⟨some od, hget, hz.1, hno, by rw [hz.2]; exact ho⟩
  have hcl : (PySem.W.clsIn X.K D).isSome = true := by
    obtain ⟨cd, hc, _⟩ := PySem.W.any_some C.hd
    rw [hc]
    rfl
  exact PySem.W.kia_one (PySem.W.kitx_exc hcl C.hg C.hk C.hs C.ha C.hn C.ht C.hm) I.kIn J e (fun z => nomatch z) fun tk => ⟨.bl b, H, I.tok tk, rfl, q⟩
end

/-! ### what the written part says of the refusals -/
def excCB (K : PySem.W.Frag) (D : Addr) : Bool :=
  decide (PySem.W.findIn K (.ref D) "__getattribute__" = some (some (.builtin "BaseException.__getattribute__"))) && (decide (PySem.W.findIn K (.ref D) "__getattr__" = some none) && (decide (PySem.W.subIn K (.ref D) (.type "BaseException") = some true) &&
    (PySem.W.hasDictIn K D && (decide (PySem.W.findIn K (.ref D) "__class__" = some (some (.builtin "object.__class__"))) && (decide (PySem.W.specialIn K (.builtin "object.__class__") "__get__" = some (some (.builtin "getset_descriptor.__get__"))) &&
      (decide (PySem.W.takesIn K (.builtin "object.__class__") = some true) && decide (PySem.W.mroIn K D (.type "object") = some true)))))))
theorem excC_of {K : PySem.W.Frag} {D : Addr} (h : excCB K D = true) : ExcC K D := by
  unfold excCB at h
  simp only [Bool.and_eq_true, decide_eq_true_eq] at h
  obtain ⟨h1, h2, h3, h4, h5, h6, h7, h8⟩ := h
  exact ⟨h1, h2, h3, h4, h5, h6, h7, h8⟩
def excTB (K : PySem.W.Frag) (c : Nat → Addr) (LE : Addr) : Bool :=
  (List.range 16).all fun i => excCB K (c i) && (decide (PySem.W.kitOne K (.ref (c i)) (.type "ValueError") = some true) && (decide (PySem.W.exmOne K (.ref (c i)) (.ref LE) = some true) &&
    ((decide (14 ≤ i) || PySem.W.excIn K (c i) PySem.HandSPX.veTail "ValueError.__new__") && (PySem.W.keepIn K (.ref (c i)) && (decide (PySem.W.typeIn K (.ref (c i)) = some (.type "type")) &&
      (List.range 16).all fun j => decide (PySem.W.kitOne K (.ref (c i)) (.ref (c j)) = some (decide (i = j))))))))
/-- the sixteen refusals stand at c 0 .. c 15, LanternError at LE -/
structure ExcT (K : PySem.W.Frag) (c : Nat → Addr) (LE : Addr) : Prop where
  e : ∀ i, i < 16 → ExcC K (c i)
  kv : ∀ i, i < 16 → PySem.W.kitOne K (.ref (c i)) (.type "ValueError") = some true
  ex : ∀ i, i < 16 → PySem.W.exmOne K (.ref (c i)) (.ref LE) = some true
  nw : ∀ i, i < 14 → PySem.W.excIn K (c i) PySem.HandSPX.veTail "ValueError.__new__" = true
  kp : ∀ i, i < 16 → PySem.W.keepIn K (.ref (c i)) = true
  ty : ∀ i, i < 16 → PySem.W.typeIn K (.ref (c i)) = some (.type "type")
  ko : ∀ i, i < 16 → ∀ j, j < 16 → PySem.W.kitOne K (.ref (c i)) (.ref (c j)) = some (decide (i = j))
theorem excT_of {K : PySem.W.Frag} {c : Nat → Addr} {LE : Addr} (h : excTB K c LE = true) : ExcT K c LE := by
  have key : ∀ i, i < 16 → excCB K (c i) = true ∧ PySem.W.kitOne K (.ref (c i)) (.type "ValueError") = some true ∧ PySem.W.exmOne K (.ref (c i)) (.ref LE) = some true ∧ (14 ≤ i ∨ PySem.W.excIn K (c i) PySem.HandSPX.veTail "ValueError.__new__" = true) ∧ PySem.W.keepIn K (.ref (c i)) = true ∧
      PySem.W.typeIn K (.ref (c i)) = some (.type "type") ∧ ∀ j, j < 16 → PySem.W.kitOne K (.ref (c i)) (.ref (c j)) = some (decide (i = j)) := fun i hi => by
    have z := List.all_eq_true.mp h i (List.mem_range.mpr hi)
    simp only [Bool.and_eq_true, Bool.or_eq_true, decide_eq_true_eq] at z
    obtain ⟨z1, z2, z3, z4, z5, z6, z7⟩ := z
    exact ⟨z1, z2, z3, z4, z5, z6, fun j hj => of_decide_eq_true (List.all_eq_true.mp z7 j (List.mem_range.mpr hj))⟩
  exact ⟨fun i hi => excC_of (key i hi).1, fun i hi => (key i hi).2.1, fun i hi => (key i hi).2.2.1, fun i hi => (key i (by omega)).2.2.2.1.elim (fun z => absurd z (by omega)) id, fun i hi => (key i hi).2.2.2.2.1, fun i hi => (key i hi).2.2.2.2.2.1, fun i hi => (key i hi).2.2.2.2.2.2⟩
theorem ExcT.rs {X : Cx} {c : Nat → Addr} {LE : Addr} (T : ExcT X.K c LE) {i : Nat} (hi : i < 16) : Raises X (.ref (c i)) := raises_own (T.e i hi).hs (T.ty i hi)
/-! ### xs.count(True) -/
def rCntB (K : PySem.W.Frag) : V → List V → Hp → VK → Prop := fun x xs H Q => ∃ (p : Addr) (bs : List Bool), x = .ref p ∧ xs = [.bl true] ∧ SqL K H p (bs.map V.bl) ∧ Q (.int (bs.count true : Nat)) H
theorem bl_flat : ∀ bs : List Bool, (bs.map V.bl).all flatV = true
  | [] => rfl
  | b :: r => by
    rw [List.map_cons, List.all_cons, bl_flat r]
    rfl
theorem cnt_bl : ∀ {bs : List Bool} {us : List Value}, Vals (bs.map V.bl) us → us.countP (eqU (.bl true)) = bs.count true
  | [], _, .nil => rfl
  | b :: r, _, .cons (b := u) (l₂ := us) ru rt => by
    have e : eqU (.bl true) u = eqV (.bl b) (.bl true) := eqU_of ru rfl
    rw [List.countP_cons, cnt_bl rt, List.count_cons, e]
    cases b <;> rfl
theorem mt_bcount {X : Cx} : MtR X "list.count" (rCntB X.K) := by
  intro pins s σ H x xs v us Q I rx rxs h
  obtain ⟨p, bs, rfl, rfl, hs, q⟩ := h
  cases rx
  obtain ⟨u, rfl, ru⟩ := rxs.one
  obtain ⟨its, rv, ⟨⟨cls, dd, data, sl⟩, n, ho, hc, hdn, hd⟩, hlen⟩ := I.list hs
  simp only at hc hd
  subst hc hd
  refine call_meets PySem.F.slot_list_count ⟨_, ho, rfl⟩ PySem.F.entry_list_count
    (PySem.F.args_list_count_2 _ _) (SeqAt.list_countAt p its.toArray n dd sl u (eqU (.bl true)))
    ⟨ho, fun y hy => mem_eqAt ru rfl rv (bl_flat bs) y (by simpa using hy), ?_⟩
  refine ⟨.int (bs.count true : Nat), H, I.tok _, ⟨s.toks, ?_⟩, q⟩
  show Value.int ((its.toArray.toList.countP (eqU (.bl true)) : Nat) : Int) s.toks = Value.int ((bs.count true : Nat) : Int) s.toks
  rw [List.toList_toArray, cnt_bl rv]
/-! ### what is told of a call -/
def bits (i : Nat) : List Bool := (List.range 16).map fun j => decide (i = j)
def HasXd (d : Option Addr) (H : Hp) : Prop := ∀ dd, d = some dd → ∃ fs, H dd = some (.xd fs)
def spCls (c : Nat → Addr) : Addr → Value → Option Addr → Sp := fun a cls d vs H Q _ => ∃ i, i < 16 ∧ vs = [.ref a] ∧ cls = .ref (c i) ∧ HasXd d H ∧ ∀ H' p, Same H H' → H p = none → H' p = some (.lst ((bits i).map V.bl)) → Q (.ref p) H'
/-- what is wished of a refusal that met catches: told are 'refused' and its number, 'many' and both fields, 'leaned' and the numbers -/
def EMet (c : Nat → Addr) (Q : VK) : XK := fun cls d H => ∃ i, i < 16 ∧ cls = .ref (c i) ∧ HasXd d H ∧
  (i < 14 → ∀ H' p, Same H H' → H p = none → H' p = some (.tup [.str "refused", .int (i : Nat)]) → Q (.ref p) H') ∧
  (i = 14 → ∃ dd fs m n, d = some dd ∧ H dd = some (.xd fs) ∧ fs.lookup ("many" : Str) = some m ∧ fs.lookup ("most" : Str) = some n ∧ ∀ H' p q, Same H H' → H p = none → H' q = some (.tup [m, n]) → H' p = some (.tup [.str "many", .ref q]) → Q (.ref p) H') ∧
  (i = 15 → ∃ dd fs m, d = some dd ∧ H dd = some (.xd fs) ∧ fs.lookup ("numbers" : Str) = some m ∧ ∀ H' p, Same H H' → H p = none → H' p = some (.tup [.str "leaned", m]) → Q (.ref p) H')
/-- what met makes of the lambda's reading -/
def TMet (c : Nat → Addr) : (XK → Hp → VK → Prop) → Hp → VK → Prop := fun tl H Q =>
  tl (EMet c Q) H fun v H1 => 2 ≤ sizeLine ∧ ∀ p, H1 p = none → Q (.ref p) (upd H1 p (.tup [.str "told", v]))

def clsN : List Str := ["NoLayer", "NoWindow", "NoSheet", "NoMoment", "NoRow", "NoNumber", "NoDrawings", "Unlike", "Endless", "Squeezed", "NoPaper", "NoDeed", "NoText", "NoWords", "TooMany", "Leaned"]
structure ExcN (K : PySem.W.Frag) (mg : Str → Option Value) (c : Nat → Addr) (LE : Addr) : Prop extends ExcT K c LE where
  g : ∀ i n, clsN[i]? = some n → mg n = some (.ref (c i))
  gL : mg "LanternError" = some (.ref LE)
  n1 : PySem.W.findIn K (.ref (c 14)) "many" = some none
  n2 : PySem.W.findIn K (.ref (c 14)) "most" = some none
  n3 : PySem.W.findIn K (.ref (c 15)) "numbers" = some none
theorem ExcN.xf {K : PySem.W.Frag} {mg : Str → Option Value} {c : Nat → Addr} {LE : Addr} (T : ExcN K mg c LE) {i : Nat} (hi : i < 16) : XfC K (c i) := ⟨(T.e i hi).hg, (T.e i hi).hk, (T.e i hi).hs, (T.e i hi).hd⟩
structure ClE (P : Program) (w : World) (K : PySem.W.Frag) (mg : Str → Option Value) (base : Heap) (k : Nat) (x : Str) (ps : List Str) (sp : Addr → Value → Option Addr → Sp) : Prop where
  ex : ∃ (f : Addr) (fd : FuncData), FnE P w K mg base k f fd ps sp ∧ PySem.W.keepIn K (.ref f) = true ∧ Binds K fd ps [] ∧ mg x = some (.ref f)
/-- a def that may refuse -/
structure ClX (P : Program) (w : World) (K : PySem.W.Frag) (mg : Str → Option Value) (base : Heap) (k : Nat) (x : Str) (ps : List Str) (sp : Sp) : Prop where
  ex : ∃ (f : Addr) (fd : FuncData), FnOk P w K mg base (L2.CX P w) k f fd ps sp ∧ PySem.W.keepIn K (.ref f) = true ∧ Binds K fd ps [] ∧ mg x = some (.ref f)
section
variable {X : Cx}
theorem pe_gref {x : Str} {pos : Pos} {C : Addr} (hg : Gl X x) (h : X.mg x = some (.ref C)) (hd : (x == ("__debug__" : Str)) = false := by decide) : PE X (.Name x pos) (tC (.ref C)) := pe_glob hg h rfl hd
/-- a built-in's method, the written part told by its letter -/
theorem pe_bmK {K : PySem.W.Frag} {T : String} {name : Str} {id : String} {r : V → List V → Hp → VK → Prop} {o e : Expr} {es : List Expr} {to : TE} {t : TA} {apos cpos : Pos} (pa : PlainAttrs T) (slot : Slot T name id) (hty : typeOf (.builtin id) = pure (.type "method_descriptor")) (hm : MtR X id r) (ho : PE X o to) (ha : PA X (e :: es) t) (hK : X.K = K := by rfl)
    (hbase : attributeBase o name X.env (eval o X.env) = eval o X.env := by rfl)
    (hfew : ((backTo cpos (starEach (e :: es) X.env)).all (fun x => !x.1) && (backToKw cpos (keywordEach [] X.env)).all (fun x => x.1.isSome) && decide ((e :: es).length + ([] : List Keyword).length + (if ([] : List Keyword).isEmpty then 0 else 1) < 30)) = true := by rfl)
    (hline : (apos.endLine == cpos.line) = true := by rfl) (hs : starEach (e :: es) X.env = (false, eval e X.env) :: starEach es X.env := by rfl)
    (hplain : (backTo cpos (starEach es X.env)).any (·.1) = false := by rfl) : PE X (.Call (.Attribute o name apos) (e :: es) [] cpos) (tBM K T r to t) := by
  subst hK
  exact pe_bm pa slot hty hm ho ha hbase hfew hline hs hplain
theorem pe_ownE {k : Nat} {x : Str} {ps : List Str} {sp : Addr → Value → Option Addr → Sp} {a : Addr} {oe : Obj} {cls : Value} {d : Option Addr} {e : Expr} {es : List Expr} {t : TA} {p pos : Pos} (C : ClE X.prog X.w X.K X.mg X.base k x ps sp) (hr : L2H.RoomH k X.A) (hpn : (a, oe) ∈ X.pn) (hz : Zc cls d oe)
    (hfs : ∃ z, oe.data = .fields z) (hg : Gl X x) (ha : PA X (e :: es) t)
    (hdb : (x == ("__debug__" : Str)) = false := by decide) (he : starEach (e :: es) X.env = (false, eval e X.env) :: starEach es X.env := by rfl) (hpl : (backTo pos (starEach es X.env)).any (·.1) = false := by rfl) :
    PE X (.Call (.Name x p) (e :: es) [] pos) (fun σ H Q => t σ H fun vs H1 => sp a cls d vs H1 Q E0) := by
  obtain ⟨f, fd, F, hk, hb, hm⟩ := C.ex
  exact pe_callE F hr hpn hz hfs hg hm hk hb ha hdb he hpl
/-- f(e, ..), f may refuse: E is wished of what it lets out -/
theorem pe_ownX {k : Nat} {x : Str} {ps : List Str} {sp : Sp} {W : WX} {e : Expr} {es : List Expr} {t : TA} {p pos : Pos} (C : ClX X.prog X.w X.K X.mg X.base k x ps sp) (hr : Room k X.A) (tk : Takes X W) (hg : Gl X x) (ha : PA X (e :: es) t)
    (hdb : (x == ("__debug__" : Str)) = false := by decide) (he : starEach (e :: es) X.env = (false, eval e X.env) :: starEach es X.env := by rfl) (hpl : (backTo pos (starEach es X.env)).any (·.1) = false := by rfl) :
    PE X (.Call (.Name x p) (e :: es) [] pos) (tCallS sp (WE W) t) := by
  obtain ⟨f, fd, F, hk, hb, hm⟩ := C.ex
  exact pe_callS F hr hg hm hk hb (fun σ => passAt tk σ) ha hdb he hpl
def rIsQ (K : PySem.W.Frag) (c : Nat → Addr) (a : Addr) (cls : Value) (d : Option Addr) : List V → Hp → VK → Prop := fun xs H Q => ∃ i, i < 16 ∧ cls = .ref (c i) ∧ rIsP K (c i) a d xs H Q
theorem call_isQ {K : PySem.W.Frag} {c : Nat → Addr} {LE a : Addr} {oe : Obj} {cls : Value} {d : Option Addr} (T : ExcT K c LE) (hpn : (a, oe) ∈ X.pn) (hz : Zc cls d oe) (hfs : ∃ z, oe.data = .fields z) (hK : X.K = K := by rfl) : CallR X (.builtin "isinstance") (rIsQ K c a cls d) := by
  subst hK
  intro pins s σ H xs us Q I r h
  obtain ⟨i, hi, rfl, h⟩ := h
  exact call_isP hpn (T.e i hi) hz hfs pins s σ H xs us Q I r h
/-- what a met def must have: its place, its text -/
structure MetF (X : Cx) (x a : Str) (TT : (XK → Hp → VK → Prop) → Hp → VK → Prop) : Prop where
  ex : ∃ (g : Addr) (pg : Arguments) (bg : List Stmt) (sg : Scope) (kV doc pm cdv ct oc : Value) (an od : Option Addr) (osl : Array (Option Value)) (Ng : List Str), X.mg x = some (.ref g) ∧ PySem.W.keepIn X.K (.ref g) = true ∧
    X.K.lookup g = some ⟨oc, od, .func (PySem.W.fnOf x x pg bg sg .none kV doc pm an cdv ct), osl⟩ ∧ PySem.W.codeIn X.K cdv x = true ∧ L2.Binds X.K (PySem.W.fnOf x x pg bg sg .none kV doc pm an cdv ct) [a] [] ∧ FnScope Ng [a] sg ∧ Ng[0]? = some a ∧ Vis sg a ∧
    LamX.GivesTo X Ng x sg g cdv bg a (X.env.qual ++ "<lambda>") TT
/-- x(lambda: body) -/
theorem pe_met {T : List (Addr × Str)} {TT : (XK → Hp → VK → Prop) → Hp → VK → Prop} {x a : Str} {c P : Addr} {k : Nat} {params : Arguments} {body : Expr} {scope : Scope} {t : XK → TE} {p lpos pos : Pos} (M : MetF X x a TT) (hg : Gl X x)
    (TB : LamX.TabB X.base X.mg c P) (hcode : X.env.code = .ref c) (hmT : (P, X.env.qual ++ "<lambda>") ∈ T) (hu : ∀ p ∈ T, p.1 = P → p.2 = X.env.qual ++ "<lambda>") (hr : Room (k + 2) X.A) (L : LamX.LamS X.env.scope scope)
    (hbody : ∀ (A : Around) (outer : List Env) (s : Shared) (H : Hp) (E : XK) (f c' : Addr), Room k (A.deeper (LamX.lamEnv X scope s.heap.objs.size f c')) → PE (LamX.lamCx X A outer s H E scope f c') body (t E))
    (hdef : defaultsOf params X.env = ([], []) := by rfl)
    (hbind : ∀ (q : Str) (cl : List (Str × Addr)) (pm cv ctv : Value), bindArgs (PySem.W.kla_fn "<lambda>" q params body scope cl pm cv ctv) ⟨[], []⟩ = pure [] := by intros; rfl)
    (hdb : (x == ("__debug__" : Str)) = false := by decide) (hd : (a == ("__debug__" : Str)) = false := by decide) (hcd : (a == ("__classdict__" : Str)) = false := by decide) :
    PE X (.Call (.Name x p) [.Lambda params body scope lpos] [] pos) (LamX.tLam T TT t) := by
  obtain ⟨g, pg, bg, sg, kV, doc, pm, cdv, ct, oc, an, od, osl, Ng, hm, hk, lk, hcg, hb, Sg, hNg, hva, hG⟩ := M.ex
  exact LamX.pe_lamcall hg hm hk lk hcg hb Sg hNg hva hG TB hcode hmT hu hr L hdef hbind hbody hdb hd hcd
end
/-! ### the end of a law that makes lambdas -/
def TabsIn (q : Program) (K : PySem.W.Frag) (h : Heap) : Prop := ∀ (x : Str) (c P : Addr), ((recsOf q).find? fun e => e.name == x).isSome = true → PySem.W.tabIn K x = some (c, P) → PySem.W.CodeHd h c P ∧ h.get? P = some { cls := .none, data := .fields #[] }
theorem walk_ofL {l : PySem.W.OpenLaw} {n k : Nat} {q : Program} {loose : List Str} {XP : (Str → Option Value) → Heap → Prop} {YP : World → Heap → Prop} {d : DefRec} {K : Params → PySem.W.Frag} {x : Str}
    (hn : l.most = some n) (hn2 : n ≤ sizeLine) (hdf : d.params.defaults = []) (hr : Room k callerA) (hY : ∀ (w : World) (h : Heap), YP w h → (K w.params).In h)
    (F : ∀ (w : World) (mg : Str → Option Value) (fa : Addr) (h : Heap), (K w.params).In h → h.Ns mainGlobals mg → mg d.name = some (.ref fa) → TabsIn q (K w.params) h → LamX.LawAtS l w (K w.params) CX0 k n x mg fa h) :
    PySem.W.WalkO q loose XP YP l.row.toRowW d [] (fun f vs => PySem.call f vs) := by
  refine Att.attach_callB hn hdf
    fun w s₀ s₁ mg mb fa o pm cd doc a vs ns G Y ho hd hcd hmg hobj hints hlen hbits hg => ?_
  have hK := hY w _ Y
  have tabs : TabsIn q (K w.params) s₁.heap := fun y c P hf ht => by
    obtain ⟨dL, hfd⟩ := Option.isSome_iff_exists.mp hf
    exact PySem.W.tab_of G.T hK hfd ht
  obtain ⟨fd, cs, sp, hT, nT, C, hb, hsp, hF⟩ := F w mg fa _ hK G.T.g hmg tabs
  exact LamX.law_callTs hK G.T.g G.T.b G.T.builtins G.T.nolimit hg hT nT C G.T.bmain hobj hints
    (Nat.le_trans hlen hn2) hr hF hb (fun H hH hS => hsp H a ns hlen hbits hH hS) fun H e s' z => z

def qLam (x : Str) : Str := x ++ ".<locals>." ++ "<lambda>"
/-- as Fun, its code object told -/
structure FunC (K : PySem.W.Frag) (x qual : Str) (st : Stmt) (f : Addr) (fd : FuncData) (cc : Addr) : Prop where
  ex : ∃ (oc : Value) (od : Option Addr) (kV doc pm : Value) (an : Option Addr) (ct : Value) (osl : Array (Option Value)),
    fd = PySem.W.fnOf x qual (defArgs st) (defBody st) (defScope st) .none kV doc pm an (.ref cc) ct ∧ K.lookup f = some ⟨oc, od, .func fd, osl⟩ ∧ PySem.W.codeIn K (.ref cc) qual = true
theorem funC_mk {K : PySem.W.Frag} {x qual : Str} {st : Stmt} {f cc : Addr} {oc : Value} {od an : Option Addr} {osl : Array (Option Value)} {kV doc pm ct : Value} (l : K.lookup f = some ⟨oc, od, .func (PySem.W.fnOf x qual (defArgs st) (defBody st) (defScope st) .none kV doc pm an (.ref cc) ct), osl⟩)
    (c : PySem.W.codeIn K (.ref cc) qual = true) : FunC K x qual st f (PySem.W.fnOf x qual (defArgs st) (defBody st) (defScope st) .none kV doc pm an (.ref cc) ct) cc := ⟨⟨oc, od, kV, doc, pm, an, ct, osl, rfl, l, c⟩⟩
/-- what a maker of lambdas has: its table at PP among the tables TS -/
structure Mkr (base : Heap) (mg : Str → Option Value) (cc PP : Addr) (x : Str) (TS : List (Addr × Str)) : Prop where
  tb : LamX.TabB base mg cc PP
  hm : (PP, qLam x) ∈ TS
  hu : ∀ p ∈ TS, p.1 = PP → p.2 = qLam x
section
variable {P : Program} {w : World} {K : PySem.W.Frag} {mg : Str → Option Value} {base : Heap}
theorem fun_okL {x qual : Str} {st : Stmt} {f cc : Addr} {fd : FuncData} {N ps : List Str} {k : Nat} {sp : Sp} (F : FunC K x qual st f fd cc) (S : FnScope N ps (defScope st)) (ln : ∀ vs H Q E, sp vs H Q E → vs.length = ps.length)
    (hbody : ∀ (A : Around) (outer : List Env) (s : Shared) (H : Hp) (vs : List V) (Q : VK) (E : XK), Room k (A.deeper (envOfC qual (defScope st) s.heap.objs.size f (.ref cc))) → sp vs H Q E →
      ∃ t, PSs (cxOf CX0 P w K mg base N qual (defScope st) f (.ref cc) A outer s H E).nox (defBody st) t ∧ t { nx := fun _ H' => Q .non H', rt := Q } (L2.start N vs) H) : FnOk P w K mg base CX0 (k + 1) f fd ps sp := by
  obtain ⟨oc, od, kV, doc, pm, an, ct, osl, rfl, lk, hcd⟩ := F.ex
  refine fn_of lk hcd S ln fun A outer s H vs Q E hr hsp => ?_
  obtain ⟨t, ht, hq⟩ := hbody A outer s H vs Q E hr hsp
  exact ⟨t, ht.nox, hq⟩
end
/-! ### the state of the later laws; what stands but the state and the tables -/
def IsSx (H : Hp) (st : Addr) : Prop := ∃ (a : Int) (b : Bool), H st = some (.lst [.int a, .bl b]) ∧ 0 ≤ a ∧ (b = false → a < 2147483647)
def Gx (st : Addr) (H H' : Hp) : Prop := (∀ b o, b ≠ st → (∀ ps, o ≠ .tbl ps) → H b = some o → H' b = some o) ∧ (IsSx H st → IsSx H' st) ∧ ∀ T, LamX.Tabs T H → LamX.Tabs T H'
theorem Gx.refl {st : Addr} {H : Hp} : Gx st H H := ⟨fun _ _ _ _ h => h, id, fun _ h => h⟩
theorem Gx.trans {st : Addr} {H H1 H2 : Hp} (a : Gx st H H1) (b : Gx st H1 H2) : Gx st H H2 := ⟨fun c o n z h => b.1 c o n z (a.1 c o n z h), fun h => b.2.1 (a.2.1 h), fun T h => b.2.2 T (a.2.2 T h)⟩
theorem gx_same {st : Addr} {H H' : Hp} (s : Same H H') : Gx st H H' := ⟨fun b o _ _ h => s b o h, fun ⟨a, b, h, r⟩ => ⟨a, b, s _ _ h, r⟩, fun T h => h.ext s⟩
theorem lst_tbl {xs : List V} : ∀ ps, HO.lst xs ≠ .tbl ps := fun ps z => by cases z
theorem tup_tbl {xs : List V} : ∀ ps, HO.tup xs ≠ .tbl ps := fun ps z => by cases z
theorem tabs_lst {T : List (Addr × Str)} {H : Hp} {D : Addr} {xs ys : List V} (e : H D = some (.lst xs)) (h : LamX.Tabs T H) : LamX.Tabs T (upd H D (.lst ys)) := fun p hp => by
  obtain ⟨ps, h1, h2, h3⟩ := h p hp
  refine ⟨ps, ?_, h2, fun pos cv hc => ?_⟩
  · rw [upd_ne (ne_of h1 e (by intro z; cases z))]
    exact h1
  · obtain ⟨c0, e1, e2⟩ := h3 pos cv hc
    refine ⟨c0, e1, ?_⟩
    rw [upd_ne (ne_of e2 e (by intro z; unfold LamX.CodeO at z; cases z))]
    exact e2
theorem gx_ext {st : Addr} {H H' : Hp} (e : LamX.ExtN H H') (t : ∀ T, LamX.Tabs T H → LamX.Tabs T H') : Gx st H H' := ⟨fun b o _ z h => e b o h z, fun ⟨a, b, h, r⟩ => ⟨a, b, e _ _ h lst_tbl, r⟩, t⟩
theorem Gx.sqT {st : Addr} {K : PySem.W.Frag} {H H' : Hp} {a : Addr} {xs : List V} (g : Gx st H H') (s : IsSx H st) (h : SqT K H a xs) : SqT K H' a xs := by
  obtain ⟨u, v, hs, _⟩ := s
  rcases h with (h | ⟨o, h⟩) | h
  · exact .inl (.inl (g.1 _ _ (ne_of h hs (by intro z; cases z)) tup_tbl h))
  · exact .inl (.inr ⟨o, g.1 _ _ (ne_of h hs (by intro z; cases z)) (fun ps z => by cases z) h⟩)
  · exact .inr h
theorem Gx.tk {st : Addr} {K : PySem.W.Frag} {H H' : Hp} (g : Gx st H H') (s : IsSx H st) : TKeep K H H' := fun _ _ h => g.sqT s h
/-- what stood before the law's state was made -/
theorem Gx.sqL {st : Addr} {K : PySem.W.Frag} {H H' : Hp} {a : Addr} {xs : List V} (g : Gx st H H') (n : a ≠ st) (h : SqL K H a xs) : SqL K H' a xs := by
  rcases h with (h | ⟨o, h⟩) | h
  · exact .inl (.inl (g.1 _ _ n lst_tbl h))
  · exact .inl (.inr ⟨o, g.1 _ _ n (fun ps z => by cases z) h⟩)
  · exact .inr h
theorem sx_ne {H : Hp} {st p : Addr} (s : IsSx H st) (h : H p = none) : p ≠ st := by
  obtain ⟨a, b, e, _⟩ := s
  exact fun z => by rw [z, e] at h; cases h
theorem gx_set {st : Addr} {H : Hp} {a : Int} {b : Bool} {xs : List V} (e : H st = some (.lst xs)) (h0 : 0 ≤ a) (h1 : b = false → a < 2147483647) : Gx st H (upd H st (.lst [.int a, .bl b])) :=
  ⟨fun c o n _ h => by rw [upd_ne n]; exact h, fun _ => ⟨a, b, upd_same, h0, h1⟩, fun T h => tabs_lst e h⟩
theorem gx_upd {st D : Addr} {H0 H : Hp} {xs : List V} (g : Gx st H0 H) (n0 : H0 D = none) (nD : D ≠ st) (eD : H D = some (.lst xs)) (ys : List V) : Gx st H0 (upd H D (.lst ys)) :=
  ⟨fun b o n z h => by rw [upd_ne (ne_of_none h n0)]; exact g.1 b o n z h, fun s => by
    obtain ⟨a, b, e, r⟩ := g.2.1 s
    exact ⟨a, b, by rw [upd_ne (Ne.symm nD)]; exact e, r⟩, fun T h => tabs_lst eD (g.2.2 T h)⟩
/-- the same with the law's own tables alone -/
def Gw (TS : List (Addr × Str)) (st : Addr) (H H' : Hp) : Prop := (∀ b o, b ≠ st → (∀ ps, o ≠ .tbl ps) → H b = some o → H' b = some o) ∧ (IsSx H st → IsSx H' st) ∧ (LamX.Tabs TS H → LamX.Tabs TS H')
theorem Gw.refl {TS : List (Addr × Str)} {st : Addr} {H : Hp} : Gw TS st H H := ⟨fun _ _ _ _ h => h, id, id⟩
theorem Gw.trans {TS : List (Addr × Str)} {st : Addr} {H H1 H2 : Hp} (a : Gw TS st H H1) (b : Gw TS st H1 H2) : Gw TS st H H2 := ⟨fun c o n z h => b.1 c o n z (a.1 c o n z h), fun h => b.2.1 (a.2.1 h), fun h => b.2.2 (a.2.2 h)⟩
theorem Gx.l {TS : List (Addr × Str)} {st : Addr} {H H' : Hp} (g : Gx st H H') : Gw TS st H H' := ⟨g.1, g.2.1, g.2.2 TS⟩
theorem gw_same {TS : List (Addr × Str)} {st : Addr} {H H' : Hp} (s : Same H H') : Gw TS st H H' := (gx_same s).l
theorem gw_ext {TS : List (Addr × Str)} {st : Addr} {H H' : Hp} (e : LamX.ExtN H H') (t : LamX.Tabs TS H') : Gw TS st H H' := ⟨fun b o _ z h => e b o h z, fun ⟨a, b, h, r⟩ => ⟨a, b, e _ _ h lst_tbl, r⟩, fun _ => t⟩
theorem Gw.tk {TS : List (Addr × Str)} {st : Addr} {K : PySem.W.Frag} {H H' : Hp} (g : Gw TS st H H') (s : IsSx H st) : TKeep K H H' := fun a xs h => by
  obtain ⟨u, v, hs, _⟩ := s
  rcases h with (h | ⟨o, h⟩) | h
  · exact .inl (.inl (g.1 _ _ (ne_of h hs (by intro z; cases z)) tup_tbl h))
  · exact .inl (.inr ⟨o, g.1 _ _ (ne_of h hs (by intro z; cases z)) (fun ps z => by cases z) h⟩)
  · exact .inr h
theorem ExtN.tk {K : PySem.W.Frag} {H H' : Hp} (e : LamX.ExtN H H') : TKeep K H H' := fun a xs h => by
  rcases h with (h | ⟨o, h⟩) | h
  · exact .inl (.inl (e _ _ h tup_tbl))
  · exact .inl (.inr ⟨o, e _ _ h (fun ps z => by cases z)⟩)
  · exact .inr h
/-- what stands in a law between two of its states -/
structure Go (TS : List (Addr × Str)) (H H' : Hp) : Prop where
  e : LamX.ExtN H H'
  t : LamX.Tabs TS H'
theorem Go.sqL {TS : List (Addr × Str)} {K : PySem.W.Frag} {H H' : Hp} {a : Addr} {xs : List V} (g : Go TS H H') (h : SqL K H a xs) : SqL K H' a xs := by
  rcases h with (h | ⟨o, h⟩) | h
  · exact .inl (.inl (g.e _ _ h lst_tbl))
  · exact .inl (.inr ⟨o, g.e _ _ h (fun ps z => by cases z)⟩)
  · exact .inr h
theorem Gw.go {TS : List (Addr × Str)} {st : Addr} {H0 H H1 H2 : Hp} (g : Gw TS st H1 H2) (o : Go TS H0 H) (s : Same H H1) (n : H st = none) : Go TS H0 H2 :=
  ⟨fun b u h z => g.1 b u (ne_of_none (o.e b u h z) n) z (s _ _ (o.e b u h z)), g.2.2 (o.t.ext s)⟩

/-! ### refusals with fields -/
def clsB (s : Stmt) (i : Nat) : Stmt := match s with
  | .ClassDef _ _ _ b _ _ _ _ _ _ _ => b.getD i (.Pass ⟨0, 0, 0, 0⟩)
  | _ => .Pass ⟨0, 0, 0, 0⟩
/-- the class at C is made by its own __init__, which keeps sp -/
structure IniT (P : Program) (w : World) (K : PySem.W.Frag) (mg : Str → Option Value) (base : Heap) (C : Addr) (n : Nat) (sp : Sp) : Prop where
  ex : ∃ (fI : Addr) (fd : FuncData) (ps : List Str), OexC K C ∧ PySem.W.findIn K (.ref C) "__init__" = some (some (.ref fI)) ∧ PySem.W.typeIn K (.ref fI) = some (.type "function") ∧ FnOk P w K mg base CX0 1 fI fd ps sp ∧ Binds K fd ps []
theorem pmk_init {X : Cx} {C : Addr} {n : Nat} {sp : Sp} {x : Str} {e : Expr} {es : List Expr} {ta : TA} {p pos : Pos} (I : IniT X.prog X.w X.K X.mg X.base C n sp) (hr : Room 2 X.A) (hg : Gl X x) (hm : X.mg x = some (.ref C)) (ha : PA X (e :: es) ta)
    (hdb : (x == ("__debug__" : Str)) = false := by decide) (he : starEach (e :: es) X.env = (false, eval e X.env) :: starEach es X.env := by rfl) (hpl : (backTo pos (starEach es X.env)).any (·.1) = false := by rfl) :
    PMk X (.Call (.Name x p) (e :: es) [] pos) (tMkO C sp [] ta) := by
  obtain ⟨fI, fd, ps, o, i, t, F, b⟩ := I.ex
  exact pmk_oex o i t F hr b .nil pass0 hg hm ha hdb he hpl
/-- a wish may lean on how many slots there are -/
theorem takes_len {X : Cx} {W : WX} (tk : Takes X W) : Takes X (fun cls d σ H => σ.length = X.N.length → W cls d σ H) := fun u s' ⟨a, B, sI, pins, σ, H, cls, d, e, I, nb, up, sky, na, os, ag, hw⟩ =>
  tk u s' ⟨a, B, sI, pins, σ, H, cls, d, e, I, nb, up, sky, na, os, ag, hw I.len⟩
theorem HasXd.sm {d : Option Addr} {H H' : Hp} (h : HasXd d H) (s : Same H H') : HasXd d H' := fun dd e => by
  obtain ⟨fs, hf⟩ := h dd e
  exact ⟨fs, s _ _ hf⟩
theorem bits_count (i : Nat) (h : i < 16) : (bits i).count true = 1 := by
  have : ∀ i, i < 16 → (bits i).count true = 1 := by decide
  exact this i h
theorem bits_at (i j : Nat) (h : j < 16) : ((bits i).map V.bl)[j]? = some (.bl (decide (i = j))) := by
  unfold bits
  rw [List.map_map, List.getElem?_map, List.getElem?_range h]
  rfl
theorem run_ex {X : Cx} {st : List Stmt} {pins : List (Addr × Obj)} {s : Shared} {σ : L2.St} {H : Hp} {D : Ends} (h : ∃ t, PSs X st t ∧ t D σ H) (I : Inv X pins σ H s) :
    wpAny (model X.prog X.w) X.A (execs st X.env) (SP X pins D) X.xe s := by
  obtain ⟨t, h1, h2⟩ := h
  exact h1.run pins s σ H D I h2

theorem sl_any {K : PySem.W.Frag} {H : Hp} {a : Addr} {xs : List V} {lo hi : Option Int} {R : VK} (hS : SqT K H a xs) (h : ∀ H' p, Same H H' → SqT K H' p (cutV xs lo hi) → R (.ref p) H') : rSlA K (.ref a) lo hi H R :=
  ⟨a, xs, rfl, hS, fun w => h H a (Same.refl _) (by rw [cut_whole w]; exact hS), fun _ p np => h _ p (same_upd np) (.inl (.inl upd_same))⟩
theorem cat_any {K : PySem.W.Frag} {H : Hp} {a b : Addr} {xs ys : List V} {R : VK} (ha : SqT K H a xs) (hb : SqT K H b ys) (hz : xs.length + ys.length ≤ 1000) (h : ∀ H' p, Same H H' → SqT K H' p (xs ++ ys) → R (.ref p) H') : rCatA K (.ref a) (.ref b) H R :=
  ⟨a, b, xs, ys, rfl, rfl, ha, hb, Nat.le_of_lt (small1000 hz), fun e => h H b (Same.refl _) (by rw [e]; exact hb), fun _ e => h H a (Same.refl _) (by rw [e, List.append_nil]; exact ha), fun _ _ p np => h _ p (same_upd np) (.inl (.inl upd_same))⟩
theorem Sd.st {k : Nat} {x : Str} (h : PyData.strOk x = true) : Sd k (.str x) := ⟨h, Nat.zero_le _⟩
theorem sd_mv (m : MV) : Sd 1 (mvD m) := Sd.tup fun e he => by
  rcases mem3 he with rfl | rfl | rfl <;> exact Sd.int _
theorem sd_bk (o : Option Int) : Sd 0 (bkD o) := by
  cases o with
  | none => exact Sd.none
  | some i => exact Sd.int i
theorem sd_ly (l : LY) : Sd 3 (lyD l) := Sd.tup fun e he => by
  rcases mem2 he with rfl | rfl
  · exact Sd.tup fun z hz => by
      obtain ⟨r, _, rfl⟩ := List.mem_map.mp hz
      exact sd_rw r
  · exact (sd_bk _).more (by omega)
theorem sd_win (x y : Int) (ms : List MV) : Sd 3 (winD x y ms) := Sd.tup fun e he => by
  rcases mem3 he with rfl | rfl | rfl
  · exact Sd.int _
  · exact Sd.int _
  · exact Sd.tup fun z hz => by
      obtain ⟨m, _, rfl⟩ := List.mem_map.mp hz
      exact sd_mv m
theorem sd_sh (ls : List LY) (x y : Int) (ms : List MV) : Sd 5 (shD ls x y ms) := Sd.tup fun e he => by
  rcases mem2 he with rfl | rfl
  · exact Sd.tup fun z hz => by
      obtain ⟨l, _, rfl⟩ := List.mem_map.mp hz
      exact sd_ly l
  · exact (sd_win x y ms).more (by omega)
/-- what met tells, as data -/
def toldD (d : PyData) : PyData := .tuple [.str "told", d]
def refD (i : Int) : PyData := .tuple [.str "refused", .int i]
def manyD (m n : Int) : PyData := .tuple [.str "many", .tuple [.int m, .int n]]
theorem sd_told {k : Nat} {d : PyData} (h : Sd k d) : Sd (k + 1) (toldD d) := Sd.tup fun e he => by
  rcases mem2 he with rfl | rfl
  · exact Sd.st (by decide +kernel)
  · exact h
theorem sd_ref (i : Int) : Sd 1 (refD i) := Sd.tup fun e he => by
  rcases mem2 he with rfl | rfl
  · exact Sd.st (by decide +kernel)
  · exact Sd.int i
theorem sd_many (m n : Int) : Sd 2 (manyD m n) := Sd.tup fun e he => by
  rcases mem2 he with rfl | rfl
  · exact Sd.st (by decide +kernel)
  · exact Sd.tup fun z hz => by rcases mem2 hz with rfl | rfl <;> exact Sd.int _
theorem told_dp {K : PySem.W.Frag} {H : Hp} {p : Addr} {v : V} {d : PyData} (h : SqT K H p [.str "told", v]) (hv : Dp K H v d) : Dp K H (.ref p) (toldD d) := .tup h (.cons (.str _) (.cons hv .nil))
theorem ref_dp {K : PySem.W.Frag} {H : Hp} {p : Addr} {i : Int} (h : SqT K H p [.str "refused", .int i]) : Dp K H (.ref p) (refD i) := .tup h (.cons (.str _) (.cons (.int i) .nil))
theorem many_dp {K : PySem.W.Frag} {H : Hp} {p q : Addr} {m n : Int} (h : SqT K H p [.str "many", .ref q]) (hq : SqT K H q [.int m, .int n]) : Dp K H (.ref p) (manyD m n) := .tup h (.cons (.str _) (.cons (.tup hq (.cons (.int m) (.cons (.int n) .nil))) .nil))
/-- != of two things of the same data -/
theorem ne_eqd {K : PySem.W.Frag} {H : Hp} {x y : V} {d : PyData} {Q : VK} (hx : Dp K H x d) (hy : Dp K H y d) (sd : ∃ k, Sd k d ∧ k ≤ 64) (q : Q (.bl false) H) : rNeD K x y H Q := by
  obtain ⟨k, s, hk⟩ := sd
  exact ne_same hx hy s hk q
/-- data that stands as long as the tuples do -/
def Dk (K : PySem.W.Frag) (H : Hp) (v : V) (d : PyData) : Prop := ∀ H', TKeep K H H' → Dp K H' v d
theorem Dk.keep {K : PySem.W.Frag} {H H' : Hp} {v : V} {d : PyData} (h : Dk K H v d) (k : TKeep K H H') : Dk K H' v d := fun H2 k2 => h H2 fun a xs z => k2 _ _ (k _ _ z)
theorem Dk.dp {K : PySem.W.Frag} {H : Hp} {v : V} {d : PyData} (h : Dk K H v d) : Dp K H v d := h H fun _ _ z => z
theorem ShAt.dk {K : PySem.W.Frag} {H : Hp} {v : V} {ls : List LY} {x y : Int} {ms : List MV} (h : ShAt K H v ls x y ms) : Dk K H v (shD ls x y ms) := fun H' k => (h.keep k).dp
theorem LyAt.dk {K : PySem.W.Frag} {H : Hp} {v : V} {l : LY} (h : LyAt K H v l) : Dk K H v (lyD l) := fun H' k => (LyAt.keep k h).dp
theorem told_dk {K : PySem.W.Frag} {H : Hp} {p : Addr} {v : V} {d : PyData} (h : SqT K H p [.str "told", v]) (hv : Dk K H v d) : Dk K H (.ref p) (toldD d) := fun H' k => told_dp (k _ _ h) (hv H' k)
theorem ref_dk {K : PySem.W.Frag} {H : Hp} {p : Addr} {i : Int} (h : SqT K H p [.str "refused", .int i]) : Dk K H (.ref p) (refD i) := fun H' k => ref_dp (k _ _ h)
theorem many_dk {K : PySem.W.Frag} {H : Hp} {p q : Addr} {m n : Int} (h : SqT K H p [.str "many", .ref q]) (hq : SqT K H q [.int m, .int n]) : Dk K H (.ref p) (manyD m n) := fun H' k => many_dp (k _ _ h) (k _ _ hq)
theorem pi_listK {X : Cx} {K : PySem.W.Frag} {tg l : Expr} {tl : TE} (hl : PE X l tl) (hK : X.K = K := by rfl) : PI X tg l (iList K tl) := by
  subst hK
  exact pi_list hl
theorem pi_tupK {X : Cx} {K : PySem.W.Frag} {tg l : Expr} {tl : TE} (hl : PE X l tl) (hK : X.K = K := by rfl) : PI X tg l (iTup K tl) := by
  subst hK
  exact pi_tup hl
/-- is not, of two truths -/
theorem op_notB {X : Cx} : OpR X (compareOp .IsNot) (fun x y H Q => ∃ a b, x = .bl a ∧ y = .bl b ∧ Q (.bl (!decide (a = b))) H) := by
  intro pins s σ H x y v u Q I rx ry h
  obtain ⟨a, b, rfl, rfl, q⟩ := h
  cases rx
  cases ry
  show wpAny _ _ ((isSame (Value.bool a) (Value.bool b)) >>= fun z => pure (Value.bool (!z))) _ _ s
  exact wpAny_bind (wpAny_isSame_plain rfl (wpAny_pure (fin_bl I q (by cases a <;> cases b <;> rfl))))

/-! ### a try whose body always refuses, the caught error kept in a name beyond the clause -/
/-- the context with one more thing that stands still -/
abbrev pnd (X : Cx) (p : Addr × Obj) : Cx := { X with pn := p :: X.pn }
theorem pnd_ok {X : Cx} {p : Addr × Obj} (ok : X.Ok) : (pnd X p).Ok := ok.toTry (p :: X.pn) X.xe
theorem inv_pnd {X : Cx} {p : Addr × Obj} {pins : List (Addr × Obj)} {σ : L2.St} {H : Hp} {s : Shared} (I : Inv X (p :: pins) σ H s) : Inv (pnd X p) pins σ H s :=
  ⟨pnd_ok I.ok, I.os, I.bare, I.base, I.loc, I.cell, I.free, I.freeC, fun q hq => I.pin q (by
    rcases List.mem_append.mp hq with h | h
    · rcases List.mem_cons.mp h with e | h
      · exact List.mem_append_right _ (by rw [e]; exact List.mem_cons_self)
      · exact List.mem_append_left _ h
    · exact List.mem_append_right _ (List.mem_cons_of_mem _ h)), I.hok, I.len⟩
theorem inv_unpnd {X : Cx} {p : Addr × Obj} {pins : List (Addr × Obj)} {σ : L2.St} {H : Hp} {s : Shared} (ok : X.Ok) (I : Inv (pnd X p) pins σ H s) : Inv X pins σ H s :=
  ⟨ok, I.os, I.bare, I.base, I.loc, I.cell, I.free, I.freeC, fun q hq => I.pin q (by
    rcases List.mem_append.mp hq with h | h
    · exact List.mem_append_left _ (List.mem_cons_of_mem _ h)
    · exact List.mem_append_right _ h), I.hok, I.len⟩
/-- behind the clause the caught one still stands -/
theorem inv_behind {X : Cx} {a : Addr} {oe : Obj} {pins pn' : List (Addr × Obj)} {σ : L2.St} {H : Hp} {s : Shared} (ok : X.Ok) (I : Inv (X.suite a ((a, oe) :: (X.pn ++ pins))) pn' σ H s) : Inv X ((a, oe) :: pins) σ H s :=
  ⟨ok, I.os, I.bare, I.base, I.loc, I.cell, I.free, I.freeC, fun q hq => I.pin q (List.mem_append_left _ (by
    rcases List.mem_append.mp hq with h | h
    · exact List.mem_cons_of_mem _ (List.mem_append_left _ h)
    · rcases List.mem_cons.mp h with e | h
      · rw [e]
        exact List.mem_cons_self
      · exact List.mem_cons_of_mem _ (List.mem_append_right _ h))), I.hok, I.len⟩
/-- no way goes on but by what is caught -/
def noEnds : Ends := { nx := fun _ _ => False, rt := fun _ _ => False, bk := fun _ _ => False, ct := fun _ _ => False }
/-- what is wished of a refusal: the clause takes it, its suite ends, and the rest is read with it -/
def wKeep (K : PySem.W.Frag) (c : Value) (i : Nat) (ts tr : Addr → Value → Option Addr → TS) (D : Ends) : WX := fun cls d σ H =>
  PySem.W.exmOne K cls c = some true ∧ ∀ a, H a = none → ts a cls d { noEnds with nx := fun σ' H' => tr a cls d D (σ'.set i none) H' } (σ.set i (some (.ref a))) H
section
variable {X : Cx} {x n : Str} {c : Value} {i : Nat} {body suite rest : List Stmt} {b₀ : Stmt} {np pos pos' : Pos} {tb : WX → TS} {ts tr : Addr → Value → Option Addr → TS}
theorem pss_keep (hs : X.stack = X.env :: X.outer) (hf : X.env.frame = some X.env.locals) (hN : X.N.Nodup) (hi : X.N[i]? = some n) (hln : X.env.kindOf n = some .local) (hc : Names X x c)
    (hb : ∀ (W : WX) (pn : List (Addr × Obj)) (xe : Value → Shared → Prop), Takes (X.tr pn xe) W → PSs (X.tr pn xe) body (tb W))
    (hsu : ∀ (a : Addr) (oe : Obj) (cls : Value) (d : Option Addr) (pn : List (Addr × Obj)), Zc cls d oe → (∃ vs, oe.data = .fields vs) → PSs (X.suite a ((a, oe) :: pn)) (b₀ :: suite) (ts a cls d))
    (hre : ∀ (a : Addr) (oe : Obj) (cls : Value) (d : Option Addr), Zc cls d oe → (∃ vs, oe.data = .fields vs) → PSs (pnd X (a, oe)) rest (tr a cls d)) :
    PSs X (.Try body [.ExceptHandler (some (.Name x np)) (some n) (b₀ :: suite) pos'] [] [] pos :: rest) (fun D σ H => tb (wKeep X.K c i ts tr D) noEnds σ H) := by
  refine ⟨fun pins s σ H D I h => wpAny_execs_cons (wpAny_Try_except ?_)⟩
  have ok := I.ok
  have frm : X.A.frames = some (X.env :: X.outer) := ok.frames.trans (congrArg some hs)
  refine wpAny_mono ((hb (wKeep X.K c i ts tr D) (X.pn ++ pins) _ fun u s' xx => ?_).run [] s σ H noEnds (I.toTry _) h) (fun f s1 z => ?_) (fun _ _ z => z)
  · obtain ⟨a, B, sI, _, σ1, H1, cls, d, rfl, J0, nb, up, sky, na, os, ag, take, go⟩ := xx
    have J : Inv X pins σ1 H1 sI := J0.ofTry ok
    rw [show (X.tr (X.pn ++ pins) _).stack = X.env :: X.outer from hs] at sky
    refine Sky.land Zc.steady frm hf sky fun hA flA upA => ?_
    have off : ∀ {hh : Heap}, HandSPX.FlyingZ B (X.env :: X.outer) a (Zc cls d) hh → a ≠ X.env.locals ∧ a ∉ X.fs ∧ ∃ oe, hh.get? a = some oe ∧ Zc cls d oe ∧ ∃ vs, oe.data = .fields vs := fun {hh} fl => by
      obtain ⟨oe, vs, e1, e2, e3⟩ := fl.there
      have nf : a ∉ frs (X.env :: X.outer) := fun m => by
        obtain ⟨_, o2, q1, q2⟩ := fl.2.2.1.mem m
        cases e1.symm.trans q1
        exact q2 _ e3
      refine ⟨fun q => nf (List.mem_filterMap.mpr ⟨X.env, List.mem_cons_self, hf.trans (congrArg some q.symm)⟩), fun m => nf ?_, oe, e1, e2, vs, e3⟩
      obtain ⟨en, m1, m2⟩ := List.mem_filterMap.mp m
      exact List.mem_filterMap.mpr ⟨en, List.mem_cons_of_mem _ m1, m2⟩
    obtain ⟨nL, nF, oA, eA, zA, vA, dA⟩ := off flA
    have JA : Inv X pins σ1 H1 { s' with heap := hA } := J.landed nb flA.1 (up.trans upA) os ag
    have SA := JA.suite eA dA na nL nF
    have tells : PySem.W.Looks (model X.prog X.w) hA (typeOf (.ref a)) cls := fun A Q E s k q => wpAny_typeOf_ref (k _ _ eA) (by rw [zA.1]; exact q)
    refine wpAny_handleBy_cons (codeAny_handlers_test ?_) (fun q => nomatch q)
    have named : ∀ {Q E : Value → Shared → Prop}, Q c { s' with heap := hA } → wpAny (model X.prog X.w) (X.A.mark (some (.ref a))) (eval (.Name x np) X.env) Q E { s' with heap := hA } := fun {Q E} q => by
      obtain ⟨g1, g2, g3⟩ := hc
      rcases g3 with m | ⟨m, b1, b2⟩
      · exact ld_glob (X := X.suite a ((a, oA) :: (X.pn ++ pins))) SA g1 m q g2
      · exact ld_blt (X := X.suite a ((a, oA) :: (X.pn ++ pins))) SA g1 m b1 q b2 g2
    refine named ((PySem.W.exm_one (M := model X.prog X.w) JA.kIn tells take).here ?_)
    refine codeAny_handlers_suite_as (HandSPX.lands_againZ flA fun hB flB upB => ?_)
    obtain ⟨_, _, oB, eB, zB, vB, dB⟩ := off flB
    have SB := (J.landed (s' := { s' with heap := hB }) nb flB.1 ((up.trans upA).trans upB) os ag).suite eB dB na nL nF
    refine store_ok (X := X.suite a ((a, oB) :: (X.pn ++ pins))) (v := .ref a) SB hN hi (.inl hln) rfl (fun sC SC => ?_) (.inr hln)
    refine wpAny_mono ((hsu a oB cls d (X.pn ++ pins) zB ⟨vB, dB⟩).run [] sC _ H1 _ SC (go a na)) (fun f sD z => ?_) (fun _ _ z => False.elim z)
    cases f with
    | next =>
      obtain ⟨σD, HD, ID, q⟩ := z
      refine gone_ok (inv_behind ok ID) hN hi hln fun sE IE => ?_
      refine wpAny_mono ((hre a oB cls d zB ⟨vB, dB⟩).run pins sE _ HD D (inv_pnd IE) q) (fun f sF z => ?_) (fun _ _ z => z)
      cases f with
      | next => exact z.imp fun _ z => z.imp fun _ z => ⟨inv_unpnd ok z.1, z.2⟩
      | brk => exact z.imp fun _ z => z.imp fun _ z => ⟨inv_unpnd ok z.1, z.2⟩
      | cont => exact z.imp fun _ z => z.imp fun _ z => ⟨inv_unpnd ok z.1, z.2⟩
      | ret u => exact z.imp fun _ z => z.imp fun _ z => z.imp fun _ z => ⟨inv_unpnd ok z.1, z.2⟩
    | brk => exact z.elim fun _ z => z.elim fun _ z => z.2.elim
    | cont => exact z.elim fun _ z => z.elim fun _ z => z.2.elim
    | ret u => exact z.elim fun _ z => z.elim fun _ z => z.elim fun _ z => z.2.2.elim
  · cases f with
    | next => exact z.elim fun _ z => z.elim fun _ z => z.2.elim
    | brk => exact z.elim fun _ z => z.elim fun _ z => z.2.elim
    | cont => exact z.elim fun _ z => z.elim fun _ z => z.2.elim
    | ret u => exact z.elim fun _ z => z.elim fun _ z => z.elim fun _ z => z.2.2.elim
end

/-! ### the end of a law that makes lambdas and calls repr -/
section
variable {P : Program} {w : World} {K : PySem.W.Frag} {mg : Str → Option Value}
theorem fun_okLG {base : Heap} {x qual : Str} {st : Stmt} {f cc : Addr} {fd : FuncData} {N ps : List Str} {k : Nat} {sp : Sp} (F : FunC K x qual st f fd cc) (S : FnScope N ps (defScope st)) (ln : ∀ vs H Q E, sp vs H Q E → vs.length = ps.length)
    (hbody : ∀ (A : Around) (outer : List Env) (s : Shared) (H : Hp) (vs : List V) (Q : VK) (E : XK), A.guards = some [] → Room k (A.deeper (envOfC qual (defScope st) s.heap.objs.size f (.ref cc))) → sp vs H Q E →
      ∃ t, PSs (cxOf CX0 P w K mg base N qual (defScope st) f (.ref cc) A outer s H E).nox (defBody st) t ∧ t { nx := fun _ H' => Q .non H', rt := Q } (L2.start N vs) H) : FnG P w K mg base (k + 1) f fd ps sp := by
  obtain ⟨oc, od, kV, doc, pm, an, ct, osl, e, l, c⟩ := F.ex
  have D : DefAt K x qual st f fd (.ref cc) := ⟨⟨kV, doc, pm, an, ct, e⟩, ⟨oc, od, osl, l⟩, c⟩
  refine ⟨ln, fun A outer s H args us vs Q E hgu hr e0 hb r hsp => D.call S hr.depth e0 hb fun s1 begun => ?_⟩
  obtain ⟨t, ht, hq⟩ := hbody A outer s H vs Q E hgu (hr.deeper _) hsp
  exact thn (ht.nox.run [] s1 _ H _ (inv_start S hr.hd e0 (ln _ _ _ _ hsp) r begun) hq) fun _ _ h => given_by rfl h
/-- the law's call from such a promise, the tables of its code objects told -/
theorem law_callGT {mb : Str → Option Value} {k : Nat} {fa a : Addr} {cs : List (Addr × Addr)} {fd : FuncData} {x : Str} {sp : Sp} {s₁ : Shared} {vs : List Value} {ns : List Int}
    (KX : K.In s₁.heap) (hns : s₁.heap.Ns mainGlobals mg) (hb : s₁.heap.Ns builtinsNs mb) (hbb : ∀ x : Str, x ≠ "__name__" → mb x = bootBuiltins x) (hlim : s₁.heap.NoLimit) (hge : s₁.gens = #[])
    (hT : ∀ p ∈ cs, s₁.heap.get? p.2 = some { cls := .none, data := .fields #[] }) (nT : ∀ p ∈ cs, K.lookup p.2 = none) (hC : ∀ p ∈ cs, PySem.W.CodeHd s₁.heap p.1 p.2)
    (hbm : ∃ (bm : Addr) (ob : Obj), mg "__builtins__" = some (.ref bm) ∧ bm ≠ builtinsNs ∧ s₁.heap.get? bm = some ob ∧ ob.cls = .type "module" ∧ ob.dict = some builtinsNs ∧ ob.data = .plain)
    (ha : s₁.heap.get? a = some { cls := .type "list", data := .seq vs.toArray }) (hi : IntsAre vs ns) (hl : ns.length ≤ sizeLine) (hr : Room k callerA)
    (F : ∀ base : Heap, K.In base → base.Ns mainGlobals mg → (∀ p ∈ cs, LamX.TabB base mg p.1 p.2) → FnG P w K mg base k fa fd [x] sp)
    (hbind : ∀ (s : Shared) (u : Value), BindsTo s fd ⟨[u], []⟩ [(x, u)])
    (hsp : ∀ H : Hp, (∀ p ∈ cs, H p.2 = some (.tbl #[])) → SqL K H a (ns.map V.int) → sp [.ref a] H (fun v _ => v = .bl true) fun _ _ _ => False) :
    codeAny (model P w) callerA (.call (.ref fa) ⟨[.ref a], []⟩)
      (fun r s' => r = .ok (.ret (.bool true)) ∧ OldK s₁.heap s'.heap ∧ s'.os = s₁.os ∧ AllBare s'.gens) s₁ := by
  have rv := vals_ints hi
  have lv := hi.length
  have tab : ∀ {b : Addr}, (∃ p ∈ cs, p.2 = b) → s₁.heap.get? b = some { cls := .none, data := .fields #[] } := fun {b} ⟨p, hp, e⟩ => e ▸ hT p hp
  have atab : ¬ ∃ p ∈ cs, p.2 = a := fun z => by
    have e := (tab z).symm.trans ha
    cases e
  have hex : ∃ H : Hp, (∀ b, (∃ p ∈ cs, p.2 = b) → H b = some (.tbl #[])) ∧ (K.lookup a = none → H a = some (.frz { cls := .type "list", data := .seq vs.toArray } (.lst (ns.map V.int)))) ∧
      ∀ b u, H b = some u → ((∃ p ∈ cs, p.2 = b) ∧ u = .tbl #[]) ∨ (b = a ∧ K.lookup a = none ∧ u = .frz { cls := .type "list", data := .seq vs.toArray } (.lst (ns.map V.int))) := by
    refine ⟨fun b => (open Classical in if ∃ p ∈ cs, p.2 = b then some (.tbl #[]) else if b = a ∧ K.lookup a = none then some (.frz { cls := .type "list", data := .seq vs.toArray } (.lst (ns.map V.int))) else none), fun b z => if_pos z, fun z => (if_neg atab).trans (if_pos ⟨rfl, z⟩), fun b u e => ?_⟩
    by_cases c1 : ∃ p ∈ cs, p.2 = b
    · exact .inl ⟨c1, (Option.some.inj ((if_pos c1).symm.trans e)).symm⟩
    · have e := (if_neg c1).symm.trans e
      by_cases c2 : b = a ∧ K.lookup a = none
      · exact .inr ⟨c2.1, c2.2, (Option.some.inj ((if_pos c2).symm.trans e)).symm⟩
      · cases (if_neg c2).symm.trans e
  obtain ⟨H, hHt, hHa, some_of⟩ := hex
  have none_of : ∀ {b o}, s₁.heap.get? b = some o → (∀ q n, o.data ≠ .seq q n) → o.data ≠ .fields #[] → H b = none := by
    intro b o e d1 d2
    cases c : H b with
    | none => rfl
    | some u =>
      rcases some_of b u c with ⟨z, _⟩ | ⟨z, _, _⟩
      · cases (tab z).symm.trans e
        exact absurd rfl d2
      · rw [z, ha] at e
        cases e
        exact absurd rfl (d1 _ _)
  have hS : SqL K H a (ns.map V.int) := by
    cases hk : K.lookup a with
    | none => exact .inl (.inr ⟨_, hHa hk⟩)
    | some o =>
      have e := KX a o hk
      rw [ha] at e
      cases e
      refine .inr ⟨_, vs.toArray, _, hk, rfl, rfl, rfl, ?_, by simpa using rv⟩
      rw [List.size_toArray, lv]
      exact hl
  have hok : HOk P w H s₁.heap := by
    intro b u e
    rcases some_of b u e with ⟨z, rfl⟩ | ⟨rfl, _, rfl⟩
    · exact tab z
    · refine ⟨ha, ?_, vs, _, rv, ha⟩
      rw [List.length_map]
      exact hl
  have nsB : ∀ {b : Addr} {m : Str → Option Value}, s₁.heap.Ns b m → (hidT s₁.heap H).Ns b m := by
    rintro b m ⟨o, es, ep, e, d, r⟩
    exact ⟨o, es, ep, hidT_get e (none_of e (fun q n z => by rw [d] at z; cases z) (fun z => by rw [d] at z; cases z)), d, r⟩
  have kB : K.In (hidT s₁.heap H) := by
    intro b o e
    refine hidT_get (KX b o e) ?_
    cases c : H b with
    | none => rfl
    | some u =>
      rcases some_of b u c with ⟨⟨p, hp, rfl⟩, _⟩ | ⟨rfl, k0, _⟩
      · rw [nT p hp] at e
        cases e
      · rw [k0] at e
        cases e
  have md : Mod K mg (hidT s₁.heap H) := by
    obtain ⟨mc, h1, h2⟩ := hlim
    exact ⟨kB, nsB hns, ⟨mb, nsB hb, hbb⟩, ⟨mc, nsB h1, h2⟩⟩
  have mainD : ∀ {b o}, s₁.heap.get? b = some o → (∀ es ep, o.data ≠ .dict es ep) → mainGlobals ≠ b := fun {b o} e d z => by
    obtain ⟨o', es, ep, e', d', _⟩ := hns
    rw [z, e] at e'
    cases e'
    exact d es ep d'
  have TB : ∀ p ∈ cs, LamX.TabB (hidT s₁.heap H) mg p.1 p.2 := fun p hp => by
    refine ⟨?_, ?_, mainD (hT p hp) (fun es ep z => nomatch z)⟩
    · obtain ⟨o, us, file, tf, flags, tg, inF, text, tt, e1, e2, e3, e4, e5⟩ := hC p hp
      refine ⟨o, us, file, tf, flags, tg, inF, text, tt, hidT_get e1 (none_of e1 (fun q n z => ?_) fun z => ?_), e2, e3, e4, e5⟩
      · rw [e3] at z
        cases z
      · rw [e3] at z
        cases z
        cases e4
    · obtain ⟨bm, ob, b1, b2, b3, b4, b5, b6⟩ := hbm
      refine ⟨bm, ob, b1, b2, (mainD b3 (fun es ep z => by rw [b6] at z; cases z)).symm, fun z => ?_, hidT_get b3 (none_of b3 (fun q n z => by rw [b6] at z; cases z) (fun z => by rw [b6] at z; cases z)), b4, b5, b6⟩
      rw [z, hT p hp] at b3
      cases b3
      cases b6
  have e0 : Env0 P w K mg (hidT s₁.heap H) callerA [] s₁ H := by
    refine ⟨rfl, md, fun b o e => of_hidT e, Nat.le_of_eq (hidT_size _ _), trivial, ?_, hok, .of_eq hge⟩
    intro b hb
    exact absurd (show b ∈ ([] : List Addr) from hb) (by simp)
  have go := (F _ kB (nsB hns) TB).run callerA [] s₁ H ⟨[.ref a], []⟩ [.ref a] [.ref a] _ _ rfl hr e0
    (hbind s₁ (.ref a)) (.cons rfl .nil) (hsp H (fun p hp => hHt p.2 ⟨p, hp, rfl⟩) hS)
  refine codeAny_mono go fun r s' h => ?_
  cases r with
  | error e => exact h.elim
  | ok fl =>
    cases fl with
    | ret u =>
      obtain ⟨v, H', os, bare, un, hok', r', qv⟩ := h
      have qv' : v = .bl true := qv
      subst qv'
      obtain rfl : u = Value.bool true := r'
      have each : ∀ b o, s₁.heap.get? b = some o → s'.heap.get? b = some o ∨ ((∃ p ∈ cs, p.2 = b) ∧ ∃ more : Array Value, s'.heap.get? b = some { cls := .none, data := .fields more }) := fun b o e => by
        cases c : H b with
        | none =>
          refine .inl (un.keep b o e c ?_ (by simp))
          intro z
          exact absurd (show b ∈ ([] : List Addr) from z) (by simp)
        | some u =>
          rcases some_of b u c with ⟨z, rfl⟩ | ⟨_, _, rfl⟩
          · obtain ⟨more, q⟩ := un.tbls b #[] c
            exact .inr ⟨z, _, hok' b _ q⟩
          · have c2 := un.frzs b _ _ c
            obtain ⟨e1, _⟩ := hok b _ c
            obtain ⟨e2, _⟩ := hok' b _ c2
            rw [e] at e1
            cases e1
            exact .inl e2
      refine ⟨rfl, ⟨fun b o e => ?_, fun b o e => ?_⟩, os, bare⟩
      · rcases each b o e with z | ⟨⟨p, hp, rfl⟩, more, z⟩
        · exact .inl z
        · cases e.symm.trans (hT p hp)
          exact .inr (.inl ⟨((hC p hp).tab (hT p hp)).isCodeTable, rfl, #[], more, rfl, by rw [Array.empty_append]; exact z⟩)
      · rcases each b o e with z | ⟨_, more, z⟩
        · exact ⟨_, z⟩
        · exact ⟨_, z⟩
    | next => exact False.elim h
    | brk => exact False.elim h
    | cont => exact False.elim h
end
/-- what is known of such a law at the head's heap -/
def LawAtG (l : PySem.W.OpenLaw) (w : World) (K : PySem.W.Frag) (k n : Nat) (x : Str) (mg : Str → Option Value) (fa : Addr) (h : Heap) : Prop :=
  ∃ (fd : FuncData) (cs : List (Addr × Addr)) (sp : Sp), (∀ p ∈ cs, h.get? p.2 = some { cls := .none, data := .fields #[] }) ∧ (∀ p ∈ cs, K.lookup p.2 = none) ∧ (∀ p ∈ cs, PySem.W.CodeHd h p.1 p.2) ∧ (∀ (s : Shared) (u : Value), BindsTo s fd ⟨[u], []⟩ [(x, u)]) ∧
    (∀ (H : Hp) (a : Addr) (ns : List Int), ns.length ≤ n → (∀ p ∈ cs, H p.2 = some (.tbl #[])) → SqL K H a (ns.map V.int) → sp [.ref a] H (fun v _ => v = .bl true) fun _ _ _ => False) ∧
    ∀ base : Heap, K.In base → base.Ns mainGlobals mg → (∀ p ∈ cs, LamX.TabB base mg p.1 p.2) → FnG l.prog w K mg base k fa fd [x] sp
theorem walk_ofLG {l : PySem.W.OpenLaw} {n k : Nat} {q : Program} {loose : List Str} {XP : (Str → Option Value) → Heap → Prop} {YP : World → Heap → Prop} {d : DefRec} {K : Params → PySem.W.Frag} {x : Str}
    (hn : l.most = some n) (hn2 : n ≤ sizeLine) (hdf : d.params.defaults = []) (hr : Room k callerA) (hY : ∀ (w : World) (h : Heap), YP w h → (K w.params).In h)
    (F : ∀ (w : World) (mg : Str → Option Value) (fa : Addr) (h : Heap), (K w.params).In h → h.Ns mainGlobals mg → mg d.name = some (.ref fa) → TabsIn q (K w.params) h → LawAtG l w (K w.params) k n x mg fa h) :
    PySem.W.WalkO q loose XP YP l.row.toRowW d [] (fun f vs => PySem.call f vs) := by
  refine Att.attach_callB hn hdf
    fun w s₀ s₁ mg mb fa o pm cd doc a vs ns G Y ho hd hcd hmg hobj hints hlen hbits hg => ?_
  have hK := hY w _ Y
  have tabs : TabsIn q (K w.params) s₁.heap := fun y c P hf ht => by
    obtain ⟨dL, hfd⟩ := Option.isSome_iff_exists.mp hf
    exact PySem.W.tab_of G.T hK hfd ht
  obtain ⟨fd, cs, sp, hT, nT, C, hb, hsp, hF⟩ := F w mg fa _ hK G.T.g hmg tabs
  exact law_callGT hK G.T.g G.T.b G.T.builtins G.T.nolimit hg hT nT C G.T.bmain hobj hints
    (Nat.le_trans hlen hn2) hr hF hb fun H hH hS => hsp H a ns hlen hH hS
/-- f(e, ..) where nothing is being shown -/
structure ClG (P : Program) (w : World) (K : PySem.W.Frag) (mg : Str → Option Value) (base : Heap) (k : Nat) (x : Str) (ps : List Str) (sp : Sp) : Prop where
  ex : ∃ (f : Addr) (fd : FuncData), FnG P w K mg base k f fd ps sp ∧ PySem.W.keepIn K (.ref f) = true ∧ Binds K fd ps [] ∧ mg x = some (.ref f)

/-! ### lengths of texts put together -/
theorem js_len {a b : Str} {m n : Nat} (ha : a.length ≤ m) (hb : b.length ≤ n) : (a ++ b).length ≤ m + n := by
  rw [strLen_append]
  omega
theorem js_ok {a : Str} {m : Nat} (ha : a.length ≤ m) (h : m ≤ 1000) : a.length ≤ sizeLine := Nat.le_trans ha (Nat.le_of_lt (small1000 h))
theorem it_len {i : Int} (h : i.natAbs ≤ 1000000000) : (Str.ofString (toString i)).length ≤ 60 ∧ i.natAbs.log2 < 1920 := by
  have hl : i.natAbs.log2 < 41 := by
    rcases Nat.eq_zero_or_pos i.natAbs with e | e
    · rw [e]
      decide
    · exact (Nat.log2_lt (by omega)).mpr (Nat.lt_of_le_of_lt h (by decide))
  have := int_text_length_le (a := i) (k := 41) (by decide) hl
  rw [PySem.ofString_length]
  omega

/-! ### zip of a tuple and a list -/
def ItzM (K : PySem.W.Frag) (a b : Addr) : It :=
  ⟨fun i H => ∃ (xs ys : List V) (x y : V), SqT K H a xs ∧ SqL K H b ys ∧ xs[i]? = some x ∧ ys[i]? = some y,
    fun i H v H' => ∃ T x y, v = .ref T ∧ H T = none ∧ H' = upd H T (.tup [x, y]) ∧ (∀ xs, SqT K H a xs → xs[i]? = some x) ∧ ∀ ys, SqL K H b ys → ys[i]? = some y,
    fun i H => ∃ xs ys : List V, SqT K H a xs ∧ SqL K H b ys ∧ i = min xs.length ys.length⟩
theorem turn_zipM {P : Program} {w : World} {K : PySem.W.Frag} {elts : List Expr} {kk : Nat} {tpos : Pos} {a b z TI TO i1 i2 : Addr} (S : ZipSep2 z TI TO i1 i2 [i1, a] [i2, b]) (na : a ≠ i1) (nb : b ≠ i2) :
    Turn P w K (.Tuple elts kk tpos) (ItzM K a b) [z, TI, TO, i1, i2] z (fun i h => IsZip h z TI TO .none ∧ IsTupOf2 h TI (.ref i1) (.ref i2) ∧ (∃ x y, IsTupOf2 h TO x y) ∧ h.IsTupleIter i1 a i ∧ h.IsListIter i2 b i) where
  mem := List.mem_cons_self ..
  obj := fun i h ⟨hz, hTI, ⟨x, y, hTO⟩, ⟨o1, e1, _, d1⟩, ⟨o2, e2, _, d2⟩⟩ c hc => by
    simp only [List.mem_cons, List.not_mem_nil, or_false] at hc
    rcases hc with rfl | rfl | rfl | rfl | rfl
    · exact ⟨_, hz, fun v z => nomatch z⟩
    · exact ⟨_, hTI, fun v z => nomatch z⟩
    · exact ⟨_, hTO, fun v z => nomatch z⟩
    · exact ⟨o1, e1, fun v z => by rw [d1] at z; cases z⟩
    · exact ⟨o2, e2, fun v z => by rw [d2] at z; cases z⟩
  keep := fun i h h' ⟨hz, hTI, ⟨x, y, hTO⟩, h1, h2⟩ k =>
    ⟨k z (by simp) _ hz, k TI (by simp) _ hTI, ⟨x, y, k TO (by simp) _ hTO⟩,
      h1.at (fun o e => k i1 (by simp) o e), h2.at (fun o e => k i2 (by simp) o e)⟩
  item := by
    intro X eP ew eK hc i pins s σ H E I hf st hg
    subst eP ew eK
    obtain ⟨hz, hTI, hTO, h1, h2⟩ := st
    obtain ⟨xs, ys, x, y, sx, sy, hx, hy⟩ := hg
    obtain ⟨its, rv, p1, _⟩ := I.tuple sx
    obtain ⟨its2, rv2, p2, _⟩ := I.list sy
    obtain ⟨u, hu, ru⟩ := rv.get hx
    obtain ⟨u2, hu2, ru2⟩ := rv2.get hy
    have hd : X.A.in1.handled = none := by simp [I.ok.hd hc]
    have lu := (List.getElem?_eq_some_iff.mp hu).1
    have lu2 := (List.getElem?_eq_some_iff.mp hu2).1
    refine (GoesN.zip2 S (Draws.tuple hd i1 a na its.toArray) (Draws.list hd i2 b nb its2.toArray)).goes i s _ E
      (by simp only [List.size_toArray]; omega) ⟨hz, hTI, hTO, ⟨h1, p1⟩, ⟨h2, p2.isList⟩⟩
      fun v h' tk hY st' hk _ => ?_
    obtain ⟨T, v1, v2, rfl, hT, e1, e2, hpair⟩ := hY
    obtain ⟨hz', hTI', hTO', ⟨h1', _⟩, ⟨h2', _⟩⟩ := st'
    have ev1 : v1 = u := by
      have : its[i]? = some v1 := by simpa using e1
      exact Option.some.inj (this.symm.trans hu)
    have ev2 : v2 = u2 := by
      have : its2[i]? = some v2 := by simpa using e2
      exact Option.some.inj (this.symm.trans hu2)
    subst ev1 ev2
    have new : ObjOk X.prog X.w (upd H T (.tup [x, y])) h' T (.tup [x, y]) :=
      ⟨by show 2 ≤ sizeLine; decide, [v1, v2], .cons ru (.cons ru2 .nil), hpair⟩
    have J : Inv X pins σ (upd H T (.tup [x, y])) { s with heap := h', toks := tk } :=
      I.turnedNew (ch := [z, TI, TO, i1, i2]) (fun c o hb e => hk c o (fun m => hb (by
        simp only [List.mem_cons, List.not_mem_nil, or_false] at m ⊢
        rcases m with m | m | m | m <;> simp [m])) e) hf hT new
    refine ⟨.ref T, _, J, rfl, ⟨T, x, y, rfl, I.hok.fresh hT, rfl, fun l hl => ?_, fun l hl => ?_⟩, ⟨hz', hTI', hTO', h1', h2'⟩, fun c hcm => ?_⟩
    · rw [I.tuple_inj hl sx]
      exact hx
    · rw [I.list_inj hl sy]
      exact hy
    · have hlt : c < s.heap.objs.size := by
        obtain ⟨x0, y0, hTO⟩ := hTO
        obtain ⟨o1, g1, _⟩ := h1
        obtain ⟨o2, g2, _⟩ := h2
        simp only [List.mem_cons, List.not_mem_nil, or_false] at hcm
        rcases hcm with rfl | rfl | rfl | rfl | rfl
        · exact Heap.lt_size hz
        · exact Heap.lt_size hTI
        · exact Heap.lt_size hTO
        · exact Heap.lt_size g1
        · exact Heap.lt_size g2
      rw [upd_ne (Nat.ne_of_lt (Nat.lt_of_lt_of_le hlt hT))]
      exact (hf c hcm).1
  done := by
    intro X eP ew eK hc i pins s σ H E I hf st hg
    subst eP ew eK
    obtain ⟨hz, hTI, hTO, h1, h2⟩ := st
    obtain ⟨xs, ys, sx, sy, hi⟩ := hg
    obtain ⟨its, rv, p1, _⟩ := I.tuple sx
    obtain ⟨its2, rv2, p2, _⟩ := I.list sy
    have hd : X.A.in1.handled = none := by simp [I.ok.hd hc]
    have l1 := rv.length
    have l2 := rv2.length
    have hin : i = min its.toArray.size its2.toArray.size := by
      simp only [List.size_toArray]
      omega
    refine (GoesN.zip2 (elts := elts) (x1 := kk) (pos := tpos) S (Draws.tuple hd i1 a na its.toArray) (Draws.list hd i2 b nb its2.toArray)).stops s _ E
      (by rw [← hin]; exact ⟨hz, hTI, hTO, ⟨h1, p1⟩, ⟨h2, p2.isList⟩⟩) fun h' tk hk _ => ?_
    exact I.turnedL (ch := [z, TI, TO, i1, i2]) (fun c o hb e => hk c o (fun m => hb (by
        simp only [List.mem_cons, List.not_mem_nil, or_false] at m ⊢
        rcases m with m | m | m | m <;> simp [m])) e) hf
  self := fun A i s Q E st h => wpAny_pyIter_zip st.1 h
def iZipM (K : PySem.W.Frag) (ta : TA) : TI := fun σ H R => ta σ H fun vs H1 => ∃ a b xs ys, vs = [.ref a, .ref b] ∧ SqT K H1 a xs ∧ SqL K H1 b ys ∧ R (ItzM K a b) H1
theorem pi_zipM {X : Cx} {e e2 : Expr} {ta : TA} {p pos tpos : Pos} {elts : List Expr} {kk : Nat} (hg : Gl X "zip") (hm : X.mg "zip" = none) (ha : PA X [e, e2] ta)
    (hs : starEach [e, e2] X.env = (false, eval e X.env) :: starEach [e2] X.env := by rfl) (hpl : (backTo pos (starEach [e2] X.env)).any (·.1) = false := by rfl) : PI X (.Tuple elts kk tpos) (.Call (.Name "zip" p) [e, e2] [] pos) (iZipM X.K ta) := by
  refine ⟨fun pins s σ H R I h => Call_ (ld_blt I hg hm PyProof.Rows.boot_zip
    (PyProof.Rows.callWith_type1 (thn (ha.run pos pins s σ H _ I h) fun us s1 hh => ?_) hs hpl))⟩
  obtain ⟨vs, H1, I1, r1, a, b, xs, ys, rfl, sx, sy, q⟩ := hh
  obtain ⟨u1, u2, rfl, r2, r3⟩ := vals2 r1
  cases (show u1 = Value.ref a from r2)
  cases (show u2 = Value.ref b from r3)
  obtain ⟨its, rv, p1, _⟩ := I1.tuple sx
  obtain ⟨its2, rv2, p2, _⟩ := I1.list sy
  obtain ⟨o1, ho1, _⟩ := id p1
  have la : a < s1.heap.objs.size := Heap.lt_size ho1
  have lb : b < s1.heap.objs.size := p2.lt
  refine zip_begins2 (begins_tuple a its.toArray) (begins_list b its2.toArray) p1 p2.isList
    fun h' hz hTI hTO g1 g2 hsz hk => wpAny_pyIter_zip hz ?_
  have I2 : Inv X pins σ H1 { s1 with heap := h' } := I1.kept (t' := s1.toks) hk
  refine ⟨s1.heap.objs.size + 4, [s1.heap.objs.size + 4, s1.heap.objs.size + 2, s1.heap.objs.size + 3, s1.heap.objs.size, s1.heap.objs.size + 1], _, _, H1, rfl, I2,
    turn_zipM (zip_sep2 (fp1 := [a]) (fp2 := [b]) (fun c hc => by rw [List.mem_singleton.mp hc]; exact la) (fun c hc => by rw [List.mem_singleton.mp hc]; exact lb)) (Nat.ne_of_lt la) (Nat.ne_of_lt (Nat.lt_succ_of_lt lb)),
    ⟨hz, hTI, ⟨_, _, hTO⟩, ⟨_, g1, rfl, rfl⟩, ⟨_, g2, rfl, rfl⟩⟩, fun c hcm => ?_, q⟩
  have hle : s1.heap.objs.size ≤ c := by
    simp only [List.mem_cons, List.not_mem_nil, or_false] at hcm
    rcases hcm with rfl | rfl | rfl | rfl | rfl
    · exact Nat.le_add_right _ _
    · exact Nat.le_add_right _ _
    · exact Nat.le_add_right _ _
    · exact Nat.le_refl _
    · exact Nat.le_add_right _ _
  exact (I1.fpOk hle (I1.hok.fresh hle))
theorem zipM_go {K : PySem.W.Frag} {a b : Addr} {xs ys : List V} {i : Nat} {H : Hp} (hl : xs.length = ys.length) (hx : SqT K H a xs) (hy : SqL K H b ys) (hi : i < xs.length) : (ItzM K a b).go i H :=
  ⟨xs, ys, _, _, hx, hy, List.getElem?_eq_getElem hi, List.getElem?_eq_getElem (by omega)⟩
theorem zipM_stop {K : PySem.W.Frag} {a b : Addr} {xs ys : List V} {H : Hp} (hl : xs.length = ys.length) (hx : SqT K H a xs) (hy : SqL K H b ys) : (ItzM K a b).stop xs.length H :=
  ⟨xs, ys, hx, hy, by omega⟩
theorem zipM_yld {K : PySem.W.Frag} {a b : Addr} {xs ys : List V} {i : Nat} {H : Hp} {v : V} {H' : Hp} (hx : SqT K H a xs) (hy : SqL K H b ys) (h : (ItzM K a b).yld i H v H') : ∃ T x y, v = .ref T ∧ H T = none ∧ H' = upd H T (.tup [x, y]) ∧ xs[i]? = some x ∧ ys[i]? = some y := by
  obtain ⟨T, x, y, e1, e2, e3, e4, e5⟩ := h
  exact ⟨T, x, y, e1, e2, e3, e4 _ hx, e5 _ hy⟩
/-- a loop over pairs, whatever gives them -/
theorem for_pairs {J : It} {xs ys : List V} {g : TG} {tb : TS} {D : Ends} {σ : L2.St} {H : Hp} (Pv : Nat → L2.St → Hp → Prop) (h0 : Pv 0 σ H) (go : ∀ i σ H, Pv i σ H → i < xs.length → J.go i H) (st : ∀ σ H, Pv xs.length σ H → J.stop xs.length H)
    (yl : ∀ i σ H v H', Pv i σ H → J.yld i H v H' → ∃ T x y, v = .ref T ∧ H T = none ∧ H' = upd H T (.tup [x, y]) ∧ xs[i]? = some x ∧ ys[i]? = some y)
    (hs : ∀ (i : Nat) (x y : V) (T : Addr) (σ : L2.St) (H : Hp), xs[i]? = some x → ys[i]? = some y → Pv i σ H → H T = none → g (.ref T) σ (upd H T (.tup [x, y])) fun σ2 H2 => tb { D with nx := Pv (i + 1), ct := Pv (i + 1), bk := D.nx } σ2 H2) (hd : ∀ σ H, Pv xs.length σ H → D.nx σ H) :
    ∃ W : Nat → Nat → L2.St → Hp → Prop, (∃ m, W 0 m σ H) ∧ ∀ i m σ H, W i m σ H →
      (J.stop i H ∧ D.nx σ H) ∨ (J.go i H ∧ ∃ N : L2.St → Hp → Prop, (∀ σ' H', N σ' H' → ∃ m', m' < m ∧ W (i + 1) m' σ' H') ∧ ∀ v H', J.yld i H v H' → g v σ H' fun σ2 H2 => tb { D with nx := N, ct := N, bk := D.nx } σ2 H2) := by
  refine ⟨fun i m σ H => m = xs.length - i ∧ i ≤ xs.length ∧ Pv i σ H,
    ⟨xs.length, by omega, Nat.zero_le _, h0⟩, fun i m σ H hW => ?_⟩
  obtain ⟨rfl, hi, hp⟩ := hW
  rcases Nat.lt_or_ge i xs.length with lt | ge
  · refine .inr ⟨go i σ H hp lt, Pv (i + 1), fun σ' H' z => ⟨xs.length - (i + 1), by omega, rfl, by omega, z⟩, fun v H' hv => ?_⟩
    obtain ⟨T, x, y, rfl, nT, rfl, hx, hy⟩ := yl i σ H v H' hp hv
    exact hs i x y T σ H hx hy hp nT
  · have e : i = xs.length := by omega
    subst e
    exact .inl ⟨st σ H hp, hd σ H hp⟩
/-- a comprehension over pairs, whatever gives them -/
theorem lc_pairs {J : It} {xs ys : List V} {g : TG} {tt : TT} {te : TE} {vs : List Nat} {σ : L2.St} {H1 : Hp} {D : Addr} {Qd : Hp → Prop} (Pv : Nat → Hp → Prop) (h0 : Pv 0 (upd H1 D (.lst []))) (go : ∀ i H, Pv i H → i < xs.length → J.go i H) (st : ∀ H, Pv xs.length H → J.stop xs.length H)
    (yl : ∀ i H v H', Pv i H → J.yld i H v H' → ∃ T x y, v = .ref T ∧ H T = none ∧ H' = upd H T (.tup [x, y]) ∧ xs[i]? = some x ∧ ys[i]? = some y)
    (hs : ∀ (i : Nat) (x y : V) (T : Addr) (H : Hp), xs[i]? = some x → ys[i]? = some y → Pv i H → H T = none → g (.ref T) (wipe σ vs) (upd H T (.tup [x, y])) fun σ2 H2 => wipe σ2 vs = wipe σ vs ∧ tt σ2 H2 fun b H3 =>
      if b = true then te σ2 H3 fun z H4 => ∃ acc, H4 D = some (.lst acc) ∧ acc.length < sizeLine ∧ Pv (i + 1) (upd H4 D (.lst (acc ++ [z]))) else Pv (i + 1) H3) (hd : ∀ H, Pv xs.length H → Qd H) :
    ∃ W : Nat → Nat → Hp → Prop, (∃ m, W 0 m (upd H1 D (.lst []))) ∧ ∀ i m H, W i m H →
      (J.stop i H ∧ Qd H) ∨ (J.go i H ∧ ∃ Nx : Hp → Prop, (∀ H', Nx H' → ∃ m', m' < m ∧ W (i + 1) m' H') ∧ ∀ x H', J.yld i H x H' → g x (wipe σ vs) H' fun σ2 H2 => wipe σ2 vs = wipe σ vs ∧ tt σ2 H2 fun b H3 =>
        if b = true then te σ2 H3 fun y H4 => ∃ acc, H4 D = some (.lst acc) ∧ acc.length < sizeLine ∧ Nx (upd H4 D (.lst (acc ++ [y]))) else Nx H3) := by
  refine ⟨fun i m H => m = xs.length - i ∧ i ≤ xs.length ∧ Pv i H,
    ⟨xs.length, by omega, Nat.zero_le _, h0⟩, fun i m H hW => ?_⟩
  obtain ⟨rfl, hi, hp⟩ := hW
  rcases Nat.lt_or_ge i xs.length with lt | ge
  · refine .inr ⟨go i H hp lt, Pv (i + 1), fun H' z => ⟨xs.length - (i + 1), by omega, rfl, by omega, z⟩, fun v H' hv => ?_⟩
    obtain ⟨T, x, y, rfl, nT, rfl, hx, hy⟩ := yl i H v H' hp hv
    exact hs i x y T H hx hy hp nT
  · have e : i = xs.length := by omega
    subst e
    exact .inl ⟨st H hp, hd H hp⟩

/-! ### things of whatever kind, as data -/
mutual
inductive Dg (K : PySem.W.Frag) (fx : Hp) (H : Hp) : Bool → V → PyData → Prop
  | non {b : Bool} : Dg K fx H b .non .none
  | bl {b : Bool} (x : Bool) : Dg K fx H b (.bl x) (.bool x)
  | int {b : Bool} (i : Int) : Dg K fx H b (.int i) (.int i)
  | str {b : Bool} (x : Str) : Dg K fx H b (.str x) (.str x)
  | tup {b : Bool} {a : Addr} {xs : List V} {ds : List PyData} : SqT K H a xs → DgAll K fx H b xs ds → Dg K fx H b (.ref a) (.tuple ds)
  | lst {a : Addr} {xs : List V} {ds : List PyData} : fx a = none → H a = some (.lst xs) → DgAll K fx H true xs ds → Dg K fx H true (.ref a) (.list ds)
  | dic0 {a : Addr} : fx a = none → H a = some (.dK []) → Dg K fx H false (.ref a) (.dict [])
  | dic1 {a : Addr} {k : Str} {i : Int} : fx a = none → H a = some (.dK [(Sum.inr k, .int i)]) → Dg K fx H false (.ref a) (.dict [(.str k, .int i)])
inductive DgAll (K : PySem.W.Frag) (fx : Hp) (H : Hp) : Bool → List V → List PyData → Prop
  | nil {b : Bool} : DgAll K fx H b [] []
  | cons {b : Bool} {v : V} {vs : List V} {d : PyData} {ds : List PyData} : Dg K fx H b v d → DgAll K fx H b vs ds → DgAll K fx H b (v :: vs) (d :: ds)
end
mutual
theorem Dg.kp {K : PySem.W.Frag} {fx : Hp} {H H' : Hp} (kt : TKeep K H H') (kb : ∀ b o, fx b = none → H b = some o → H' b = some o) : ∀ {b : Bool} {v : V} {d : PyData}, Dg K fx H b v d → Dg K fx H' b v d
  | _, _, _, .non => .non
  | _, _, _, .bl x => .bl x
  | _, _, _, .int i => .int i
  | _, _, _, .str x => .str x
  | _, _, _, .tup h q => .tup (kt _ _ h) (DgAll.kp kt kb q)
  | _, _, _, .lst n h q => .lst n (kb _ _ n h) (DgAll.kp kt kb q)
  | _, _, _, .dic0 n h => .dic0 n (kb _ _ n h)
  | _, _, _, .dic1 n h => .dic1 n (kb _ _ n h)
theorem DgAll.kp {K : PySem.W.Frag} {fx : Hp} {H H' : Hp} (kt : TKeep K H H') (kb : ∀ b o, fx b = none → H b = some o → H' b = some o) : ∀ {b : Bool} {v : List V} {d : List PyData}, DgAll K fx H b v d → DgAll K fx H' b v d
  | _, _, _, .nil => .nil
  | _, _, _, .cons h q => .cons (Dg.kp kt kb h) (DgAll.kp kt kb q)
end
theorem Dg.sm {K : PySem.W.Frag} {fx : Hp} {H H' : Hp} {b : Bool} {v : V} {d : PyData} (s : Same H H') (h : Dg K fx H b v d) : Dg K fx H' b v d := Dg.kp (Same.tk s) (fun a o _ e => s a o e) h
theorem Dg.gr {K : PySem.W.Frag} {fx : Hp} {st : Addr} {H H' : Hp} {b : Bool} {v : V} {d : PyData} (g : Gr st H H') (hs : IsSt H st) (hf : fx st ≠ none) (h : Dg K fx H b v d) : Dg K fx H' b v d := Dg.kp (g.tk hs) (fun b o hb e => g.1 b o (fun z => hf (by rw [← z]; exact hb)) e) h
theorem DgAll.gr {K : PySem.W.Frag} {fx : Hp} {st : Addr} {H H' : Hp} {b : Bool} {v : List V} {d : List PyData} (g : Gr st H H') (hs : IsSt H st) (hf : fx st ≠ none) (h : DgAll K fx H b v d) : DgAll K fx H' b v d := DgAll.kp (g.tk hs) (fun b o hb e => g.1 b o (fun z => hf (by rw [← z]; exact hb)) e) h
theorem Gr.free {st p : Addr} {H H' : Hp} (g : Gr st H H') (hs : IsSt H st) (np : H' p = none) : H p = none := by
  cases e : H p with
  | none => rfl
  | some o =>
    by_cases z : p = st
    · subst z
      obtain ⟨x, y, hx, _⟩ := g.2 hs
      rw [hx] at np
      cases np
    · rw [g.1 p o z e] at np
      cases np
theorem st_some {st : Addr} {H : Hp} (hs : IsSt H st) : H st ≠ none := by
  obtain ⟨x, y, hx, _⟩ := hs
  rw [hx]
  exact fun z => nomatch z
/-- a wider world knows more old places -/
theorem dg_dummy : True := trivial
theorem DgAll.sm {K : PySem.W.Frag} {fx : Hp} {H H' : Hp} {b : Bool} {v : List V} {d : List PyData} (s : Same H H') (h : DgAll K fx H b v d) : DgAll K fx H' b v d := DgAll.kp (Same.tk s) (fun a o _ e => s a o e) h
mutual
theorem Dg.wk {K : PySem.W.Frag} {fx fy H : Hp} (w : ∀ a, fx a = none → fy a = none) : ∀ {b : Bool} {v : V} {d : PyData}, Dg K fx H b v d → Dg K fy H b v d
  | _, _, _, .non => .non
  | _, _, _, .bl x => .bl x
  | _, _, _, .int i => .int i
  | _, _, _, .str x => .str x
  | _, _, _, .tup h q => .tup h (DgAll.wk w q)
  | _, _, _, .lst n h q => .lst (w _ n) h (DgAll.wk w q)
  | _, _, _, .dic0 n h => .dic0 (w _ n) h
  | _, _, _, .dic1 n h => .dic1 (w _ n) h
theorem DgAll.wk {K : PySem.W.Frag} {fx fy H : Hp} (w : ∀ a, fx a = none → fy a = none) : ∀ {b : Bool} {v : List V} {d : List PyData}, DgAll K fx H b v d → DgAll K fy H b v d
  | _, _, _, .nil => .nil
  | _, _, _, .cons h q => .cons (Dg.wk w h) (DgAll.wk w q)
end
theorem DgAll.len {K : PySem.W.Frag} {fx : Hp} {H : Hp} : ∀ {b : Bool} {vs : List V} {ds : List PyData}, DgAll K fx H b vs ds → vs.length = ds.length
  | _, _, _, .nil => rfl
  | _, _, _, .cons _ t => by rw [List.length_cons, List.length_cons, DgAll.len t]
theorem DgAll.at {K : PySem.W.Frag} {fx : Hp} {H : Hp} : ∀ {b : Bool} {vs : List V} {ds : List PyData} {i : Nat} {v : V}, DgAll K fx H b vs ds → vs[i]? = some v → ∃ d, ds[i]? = some d ∧ Dg K fx H b v d
  | _, _, _, i, v, .nil, h => by simp at h
  | _, _, _, 0, v, .cons a t, h => by
    have e : _ = v := Option.some.inj h
    subst e
    exact ⟨_, rfl, a⟩
  | _, _, _, i + 1, v, .cons a t, h => DgAll.at (i := i) t h
theorem DgAll.app {K : PySem.W.Frag} {fx : Hp} {H : Hp} {b : Bool} {ws : List V} {es : List PyData} (q : DgAll K fx H b ws es) : ∀ {vs : List V} {ds : List PyData}, DgAll K fx H b vs ds → DgAll K fx H b (vs ++ ws) (ds ++ es)
  | _, _, .nil => q
  | _, _, .cons a t => .cons a (DgAll.app q t)
theorem DgAll.tk {K : PySem.W.Frag} {fx : Hp} {H : Hp} {b : Bool} : ∀ (n : Nat) {vs : List V} {ds : List PyData}, DgAll K fx H b vs ds → DgAll K fx H b (vs.take n) (ds.take n)
  | 0, _, _, _ => .nil
  | _ + 1, _, _, .nil => .nil
  | n + 1, _, _, .cons a t => .cons a (DgAll.tk n t)
theorem DgAll.dr {K : PySem.W.Frag} {fx : Hp} {H : Hp} {b : Bool} : ∀ (n : Nat) {vs : List V} {ds : List PyData}, DgAll K fx H b vs ds → DgAll K fx H b (vs.drop n) (ds.drop n)
  | 0, _, _, q => q
  | _ + 1, _, _, .nil => .nil
  | n + 1, _, _, .cons _ t => DgAll.dr n t
/-! kinds -/
def tyn : PyData → String
  | .none => "NoneType"
  | .bool _ => "bool"
  | .int _ => "int"
  | .str _ => "str"
  | .list _ => "list"
  | .tuple _ => "tuple"
  | .dict _ => "dict"
def isB : PyData → Bool
  | .bool _ => true
  | _ => false
def isI : PyData → Bool
  | .bool _ => true
  | .int _ => true
  | _ => false
def isT : PyData → Bool
  | .tuple _ => true
  | _ => false
theorem Dg.ty {K : PySem.W.Frag} {fx : Hp} {H : Hp} {b : Bool} {v : V} {d : PyData} (h : Dg K fx H b v d) : TyX K H v (.type (tyn d)) := by
  cases h with
  | non => exact .base .non
  | bl x => exact .base (.bl x)
  | int i => exact .base (.int i)
  | str x => exact .base (.str x)
  | tup h q => exact tyT h
  | lst n h q => exact .base (.lst h)
  | dic0 n h => exact .base (.dK h)
  | dic1 n h => exact .base (.dK h)
theorem kB (d : PyData) : kitB (tyn d) "bool" = some (isB d) := by cases d <;> simp only [tyn, isB] <;> decide +kernel
theorem kI (d : PyData) : kitB (tyn d) "int" = some (isI d) := by cases d <;> simp only [tyn, isI] <;> decide +kernel
theorem kT (d : PyData) : kitB (tyn d) "tuple" = some (isT d) := by cases d <;> simp only [tyn, isT] <;> decide +kernel
def isW (d : PyData) (l m : Int) : Bool := match d with
  | .int n => decide (l ≤ n ∧ n ≤ m)
  | _ => false
def isTup (d : PyData) (l m : Int) : Bool := match d with
  | .tuple ds => decide (l ≤ (ds.length : Int) ∧ (ds.length : Int) ≤ m)
  | _ => false
def isRowD (d : PyData) : Bool := match d with
  | .tuple [a, b] => isW a 0 9 && isW b 1 24
  | _ => false
def bkOk (b : PyData) (n : Int) : Bool := match b with
  | .none => true
  | b => isW b 0 n
def isLayD (d : PyData) : Bool := match d with
  | .tuple [.tuple rs, b] => decide (rs.length ≤ 8) && rs.all isRowD && bkOk b ((rs.length : Int) - 1)
  | _ => false
def isSpotD (x y : PyData) : Bool := isW x (-20) 20 && isW y (-20) 20
def isMoveD (d : PyData) : Bool := match d with
  | .tuple [x, y, n] => isSpotD x y && isW n 0 24
  | _ => false
def isWinD (d : PyData) : Bool := match d with
  | .tuple [x, y, .tuple ms] => isSpotD x y && decide (ms.length ≤ 8) && ms.all isMoveD
  | _ => false
def isShD (d : PyData) : Bool := match d with
  | .tuple [.tuple ls, w] => decide (1 ≤ ls.length ∧ ls.length ≤ 4) && ls.all isLayD && isWinD w
  | _ => false
theorem three_of {α : Type} {xs : List α} (h : xs.length = 3) : ∃ a b c, xs = [a, b, c] := by
  match xs, h with
  | [a, b, c], _ => exact ⟨a, b, c, rfl⟩
theorem mv_no {d : PyData} (h : isTup d 3 3 = false) : isMoveD d = false := by
  unfold isMoveD
  split
  · simp [isTup] at h
  · rfl
theorem win_no {d : PyData} (h : isTup d 3 3 = false) : isWinD d = false := by
  unfold isWinD
  split
  · simp [isTup] at h
  · rfl
theorem win_no2 {x y m : PyData} (h : isTup m 0 8 = false) : isWinD (.tuple [x, y, m]) = false := by
  cases m with
  | tuple ms =>
    have h' : decide ((0 : Int) ≤ (ms.length : Int) ∧ (ms.length : Int) ≤ 8) = false := h
    have : ¬ ms.length ≤ 8 := fun z => by
      rw [decide_eq_true (show (0 : Int) ≤ (ms.length : Int) ∧ (ms.length : Int) ≤ 8 from ⟨by omega, by omega⟩)] at h'
      cases h'
    show (isSpotD x y && decide (ms.length ≤ 8) && ms.all isMoveD) = false
    rw [decide_eq_false this, Bool.and_false]
    rfl
  | _ => rfl
theorem win_eq {x y : PyData} {ms : List PyData} (h : ms.length ≤ 8) : isWinD (.tuple [x, y, .tuple ms]) = (isSpotD x y && ms.all isMoveD) := by
  show (isSpotD x y && decide (ms.length ≤ 8) && ms.all isMoveD) = _
  rw [decide_eq_true h, Bool.and_true]
theorem sh_no {d : PyData} (h : isTup d 2 2 = false) : isShD d = false := by
  unfold isShD
  split
  · simp [isTup] at h
  · rfl
theorem sh_no2 {l w : PyData} (h : isTup l 1 4 = false) : isShD (.tuple [l, w]) = false := by
  cases l with
  | tuple ls =>
    have h' : decide ((1 : Int) ≤ (ls.length : Int) ∧ (ls.length : Int) ≤ 4) = false := h
    have : ¬ (1 ≤ ls.length ∧ ls.length ≤ 4) := fun z => by
      rw [decide_eq_true (show (1 : Int) ≤ (ls.length : Int) ∧ (ls.length : Int) ≤ 4 from ⟨by omega, by omega⟩)] at h'
      cases h'
    show (decide (1 ≤ ls.length ∧ ls.length ≤ 4) && ls.all isLayD && isWinD w) = false
    rw [decide_eq_false this]
    rfl
  | _ => rfl
theorem sh_eq {ls : List PyData} {w : PyData} (h : 1 ≤ ls.length ∧ ls.length ≤ 4) : isShD (.tuple [.tuple ls, w]) = (ls.all isLayD && isWinD w) := by
  show (decide (1 ≤ ls.length ∧ ls.length ≤ 4) && ls.all isLayD && isWinD w) = _
  rw [decide_eq_true h, Bool.true_and]
/-! ### repr of things of whatever kind -/
section
variable {X : Cx} {pins : List (Addr × Obj)} {σ : L2.St} {H : Hp} {s : Shared}
theorem dic_reads (I : Inv X pins σ H s) {a : Addr} {kvs : List (Key × V)} (h : H a = some (.dK kvs)) : a ≠ sysModules ∧ ∃ o es ep vs, s.heap.get? a = some o ∧ o.cls = .type "dict" ∧ o.data = .dict es ep ∧ KV kvs vs ∧ Pairs (mixKind X.prog X.w) es.toList vs := by
  obtain ⟨_, hn, vs, kv, o, es, ep, h1, h2, h3, _, h5, _⟩ := (show ObjOk X.prog X.w H s.heap a (.dK kvs) from I.hok a _ h)
  exact ⟨fun e => by rw [e] at hn; simp at hn, o, es, ep, vs, h1, h2.1, h3, kv, h5⟩
mutual
theorem Dg.reads (I : Inv X pins σ H s) {fx : Hp} : ∀ {b : Bool} {v : V} {d : PyData} {u : Value}, Dg X.K fx H b v d → RelV v u → ∃ as, Reads s.heap u d as ∧ (b = true → d.hasDict = false) ∧ (b = false → sysModules ∉ as)
  | _, _, _, _, .non, r => by
    cases r
    exact ⟨_, Reads.none, fun _ => rfl, fun _ h => nomatch h⟩
  | _, _, _, _, .bl x, r => by
    cases r
    exact ⟨_, Reads.bool x, fun _ => rfl, fun _ h => nomatch h⟩
  | _, _, _, _, .int i, r => by
    obtain ⟨t, rfl⟩ := r
    exact ⟨_, Reads.int i t, fun _ => rfl, fun _ h => nomatch h⟩
  | _, _, _, _, .str x, r => by
    obtain ⟨t, rfl⟩ := r
    exact ⟨_, Reads.str x t, fun _ => rfl, fun _ h => nomatch h⟩
  | _, _, _, _, .tup h q, r => by
    cases r
    obtain ⟨its, rv, ⟨o, ho, hc, n, hd⟩, _⟩ := I.tuple h
    obtain ⟨as, hr, h1, h2⟩ := DgAll.reads I q rv
    exact ⟨_, Reads.tuple ho hc hd hr, h1, h2⟩
  | _, _, _, _, .lst _ h q, r => by
    cases r
    obtain ⟨its, rv, ⟨o, n, ho, hc, _, hd⟩, _⟩ := I.list (.inl (.inl h))
    obtain ⟨as, hr, h1, h2⟩ := DgAll.reads I q rv
    exact ⟨_, Reads.list ho hc hd hr, h1, fun z => nomatch z⟩
  | _, _, _, _, .dic0 (a := a) _ h, r => by
    cases r
    obtain ⟨hn, o, es, ep, vs, h1, h2, h3, kv, pr⟩ := dic_reads I h
    cases kv
    have e0 : es.toList = [] := by
      cases h' : es.toList with
      | nil => rfl
      | cons x r =>
        rw [h'] at pr
        cases pr
    refine ⟨a :: [] ++ [], Reads.dict h1 h2 h3 ?_ ?_, fun z => (Bool.false_ne_true z).elim, fun _ hm => hn ?_⟩
    · rw [e0]
      exact .nil
    · rw [e0]
      exact .nil
    · exact (List.mem_singleton.mp (by simpa using hm)).symm
  | _, _, _, _, .dic1 (a := a) (k := k) (i := i) _ h, r => by
    cases r
    obtain ⟨hn, o, es, ep, vs, h1, h2, h3, kv, pr⟩ := dic_reads I h
    obtain ⟨u, t, rfl, e1, e2⟩ : ∃ (u : Value) (t : Tok), vs = [(Sum.inr k, u)] ∧ u = .int i t ∧ True := by
      cases kv with
      | cons hh tt =>
        cases tt
        rename_i q
        obtain ⟨q1, q2⟩ := q
        obtain ⟨f1, t, f2⟩ := hh
        dsimp only at f1 f2
        subst f1 f2
        exact ⟨_, t, rfl, rfl, trivial⟩
    subst e1
    obtain ⟨e, hee, hk, hv⟩ : ∃ e : DictEntry, es.toList = [e] ∧ keyIs (Sum.inr k) e.key = true ∧ e.val = .int i t := by
      cases h' : es.toList with
      | nil =>
        rw [h'] at pr
        cases pr
      | cons x r =>
        rw [h'] at pr
        cases pr with
        | cons p1 p2 p3 =>
          cases p3
          exact ⟨x, rfl, p1, p2⟩
    obtain ⟨tk, hkk⟩ := keyIs_rel hk
    refine ⟨a :: ([] ++ []) ++ ([] ++ []), Reads.dict h1 h2 h3 ?_ ?_, fun z => (Bool.false_ne_true z).elim, fun _ hm => hn ?_⟩
    · rw [hee]
      show ReadsAll _ [e.key] [.str k] _
      rw [hkk]
      exact .cons (.str k tk) .nil
    · rw [hee]
      show ReadsAll _ [e.val] [.int i] _
      rw [hv]
      exact .cons (.int i t) .nil
    · exact (List.mem_singleton.mp (by simpa using hm)).symm
theorem DgAll.reads (I : Inv X pins σ H s) {fx : Hp} : ∀ {b : Bool} {vs : List V} {ds : List PyData} {us : List Value}, DgAll X.K fx H b vs ds → Vals vs us → ∃ as, ReadsAll s.heap us ds as ∧ (b = true → PyData.hasDictAll ds = false) ∧ (b = false → sysModules ∉ as)
  | _, _, _, _, .nil, r => by
    cases r
    exact ⟨_, ReadsAll.nil, fun _ => rfl, fun _ h => nomatch h⟩
  | _, _, _, _, .cons h q, r => by
    cases r with
    | cons r1 r2 =>
      obtain ⟨as, a1, a2, a3⟩ := Dg.reads I h r1
      obtain ⟨bs, b1, b2, b3⟩ := DgAll.reads I q r2
      refine ⟨_, ReadsAll.cons a1 b1, fun z => ?_, fun z hm => ?_⟩
      · show (_ || _) = false
        rw [a2 z, b2 z]
        rfl
      · rcases List.mem_append.mp hm with m | m
        · exact a3 z m
        · exact b3 z m
end
end
structure RQ (k w : Nat) (d : PyData) : Prop where
  sh : d.showable = true
  dp : d.depth ≤ k
  lv : d.leavesShort 40 = true
  wt : d.weight ≤ w
theorem RQ.fits {k w : Nat} {d : PyData} (h : RQ k w d) (hw : w ≤ 300000) : d.shown.length ≤ sizeLine := by
  have := PyData.shown_le 40 (by decide) d h.lv
  have := h.wt
  have e : sizeLine = 16777216 := by decide
  omega
theorem RQ.more {k w k' w' : Nat} {d : PyData} (h : RQ k w d) (h1 : k ≤ k') (h2 : w ≤ w') : RQ k' w' d := ⟨h.sh, Nat.le_trans h.dp h1, h.lv, Nat.le_trans h.wt h2⟩
theorem RQ.non : RQ 0 100 .none := ⟨rfl, Nat.le_refl _, rfl, Nat.zero_le _⟩
theorem RQ.bl (b : Bool) : RQ 0 100 (.bool b) := ⟨rfl, Nat.le_refl _, rfl, Nat.zero_le _⟩
theorem RQ.int {i : Int} (h : i.natAbs < 10 ^ 30) : RQ 0 100 (.int i) := by
  have hl : i.natAbs.log2 < 100 := by
    rcases Nat.eq_zero_or_pos i.natAbs with e | e
    · rw [e]
      decide
    · exact (Nat.log2_lt (by omega)).mpr (Nat.lt_trans h (by decide))
  refine ⟨decide_eq_true (by omega), Nat.le_refl _, decide_eq_true ?_, ?_⟩
  · show (Str.ofString (toString i)).length ≤ 40
    have := int_text_length_le10 (a := i) (k := 30) (by decide) h
    rw [show (Str.ofString (toString i)).length = (toString i).length from PyProof.Rows.ofString_len _]
    omega
  · show (if i == 0 then 0 else i.natAbs.log2 + 1) ≤ 100
    split <;> omega
theorem rq_all {k w : Nat} : ∀ {ds : List PyData}, (∀ e ∈ ds, RQ k w e) → PyData.showableAll ds = true ∧ PyData.depthAll ds ≤ k ∧ PyData.leavesShortAll 40 ds = true ∧ PyData.weightAll ds ≤ ds.length * (w + 1)
  | [], _ => ⟨rfl, Nat.zero_le _, rfl, Nat.zero_le _⟩
  | d :: t, h => by
    obtain ⟨a, c, e, f⟩ := rq_all (ds := t) fun x hx => h x (List.mem_cons_of_mem _ hx)
    have h1 := h d (List.mem_cons_self ..)
    refine ⟨?_, ?_, ?_, ?_⟩
    · show (d.showable && PyData.showableAll t) = true
      rw [h1.sh, a]
      rfl
    · show max d.depth (PyData.depthAll t) ≤ k
      exact Nat.max_le.mpr ⟨h1.dp, c⟩
    · show (d.leavesShort 40 && PyData.leavesShortAll 40 t) = true
      rw [h1.lv, e]
      rfl
    · show d.weight + 1 + PyData.weightAll t ≤ (t.length + 1) * (w + 1)
      have := h1.wt
      rw [Nat.add_mul, Nat.one_mul]
      omega
theorem RQ.tup {k w n : Nat} {ds : List PyData} (h : ∀ e ∈ ds, RQ k w e) (hn : ds.length * (w + 1) ≤ n) : RQ (k + 1) n (.tuple ds) := by
  obtain ⟨a, c, e, f⟩ := rq_all h
  exact ⟨a, Nat.succ_le_succ c, e, Nat.le_trans f hn⟩
theorem RQ.lst {k w n : Nat} {ds : List PyData} (h : ∀ e ∈ ds, RQ k w e) (hn : ds.length * (w + 1) ≤ n) : RQ (k + 1) n (.list ds) := by
  obtain ⟨a, c, e, f⟩ := rq_all h
  exact ⟨a, Nat.succ_le_succ c, e, Nat.le_trans f hn⟩
def rReprG (K : PySem.W.Frag) : List V → Hp → VK → Prop := fun xs H Q => ∃ (fx : Hp) (b : Bool) (v : V) (d : PyData) (S : Str), xs = [v] ∧ Dg K fx H b v d ∧ d.showable = true ∧ d.depth ≤ 30 ∧ d.shown.length ≤ sizeLine ∧ d.shown = S ∧ Q (.str S) H
theorem call_reprG {X : Cx} (hg : X.A.guards = some []) (hu : X.A.units + 64 < cLine) : CallR X (.builtin "repr") (rReprG X.K) := by
  intro pins s σ H xs us Q I r h
  obtain ⟨fx, b, v, d, S, rfl, hd, hs, hdep, hsz, hS, q⟩ := h
  subst hS
  obtain ⟨u, rfl, rx⟩ := vals1 r
  have big : ∀ a, v = .ref a → wpAny (model X.prog X.w) X.A (call (.builtin "repr") [u]) (EP X pins σ Q) X.xe s := by
    rintro a rfl
    cases (show u = Value.ref a from rx)
    obtain ⟨as, rd, h1, h2⟩ := Dg.reads I hd rfl
    refine repr_of_reads' rd hs (fun z hm => ?_) hg (by omega) (fun _ _ e => e) (fun h' u tk hk => ?_) hsz
    · cases b with
      | true =>
        rw [h1 rfl] at z
        cases z
      | false => exact h2 rfl hm
    · exact ⟨.str d.shown, H, I.kept hk, ⟨_, rfl⟩, q⟩
  cases hd with
  | non =>
    cases (show u = Value.none from rx)
    exact P.repr_of_none ⟨.str _, H, I.tok _, ⟨_, rfl⟩, q⟩
  | bl x =>
    cases (show u = Value.bool x from rx)
    refine P.repr_of_bool ⟨.str _, H, I.tok _, ⟨_, rfl⟩, ?_⟩
    cases x <;> exact q
  | int i =>
    obtain ⟨t, rfl⟩ := (show ∃ t, u = Value.int i t from rx)
    exact P.repr_of_int (of_decide_eq_true hs) ⟨.str _, H, I.tok _, ⟨_, rfl⟩, q⟩
  | str x =>
    obtain ⟨t, rfl⟩ := (show ∃ t, u = Value.str x t from rx)
    exact P.repr_of_str ⟨.str _, H, I.tok _, ⟨_, rfl⟩, q⟩ hsz
  | tup h q' => exact big _ rfl
  | lst n h q' => exact big _ rfl
  | dic0 n h => exact big _ rfl
  | dic1 n h => exact big _ rfl
/-! ### a tuple times nought, times one -/
theorem mul_one_meets (l : Addr) (items : Array Value) (n : Nat) (dd : Option Addr) (sl : Array (Option Value)) (u : Tok) :
    Meets (Builtin.«tuple.__mul__» ⟨[.ref l, .int 1 u], []⟩)
      (fun _ R s => s.heap.get? l = some { cls := .type "tuple", dict := dd, data := .seq items n, slots := sl } ∧ R (.ok (.ret (Value.ref l))) s) :=
  .of_wp fun prog w A R s h => by
    obtain ⟨hp, g, d, tk, os⟩ := s
    obtain ⟨hl, h⟩ := h
    have f1 := AutoSeq1.idx_int
    have c1 : (items.isEmpty || (1 : Int) == 1) = true := by simp
    wp_walk using wpAny_loadPart' hl
    repeat (first
      | (refine wpAny_ite_false (decide_eq_false (by decide)) ?_; wp_walk using wpAny_loadPart' hl)
      | (refine wpAny_ite_true (decide_eq_true c1) ?_; wp_walk using wpAny_loadPart' hl))
    exact ⟨_, rfl, h⟩
theorem mul_none_meets (l : Addr) (items : Array Value) (n : Nat) (dd : Option Addr) (sl : Array (Option Value)) (u : Tok) (hi : items.isEmpty = false) :
    Meets (Builtin.«tuple.__mul__» ⟨[.ref l, .int 0 u], []⟩)
      (fun _ R s => s.heap.get? l = some { cls := .type "tuple", dict := dd, data := .seq items n, slots := sl } ∧
        R (.ok (.ret (Value.ref s.heap.objs.size))) { s with heap := s.heap.push { cls := Value.type "tuple", data := Data.seq #[] }, toks := s.toks }) :=
  .of_wp fun prog w A R s h => by
    obtain ⟨hp, g, d, tk, os⟩ := s
    obtain ⟨hl, h⟩ := h
    have f1 := AutoSeq1.idx_int
    have c1 : ¬ (items.isEmpty || (0 : Int) == 1) = true := by rw [hi]; decide
    have c2 : (decide ((0 : Int) ≤ 0) || items.isEmpty) = true := by simp
    wp_walk using wpAny_loadPart' hl
    repeat (first
      | (refine wpAny_ite_false (decide_eq_false (by decide)) ?_; wp_walk using wpAny_loadPart' hl)
      | (refine wpAny_ite_false (decide_eq_false c1) ?_; wp_walk using wpAny_loadPart' hl)
      | (refine wpAny_ite_true (decide_eq_true c2) ?_; wp_walk using wpAny_loadPart' hl))
    exact ⟨_, rfl, h⟩
def rRepA (K : PySem.W.Frag) : R2 := fun x y H Q => ∃ l k xs, x = .ref l ∧ y = .int k ∧ SqT K H l xs ∧ xs ≠ [] ∧ xs.length ≤ 1000 ∧ 0 ≤ k ∧ k ≤ 1000 ∧ ∀ H' p, Same H H' → SqT K H' p (List.replicate k.toNat xs).flatten → Q (.ref p) H'
theorem op_repA {X : Cx} : OpR X (binaryOp .Mult) (rRepA X.K) := by
  intro pins s σ H x y v u Q I rx ry h
  obtain ⟨l, k, xs, rfl, rfl, hT, hne, hz, h0, h1, q⟩ := h
  by_cases h2 : 2 ≤ k
  · exact op_repT pins s σ H _ _ v u Q I rx ry ⟨l, k, xs, rfl, rfl, hT, hne, h2, h1, hz, fun p np => q _ p (same_upd np) (.inl (.inl upd_same))⟩
  · cases rx
    obtain ⟨t, rfl⟩ := ry
    obtain ⟨its, r, ⟨⟨cls, dd, data, sl⟩, ho, hc, n, hd⟩, hs⟩ := I.tuple hT
    simp only at hc hd
    subst hc hd
    rcases (by omega : k = 0 ∨ k = 1) with rfl | rfl
    · have hi : its.toArray.isEmpty = false := by
        cases its with
        | nil =>
          cases r
          exact absurd rfl hne
        | cons a b => rfl
      refine wpAny_binaryOp_repeat_ref (T := "tuple") (U := "int") (by decide) ⟨_, ho, rfl⟩ (fun s' => typeIs_int s' 0 t) noFill_tuple_mul
        F.fills_int_mul F.slot_int_rmul repeat_tuple F.slot_int_index.lookup (call_meets F.slot_int_rmul (typeIs_int s 0 t) F.entry_int_rmul (F.args_int_rmul_2 _ _)
          (int_rmul_tuple 0 t l its.toArray n dd sl) ⟨ho, rfl, ⟨_, ho, rfl⟩, call_meets F.slot_tuple_mul ⟨_, ho, rfl⟩ F.entry_tuple_mul (F.args_tuple_mul_2 _ _) (mul_none_meets l its.toArray n dd sl t hi) ⟨ho, ?_⟩⟩)
      have np := I.hok.fresh (Nat.le_refl s.heap.objs.size)
      refine ⟨.ref s.heap.objs.size, _, I.laid (t' := s.toks) (o := .tup []) (fun b ob e => Heap.get?_push_of_some _ e) (Nat.le_refl _) ?_, rfl, q _ _ (same_upd np) (.inl (.inl upd_same))⟩
      exact ⟨Nat.zero_le _, [], .nil, IsTup.new _ _⟩
    · refine wpAny_binaryOp_repeat_ref (T := "tuple") (U := "int") (by decide) ⟨_, ho, rfl⟩ (fun s' => typeIs_int s' 1 t) noFill_tuple_mul
        F.fills_int_mul F.slot_int_rmul repeat_tuple F.slot_int_index.lookup (call_meets F.slot_int_rmul (typeIs_int s 1 t) F.entry_int_rmul (F.args_int_rmul_2 _ _)
          (int_rmul_tuple 1 t l its.toArray n dd sl) ⟨ho, rfl, ⟨_, ho, rfl⟩, call_meets F.slot_tuple_mul ⟨_, ho, rfl⟩ F.entry_tuple_mul (F.args_tuple_mul_2 _ _) (mul_one_meets l its.toArray n dd sl t) ⟨ho, ?_⟩⟩)
      refine ⟨.ref l, H, I, rfl, q _ _ (Same.refl _) ?_⟩
      show SqT X.K H l (List.replicate 1 xs).flatten
      rw [show (List.replicate 1 xs).flatten = xs by simp]
      exact hT
theorem mkT {K : PySem.W.Frag} {fx : Hp} {p : Addr} {H : Hp} {b : Bool} {vs : List V} {ds : List PyData} (np : H p = none) (h : DgAll K fx H b vs ds) : Dg K fx (upd H p (.tup vs)) b (.ref p) (.tuple ds) := .tup (.inl (.inl upd_same)) (h.sm (same_upd np))
theorem mkL {K : PySem.W.Frag} {fx : Hp} {p : Addr} {H : Hp} {vs : List V} {ds : List PyData} (hf : fx p = none) (np : H p = none) (h : DgAll K fx H true vs ds) : Dg K fx (upd H p (.lst vs)) true (.ref p) (.list ds) := .lst hf upd_same (h.sm (same_upd np))
theorem RowAt.dg {K : PySem.W.Frag} {fx : Hp} {H : Hp} {b : Bool} {v : V} {r : RW} : RowAt K H v r → Dg K fx H b v (rwD r) := by
  rintro ⟨p, rfl, h⟩
  exact .tup h (.cons (.int _) (.cons (.int _) .nil))
theorem rows_dg {K : PySem.W.Frag} {fx : Hp} {H : Hp} {b : Bool} : ∀ {vs : List V} {rs : List RW}, Paired (RowAt K H) vs rs → DgAll K fx H b vs (rs.map rwD)
  | _, _, .nil => .nil
  | _, _, .cons r t => .cons r.dg (rows_dg t)
theorem bk_dg {K : PySem.W.Frag} {fx : Hp} {H : Hp} {b : Bool} (o : Option Int) : Dg K fx H b (bkV o) (bkD o) := by
  cases o with
  | none => exact .non
  | some i => exact .int i
theorem rq_row {r : RW} (h : VRow r) : RQ 2 1000 (rwD r) := by
  obtain ⟨h1, h2, h3, h4⟩ := h
  refine (RQ.tup (k := 0) (w := 100) (n := 202) (fun e he => ?_) (by show 2 * 101 ≤ 202; decide)).more (by decide) (by decide)
  have : e = .int r.1 ∨ e = .int r.2 := by simpa using he
  rcases this with rfl | rfl <;> exact RQ.int (Nat.lt_of_le_of_lt (show _ ≤ 100 by omega) (by decide))
theorem rq_bk {rs : List RW} {bk : Option Int} (v8 : rs.length ≤ 8) (h : VBack rs bk) : RQ 0 100 (bkD bk) := by
  cases bk with
  | none => exact RQ.non
  | some i =>
    have := h i rfl
    exact RQ.int (Nat.lt_of_le_of_lt (show _ ≤ 100 by omega) (by decide))
theorem rq_small {i : Int} (h : -1000 ≤ i ∧ i ≤ 1000) : RQ 0 100 (.int i) := RQ.int (Nat.lt_of_le_of_lt (show _ ≤ 1000 by omega) (by decide))
/-- what is told of rows and a back -/
theorem rq_top {ds : List PyData} {e : PyData} (h : ∀ x ∈ ds, RQ 2 1000 x) (hl : ds.length ≤ 10) (he : RQ 0 100 e) : RQ 5 40000 (.tuple [.tuple ds, e]) := by
  refine (RQ.tup (k := 3) (w := 10010) (n := 40000) (fun x hx => ?_) (by show 2 * 10011 ≤ 40000; decide)).more (by decide) (by decide)
  have : x = .tuple ds ∨ x = e := by simpa using hx
  rcases this with rfl | rfl
  · exact RQ.tup (k := 2) (w := 1000) h (by omega)
  · exact he.more (by decide) (by decide)
theorem MoveAt.dg {K : PySem.W.Frag} {fx : Hp} {H : Hp} {b : Bool} {v : V} {m : MV} : MoveAt K H v m → Dg K fx H b v (mvD m) := by
  rintro ⟨p, rfl, h⟩
  exact .tup h (.cons (.int _) (.cons (.int _) (.cons (.int _) .nil)))
theorem moves_dg {K : PySem.W.Frag} {fx : Hp} {H : Hp} {b : Bool} : ∀ {vs : List V} {ms : List MV}, Paired (MoveAt K H) vs ms → DgAll K fx H b vs (ms.map mvD)
  | _, _, .nil => .nil
  | _, _, .cons r t => .cons r.dg (moves_dg t)
theorem WinAt.dg {K : PySem.W.Frag} {fx : Hp} {H : Hp} {b : Bool} {v : V} {x y : Int} {ms : List MV} : WinAt K H v x y ms → Dg K fx H b v (winD x y ms) := by
  rintro ⟨p, mv, rfl, h, pm, vs, rfl, hq, pd⟩
  exact .tup h (.cons (.int _) (.cons (.int _) (.cons (.tup hq (moves_dg pd)) .nil)))
theorem LyAt.dg {K : PySem.W.Frag} {fx : Hp} {H : Hp} {b : Bool} {v : V} {l : LY} : LyAt K H v l → Dg K fx H b v (lyD l) := by
  rintro ⟨p, rv, rfl, h, pr, vs, rfl, hq, pd⟩
  exact .tup h (.cons (.tup hq (rows_dg pd)) (.cons (bk_dg _) .nil))
theorem lays_dg {K : PySem.W.Frag} {fx : Hp} {H : Hp} {b : Bool} : ∀ {vs : List V} {ls : List LY}, Paired (LyAt K H) vs ls → DgAll K fx H b vs (ls.map lyD)
  | _, _, .nil => .nil
  | _, _, .cons r t => .cons r.dg (lays_dg t)
theorem rq_mv {m : MV} (h : VMove m) : RQ 2 1000 (mvD m) := by
  obtain ⟨h1, h2, h3, h4⟩ := h
  refine (RQ.tup (k := 0) (w := 100) (n := 303) (fun e he => ?_) (by show 3 * 101 ≤ 303; decide)).more (by decide) (by decide)
  have : e = .int m.1 ∨ e = .int m.2.1 ∨ e = .int m.2.2 := by simpa using he
  rcases this with rfl | rfl | rfl <;> exact rq_small ⟨by omega, by omega⟩
theorem rq_ly {l : LY} (h : VLy l) : RQ 4 19000 (lyD l) := by
  obtain ⟨⟨h8, hr⟩, hb⟩ := h
  refine (RQ.tup (k := 3) (w := 9000) (n := 19000) (fun x hx => ?_) (by show 2 * 9001 ≤ 19000; decide)).more (by decide) (by decide)
  have : x = .tuple (l.1.map rwD) ∨ x = bkD l.2 := by simpa using hx
  rcases this with rfl | rfl
  · refine (RQ.tup (k := 2) (w := 1000) (n := 9000) (fun x hx => ?_) ?_)
    · obtain ⟨r, hm, rfl⟩ := List.mem_map.mp hx
      exact rq_row (hr r hm)
    · rw [List.length_map]
      omega
  · exact (rq_bk h8 hb).more (by decide) (by decide)
/-- three of a window, the last the moves -/
theorem rq_win {ds : List PyData} {e f : PyData} (h : ∀ x ∈ ds, RQ 2 1000 x) (hl : ds.length ≤ 10) (he : RQ 2 1000 e) (hf : RQ 2 1000 f) : RQ 5 40000 (.tuple [e, f, .tuple ds]) := by
  refine (RQ.tup (k := 3) (w := 10010) (n := 40000) (fun x hx => ?_) (by show 3 * 10011 ≤ 40000; decide)).more (by decide) (by decide)
  have : x = e ∨ x = f ∨ x = .tuple ds := by simpa using hx
  rcases this with rfl | rfl | rfl
  · exact he.more (by decide) (by decide)
  · exact hf.more (by decide) (by decide)
  · exact RQ.tup (k := 2) (w := 1000) h (by omega)
theorem lay_true {l : LY} (h : VLy l) : isLayD (lyD l) = true := by
  obtain ⟨⟨h8, hr⟩, hb⟩ := h
  show (decide ((l.1.map rwD).length ≤ 8) && (l.1.map rwD).all isRowD && bkOk (bkD l.2) (((l.1.map rwD).length : Int) - 1)) = true
  rw [List.length_map, decide_eq_true h8, Bool.true_and, Bool.and_eq_true]
  constructor
  · rw [List.all_eq_true]
    intro x hx
    obtain ⟨r, hm, rfl⟩ := List.mem_map.mp hx
    obtain ⟨h1, h2, h3, h4⟩ := hr r hm
    show (decide (0 ≤ r.1 ∧ r.1 ≤ 9) && decide (1 ≤ r.2 ∧ r.2 ≤ 24)) = true
    rw [decide_eq_true ⟨h1, h2⟩, decide_eq_true ⟨h3, h4⟩]
    rfl
  · cases e : l.2 with
    | none => rfl
    | some i =>
      have := hb i e
      show decide (0 ≤ i ∧ i ≤ (l.1.length : Int) - 1) = true
      exact decide_eq_true ⟨by omega, by omega⟩
theorem win_true {x y : Int} {ms : List MV} (h : VWin x y ms) : isWinD (winD x y ms) = true := by
  obtain ⟨hx, hy, h8, hm⟩ := h
  show (isSpotD (.int x) (.int y) && decide ((ms.map mvD).length ≤ 8) && (ms.map mvD).all isMoveD) = true
  rw [List.length_map, decide_eq_true h8]
  have e1 : isSpotD (.int x) (.int y) = true := by
    show (decide (-20 ≤ x ∧ x ≤ 20) && decide (-20 ≤ y ∧ y ≤ 20)) = true
    rw [decide_eq_true hx, decide_eq_true hy]
    rfl
  rw [e1, Bool.true_and, Bool.true_and, List.all_eq_true]
  intro d hd
  obtain ⟨m, hmm, rfl⟩ := List.mem_map.mp hd
  obtain ⟨h1, h2, h3, h4⟩ := hm m hmm
  show ((decide (-20 ≤ m.1 ∧ m.1 ≤ 20) && decide (-20 ≤ m.2.1 ∧ m.2.1 ≤ 20)) && decide (0 ≤ m.2.2 ∧ m.2.2 ≤ 24)) = true
  rw [decide_eq_true h1, decide_eq_true h2, decide_eq_true ⟨h3, h4⟩]
  rfl
theorem lays_true {ls : List LY} (h : ∀ l ∈ ls, VLy l) : (ls.map lyD).all isLayD = true := by
  rw [List.all_eq_true]
  intro d hd
  obtain ⟨l, hl, rfl⟩ := List.mem_map.mp hd
  exact lay_true (h l hl)

/-! ### texts of small numbers -/
open TL in
def tlS (x : Str) : List Nat := tl x
def nT (i : Int) : Str := Str.ofString (toString i)
def figs (z : Str) : Str := if Txt.startswith z "-" = true then cutS z (some 1) none else z
def numOk (i : Int) : Bool :=
  decide ((nT i).length ≤ 3) && (decide (intText? (nT i) = some i) && (((nT i).cps.toList.all fun c => c != 32 && (c != 44 && (c != 120 && c != 10))) && (Txt.isascii (figs (nT i)) && (Txt.isdigit (figs (nT i)) && (decide ((figs (nT i)).length ≤ 3) &&
    ((decide (nT i = "0") || (match atI (figs (nT i)).cps.toList 0 with | some c => decide ((⟨#[c]⟩ : Str) ≠ "0") | none => false)) && decide (nT i ≠ "-")))))))
theorem num_all : ∀ k : Nat, k < 45 → numOk ((k : Int) - 20) = true := by decide +kernel
structure NumF (i : Int) : Prop where
  len : (nT i).length ≤ 3
  int : intText? (nT i) = some i
  free : ∀ c ∈ TL.tl (nT i), c ≠ 32 ∧ c ≠ 44 ∧ c ≠ 120 ∧ c ≠ 10
  asc : Txt.isascii (figs (nT i)) = true
  dig : Txt.isdigit (figs (nT i)) = true
  flen : (figs (nT i)).length ≤ 3
  last : nT i = "0" ∨ ∃ c, atI (figs (nT i)).cps.toList 0 = some c ∧ (⟨#[c]⟩ : Str) ≠ "0"
  nd : nT i ≠ "-"
def Sm (i : Int) : Prop := -20 ≤ i ∧ i ≤ 24
theorem Sm.f {i : Int} (h : Sm i) : NumF i := by
  obtain ⟨h0, h1⟩ := h
  have e := num_all (i + 20).toNat (by omega)
  rw [show (((i + 20).toNat : Nat) : Int) - 20 = i by omega] at e
  unfold numOk at e
  simp only [Bool.and_eq_true, decide_eq_true_eq, List.all_eq_true, bne_iff_ne, Bool.or_eq_true] at e
  obtain ⟨e1, e2, e3, e4, e5, e6, e7, e8⟩ := e
  refine ⟨e1, e2, e3, e4, e5, e6, ?_, e8⟩
  rcases e7 with z | z
  · exact .inl z
  · right
    split at z
    · rename_i c hc
      exact ⟨c, hc, of_decide_eq_true z⟩
    · cases z
theorem log_small {i : Int} (h : Sm i) : i.natAbs.log2 < 1920 := (it_len (i := i) (by obtain ⟨a, b⟩ := h; omega)).2
/-! ### joined texts -/
def Free (c : Nat) (z : Str) : Prop := c ∉ TL.tl z
theorem mem_joinL {S : List Nat} {c : Nat} : ∀ {ps : List (List Nat)}, c ∈ TL.joinL S ps → c ∈ S ∨ ∃ p ∈ ps, c ∈ p
  | [], h => nomatch h
  | [p], h => .inr ⟨p, by simp, h⟩
  | p :: q :: r, h => by
    rcases List.mem_append.mp (show c ∈ p ++ (S ++ TL.joinL S (q :: r)) from h) with z | z
    · exact .inr ⟨p, by simp, z⟩
    · rcases List.mem_append.mp z with z | z
      · exact .inl z
      · rcases mem_joinL z with z | ⟨p', hp, hc⟩
        · exact .inl z
        · exact .inr ⟨p', List.mem_cons_of_mem _ hp, hc⟩
theorem tl_txt (y : Str) (ps : List Str) : TL.tl (Txt.join y ps) = TL.joinL (TL.tl y) (ps.map TL.tl) := by rw [TL.join_eq, TL.tl_join]
theorem free_join {c : Nat} {y : Str} {ps : List Str} (hy : Free c y) (h : ∀ p ∈ ps, Free c p) : Free c (Txt.join y ps) := fun z => by
  rw [tl_txt] at z
  rcases mem_joinL z with z | ⟨p, hp, hc⟩
  · exact hy z
  · obtain ⟨q, hq, rfl⟩ := List.mem_map.mp hp
    exact h q hq hc
theorem joinL_len {S : List Nat} : ∀ ps : List (List Nat), (TL.joinL S ps).length ≤ (ps.map (·.length)).sum + ps.length * S.length
  | [] => Nat.zero_le _
  | [p] => by
    show p.length ≤ _
    simp
  | p :: q :: r => by
    show (p ++ (S ++ TL.joinL S (q :: r))).length ≤ _
    have ih := joinL_len (S := S) (q :: r)
    rw [List.length_append, List.length_append, List.map_cons, List.sum_cons, List.length_cons, Nat.succ_mul]
    omega
theorem sum_le {B n : Nat} : ∀ {l : List Nat}, (∀ x ∈ l, x ≤ B) → l.sum ≤ l.length * B
  | [], _ => Nat.zero_le _
  | a :: t, h => by
    have ih := sum_le (B := B) (n := n) (l := t) fun x hx => h x (List.mem_cons_of_mem _ hx)
    have := h a (List.mem_cons_self ..)
    rw [List.sum_cons, List.length_cons, Nat.succ_mul]
    omega
theorem join_bound {y : Str} {ps : List Str} {B n : Nat} (hy : y.length ≤ 1) (hB : ∀ p ∈ ps, p.length ≤ B) (hn : ps.length ≤ n) : (ps.map (·.length)).sum + ps.length * y.length ≤ n * (B + 1) := by
  have s := sum_le (B := B) (n := n) (l := ps.map (·.length)) fun x hx => by
    obtain ⟨p, hp, rfl⟩ := List.mem_map.mp hx
    exact hB p hp
  rw [List.length_map] at s
  have a1 : ps.length * B ≤ n * B := Nat.mul_le_mul_right B hn
  have a2 : ps.length * y.length ≤ n * 1 := Nat.mul_le_mul hn hy
  rw [Nat.mul_add]
  omega
theorem join_len {y : Str} {ps : List Str} {B n : Nat} (hy : y.length ≤ 1) (hB : ∀ p ∈ ps, p.length ≤ B) (hn : ps.length ≤ n) : (Txt.join y ps).length ≤ n * (B + 1) := by
  refine Nat.le_trans ?_ (join_bound hy hB hn)
  rw [TL.len_tl, tl_txt]
  refine Nat.le_trans (joinL_len _) ?_
  rw [List.map_map, List.length_map, ← TL.len_tl]
  exact Nat.le_refl _
/-! ### a sheet's text -/
def mvT (m : MV) : Str := Txt.join "," [nT m.1, nT m.2.1, nT m.2.2]
def rwT (r : RW) : Str := Txt.join "x" [nT r.1, nT r.2]
def bkT : Option Int → Str
  | none => "-"
  | some b => nT b
def winW (x y : Int) (ms : List MV) : List Str := [("window" : Str), nT x, nT y] ++ ms.map mvT
def layW (l : LY) : List Str := [("layer" : Str), bkT l.2] ++ l.1.map rwT
def winT (x y : Int) (ms : List MV) : Str := Txt.join " " (winW x y ms)
def layT (l : LY) : Str := Txt.join " " (layW l)
def linT (ls : List LY) (x y : Int) (ms : List MV) : List Str := [winT x y ms] ++ ls.map layT
def shT (ls : List LY) (x y : Int) (ms : List MV) : Str := Txt.join "" ((linT ls x y ms).map fun z => z ++ "\n")
theorem vm_sm {m : MV} (h : VMove m) : Sm m.1 ∧ Sm m.2.1 ∧ Sm m.2.2 := by
  obtain ⟨⟨a, b⟩, ⟨c, d⟩, e, f⟩ := h
  exact ⟨⟨by omega, by omega⟩, ⟨by omega, by omega⟩, ⟨by omega, by omega⟩⟩
theorem vr_sm {r : RW} (h : VRow r) : Sm r.1 ∧ Sm r.2 := by
  obtain ⟨a, b, c, d⟩ := h
  exact ⟨⟨by omega, by omega⟩, ⟨by omega, by omega⟩⟩
theorem vb_sm {l : LY} (h : VLy l) {b : Int} (e : l.2 = some b) : Sm b := by
  have := h.2 b e
  have := h.1.1
  exact ⟨by omega, by omega⟩
theorem mv_parts {m : MV} (h : VMove m) : ∀ p ∈ [nT m.1, nT m.2.1, nT m.2.2], p.length ≤ 3 ∧ ∀ c ∈ TL.tl p, c ≠ 32 ∧ c ≠ 44 ∧ c ≠ 120 ∧ c ≠ 10 := fun p hp => by
  obtain ⟨a, b, c⟩ := vm_sm h
  rcases mem3 hp with rfl | rfl | rfl
  · exact ⟨a.f.len, a.f.free⟩
  · exact ⟨b.f.len, b.f.free⟩
  · exact ⟨c.f.len, c.f.free⟩
theorem rw_parts {r : RW} (h : VRow r) : ∀ p ∈ [nT r.1, nT r.2], p.length ≤ 3 ∧ ∀ c ∈ TL.tl p, c ≠ 32 ∧ c ≠ 44 ∧ c ≠ 120 ∧ c ≠ 10 := fun p hp => by
  obtain ⟨a, b⟩ := vr_sm h
  rcases mem2 hp with rfl | rfl
  · exact ⟨a.f.len, a.f.free⟩
  · exact ⟨b.f.len, b.f.free⟩
theorem free_of {z : Str} {c : Nat} (h : ∀ d ∈ TL.tl z, d ≠ 32 ∧ d ≠ 44 ∧ d ≠ 120 ∧ d ≠ 10) (hc : c = 32 ∨ c = 44 ∨ c = 120 ∨ c = 10) : Free c z := fun z => by
  obtain ⟨a, b, d, e⟩ := h c z
  omega
theorem mvT_f {m : MV} (h : VMove m) : (mvT m).length ≤ 12 ∧ Free 32 (mvT m) ∧ Free 10 (mvT m) :=
  ⟨join_len (n := 3) (B := 3) (by decide) (fun p hp => (mv_parts h p hp).1) (by show 3 ≤ 3; decide), free_join (by unfold Free; decide +kernel) fun p hp => free_of (mv_parts h p hp).2 (by omega), free_join (by unfold Free; decide +kernel) fun p hp => free_of (mv_parts h p hp).2 (by omega)⟩
theorem rwT_f {r : RW} (h : VRow r) : (rwT r).length ≤ 8 ∧ Free 32 (rwT r) ∧ Free 10 (rwT r) :=
  ⟨join_len (n := 2) (B := 3) (by decide) (fun p hp => (rw_parts h p hp).1) (by show 2 ≤ 2; decide), free_join (by unfold Free; decide +kernel) fun p hp => free_of (rw_parts h p hp).2 (by omega), free_join (by unfold Free; decide +kernel) fun p hp => free_of (rw_parts h p hp).2 (by omega)⟩
theorem bkT_f {l : LY} (h : VLy l) : (bkT l.2).length ≤ 3 ∧ Free 32 (bkT l.2) ∧ Free 10 (bkT l.2) := by
  cases e : l.2 with
  | none => exact ⟨by show ("-" : Str).length ≤ 3; decide, by show Free 32 "-"; unfold Free; decide +kernel, by show Free 10 "-"; unfold Free; decide +kernel⟩
  | some b =>
    have s := vb_sm h e
    exact ⟨s.f.len, free_of s.f.free (by omega), free_of s.f.free (by omega)⟩
theorem winW_f {x y : Int} {ms : List MV} (h : VWin x y ms) : ∀ p ∈ winW x y ms, p.length ≤ 12 ∧ Free 32 p ∧ Free 10 p := fun p hp => by
  rcases List.mem_append.mp hp with z | z
  · have sx : Sm x := ⟨by have := h.1; omega, by have := h.1; omega⟩
    have sy : Sm y := ⟨by have := h.2.1; omega, by have := h.2.1; omega⟩
    rcases mem3 z with rfl | rfl | rfl
    · exact ⟨by decide, by unfold Free; decide +kernel, by unfold Free; decide +kernel⟩
    · exact ⟨Nat.le_trans sx.f.len (by decide), free_of sx.f.free (by omega), free_of sx.f.free (by omega)⟩
    · exact ⟨Nat.le_trans sy.f.len (by decide), free_of sy.f.free (by omega), free_of sy.f.free (by omega)⟩
  · obtain ⟨m, hm, rfl⟩ := List.mem_map.mp z
    exact mvT_f (h.2.2.2 m hm)
theorem layW_f {l : LY} (h : VLy l) : ∀ p ∈ layW l, p.length ≤ 12 ∧ Free 32 p ∧ Free 10 p := fun p hp => by
  rcases List.mem_append.mp hp with z | z
  · rcases mem2 z with rfl | rfl
    · exact ⟨by decide, by unfold Free; decide +kernel, by unfold Free; decide +kernel⟩
    · exact ⟨Nat.le_trans (bkT_f h).1 (by decide), (bkT_f h).2⟩
  · obtain ⟨r, hr, rfl⟩ := List.mem_map.mp z
    have := rwT_f (h.1.2 r hr)
    exact ⟨Nat.le_trans this.1 (by decide), this.2⟩
theorem winW_len {x y : Int} {ms : List MV} (h : VWin x y ms) : (winW x y ms).length ≤ 11 := by
  unfold winW
  rw [List.length_append, List.length_map]
  have := h.2.2.1
  show 3 + ms.length ≤ 11
  omega
theorem layW_len {l : LY} (h : VLy l) : (layW l).length ≤ 11 := by
  unfold layW
  rw [List.length_append, List.length_map]
  have := h.1.1
  show 2 + l.1.length ≤ 11
  omega
theorem winT_f {x y : Int} {ms : List MV} (h : VWin x y ms) : (winT x y ms).length ≤ 143 ∧ Free 10 (winT x y ms) :=
  ⟨join_len (n := 11) (B := 12) (by decide) (fun p hp => (winW_f h p hp).1) (winW_len h), free_join (by unfold Free; decide +kernel) fun p hp => (winW_f h p hp).2.2⟩
theorem layT_f {l : LY} (h : VLy l) : (layT l).length ≤ 143 ∧ Free 10 (layT l) :=
  ⟨join_len (n := 11) (B := 12) (by decide) (fun p hp => (layW_f h p hp).1) (layW_len h), free_join (by unfold Free; decide +kernel) fun p hp => (layW_f h p hp).2.2⟩
theorem linT_f {ls : List LY} {x y : Int} {ms : List MV} (hl : VLays ls) (h : VWin x y ms) : ∀ p ∈ linT ls x y ms, p.length ≤ 143 ∧ Free 10 p := fun p hp => by
  rcases List.mem_append.mp hp with z | z
  · rw [List.mem_singleton.mp z]
    exact winT_f h
  · obtain ⟨l, hm, rfl⟩ := List.mem_map.mp z
    exact layT_f (hl.2.2 l hm)
theorem linT_len {ls : List LY} {x y : Int} {ms : List MV} (hl : VLays ls) : (linT ls x y ms).length ≤ 5 := by
  unfold linT
  rw [List.length_append, List.length_map]
  have := hl.2.1
  show 1 + ls.length ≤ 5
  omega
theorem win_split {x y : Int} {ms : List MV} (h : VWin x y ms) : Txt.split (winT x y ms) " " = winW x y ms :=
  TL.split_join (s := 32) (S := []) (by decide +kernel) (by decide +kernel) (by unfold winW; simp) fun p hp => (winW_f h p hp).2.1
theorem lay_split {l : LY} (h : VLy l) : Txt.split (layT l) " " = layW l :=
  TL.split_join (s := 32) (S := []) (by decide +kernel) (by decide +kernel) (by unfold layW; simp) fun p hp => (layW_f h p hp).2.1
theorem mv_split {m : MV} (h : VMove m) : Txt.split (mvT m) "," = [nT m.1, nT m.2.1, nT m.2.2] :=
  TL.split_join (s := 44) (S := []) (by decide +kernel) (by decide +kernel) (by simp) fun p hp => free_of (mv_parts h p hp).2 (by omega)
theorem rw_split {r : RW} (h : VRow r) : Txt.split (rwT r) "x" = [nT r.1, nT r.2] :=
  TL.split_join (s := 120) (S := []) (by decide +kernel) (by decide +kernel) (by simp) fun p hp => free_of (rw_parts h p hp).2 (by omega)
/-- each line with its end -/
theorem lines_end : ∀ {zs : List Str}, zs ≠ [] → Txt.join "" (zs.map fun z => z ++ "\n") = Txt.join "\n" zs ++ "\n" := fun {zs} hz => by
  refine TL.ext_tl ?_
  rw [tl_txt, TL.tl_append, tl_txt, List.map_map]
  have e : TL.tl ("" : Str) = [] := by decide +kernel
  have e1 : TL.tl ("\n" : Str) = [10] := by decide +kernel
  rw [e, e1]
  have f : (TL.tl ∘ fun z : Str => z ++ "\n") = fun z => TL.tl z ++ [10] := by
    funext z
    show TL.tl (z ++ "\n") = _
    rw [TL.tl_append, e1]
  rw [f]
  have go : ∀ l : List Str, l ≠ [] → TL.joinL [] (l.map fun z => TL.tl z ++ [10]) = TL.joinL [10] (l.map TL.tl) ++ [10] := fun l => by
    induction l with
    | nil => intro h; exact absurd rfl h
    | cons a t ih =>
      intro _
      cases t with
      | nil => rfl
      | cons b r =>
        have := ih (by simp)
        show (TL.tl a ++ [10]) ++ ([] ++ TL.joinL [] ((b :: r).map fun z => TL.tl z ++ [10])) = (TL.tl a ++ ([10] ++ TL.joinL [10] ((b :: r).map TL.tl))) ++ [10]
        rw [this]
        simp
  exact go zs hz
theorem ends_nl (z : Str) : Txt.endswith (z ++ "\n") "\n" = true := by
  have hl : (z ++ "\n").length = z.length + 1 := by
    rw [strLen_append]
    rfl
  have e1 : ("\n" : Str) = ⟨#[10]⟩ := by decide +kernel
  have h := (PySem.StrLaws.subAt_one (z ++ "\n") 10 z.length).mpr (by
    show (TL.tl (z ++ "\n"))[z.length]? = some 10
    rw [TL.tl_append, List.getElem?_append_right (by rw [TL.len_tl]; exact Nat.le_refl _), TL.len_tl, Nat.sub_self]
    decide +kernel)
  unfold Txt.endswith
  rw [hl, show (("\n" : Str)).length = 1 by decide, Nat.add_sub_cancel]
  rw [Bool.and_eq_true]
  refine ⟨decide_eq_true (by omega), ?_⟩
  have h2 := h.2
  rw [← e1] at h2
  exact h2
theorem cut_nl (z : Str) : cutS (z ++ "\n") none (some (-1)) = z := by
  refine TL.ext_tl ?_
  have hl : (z ++ "\n").length = z.length + 1 := by
    rw [strLen_append]
    rfl
  unfold cutS
  show ((TL.tl (z ++ "\n")).drop (HT.sIx (z ++ "\n").length 0 none)).take (HT.sIx (z ++ "\n").length (z ++ "\n").length (some (-1)) - HT.sIx (z ++ "\n").length 0 none) = TL.tl z
  rw [hl, TL.tl_append]
  have e1 : HT.sIx (z.length + 1) 0 none = 0 := rfl
  have e2 : HT.sIx (z.length + 1) (z.length + 1) (some (-1)) = z.length := by
    show (if (-1 : Int) < 0 then (-1 + ((z.length + 1 : Nat) : Int)).toNat else min (-1 : Int).toNat (z.length + 1)) = _
    rw [if_pos (by decide)]
    omega
  rw [e1, e2, List.drop_zero, Nat.sub_zero, TL.len_tl, List.take_left]
theorem shT_eq (ls : List LY) (x y : Int) (ms : List MV) : shT ls x y ms = Txt.join "\n" (linT ls x y ms) ++ "\n" := lines_end (by unfold linT; simp)
theorem lin_split {ls : List LY} {x y : Int} {ms : List MV} (hl : VLays ls) (h : VWin x y ms) : Txt.split (Txt.join "\n" (linT ls x y ms)) "\n" = linT ls x y ms :=
  TL.split_join (s := 10) (S := []) (by decide +kernel) (by decide +kernel) (by unfold linT; simp) fun p hp => (linT_f hl h p hp).2
theorem lin_len {ls : List LY} {x y : Int} {ms : List MV} (hl : VLays ls) (h : VWin x y ms) : (Txt.join "\n" (linT ls x y ms)).length ≤ 720 :=
  join_len (n := 5) (B := 143) (by decide) (fun p hp => (linT_f hl h p hp).1) (linT_len hl)

/-! ### words that write numbers -/
open NumText in
def Gfig (z : Str) : Prop := TL.tl (figs z) ≠ [] ∧ AllDigits (TL.tl (figs z)) ∧ (z = "0" ∨ (TL.tl (figs z))[0]? ≠ some 48)
theorem tl0_iff {z : Str} {c : Nat} : (TL.tl z)[0]? = some c ↔ ∃ r, TL.tl z = c :: r := by
  cases TL.tl z with
  | nil => simp
  | cons a r => simp
theorem st_iff (z : Str) : Txt.startswith z "-" = true ↔ (TL.tl z)[0]? = some 45 := by
  have e1 : ("-" : Str) = ⟨#[45]⟩ := by decide +kernel
  unfold Txt.startswith
  rw [show (("-" : Str)).length = 1 by decide, Bool.and_eq_true, decide_eq_true_eq, e1]
  have := PySem.StrLaws.subAt_one z 45 0
  constructor
  · rintro ⟨a, b⟩
    exact this.mp ⟨a, b⟩
  · exact fun h => this.mpr h
theorem cut1_tl (z : Str) : TL.tl (cutS z (some 1) none) = (TL.tl z).drop 1 := by
  unfold cutS
  show ((TL.tl z).drop (HT.sIx z.length 0 (some 1))).take (HT.sIx z.length z.length none - HT.sIx z.length 0 (some 1)) = _
  rw [show HT.sIx z.length z.length none = z.length from rfl]
  have e : HT.sIx z.length 0 (some 1) = min 1 z.length := by
    show (if (1 : Int) < 0 then (1 + (z.length : Int)).toNat else min (1 : Int).toNat z.length) = _
    rw [if_neg (by decide)]
    rfl
  rw [e, TL.len_tl]
  by_cases h : 1 ≤ (TL.tl z).length
  · rw [Nat.min_eq_left h, List.take_of_length_le (by rw [List.length_drop]; exact Nat.le_refl _)]
  · have : TL.tl z = [] := List.eq_nil_of_length_eq_zero (by omega)
    rw [this]
    rfl
theorem hd_tl (z : Str) : TL.tl (cutS z none (some 1)) = (TL.tl z).take 1 := by
  unfold cutS
  show ((TL.tl z).drop (HT.sIx z.length 0 none)).take (HT.sIx z.length z.length (some 1) - HT.sIx z.length 0 none) = _
  rw [show HT.sIx z.length 0 none = 0 from rfl]
  have e : HT.sIx z.length z.length (some 1) = min 1 z.length := by
    show (if (1 : Int) < 0 then (1 + (z.length : Int)).toNat else min (1 : Int).toNat z.length) = _
    rw [if_neg (by decide)]
    rfl
  rw [e, TL.len_tl, List.drop_zero, Nat.sub_zero]
  by_cases h : 1 ≤ (TL.tl z).length
  · rw [Nat.min_eq_left h]
  · have : TL.tl z = [] := List.eq_nil_of_length_eq_zero (by omega)
    rw [this]
    rfl
theorem hd_iff (z : Str) : cutS z none (some 1) = "-" ↔ (TL.tl z)[0]? = some 45 := by
  have e1 : TL.tl ("-" : Str) = [45] := by decide +kernel
  constructor
  · intro h
    have := congrArg TL.tl h
    rw [hd_tl, e1] at this
    cases e : TL.tl z with
    | nil => rw [e] at this; cases this
    | cons a r => rw [e] at this; cases this; rfl
  · intro h
    refine TL.ext_tl ?_
    rw [hd_tl, e1]
    obtain ⟨r, hr⟩ := tl0_iff.mp h
    rw [hr]
    rfl
theorem figs_eq (z : Str) : figs z = if cutS z none (some 1) = "-" then cutS z (some 1) none else z := by
  unfold figs
  by_cases h : Txt.startswith z "-" = true
  · rw [if_pos h, if_pos ((hd_iff z).mpr ((st_iff z).mp h))]
  · rw [if_neg h, if_neg (fun e => h ((st_iff z).mpr ((hd_iff z).mp e)))]
theorem figs_or (z : Str) : (TL.tl z = 45 :: TL.tl (figs z) ∧ Txt.startswith z "-" = true) ∨ (figs z = z ∧ Txt.startswith z "-" = false) := by
  unfold figs
  by_cases h : Txt.startswith z "-" = true
  · left
    rw [if_pos h]
    obtain ⟨r, hr⟩ := tl0_iff.mp ((st_iff z).mp h)
    refine ⟨?_, h⟩
    rw [cut1_tl, hr]
    rfl
  · right
    rw [if_neg h]
    exact ⟨rfl, by cases e : Txt.startswith z "-" with | true => exact absurd e h | false => rfl⟩
theorem figs_len (z : Str) : (figs z).length ≤ z.length := by
  rw [TL.len_tl, TL.len_tl]
  rcases figs_or z with ⟨e, _⟩ | ⟨e, _⟩
  · rw [e, List.length_cons]; omega
  · rw [e]; exact Nat.le_refl _
theorem len_figs (z : Str) : z.length ≤ (figs z).length + 1 := by
  rw [TL.len_tl, TL.len_tl]
  rcases figs_or z with ⟨e, _⟩ | ⟨e, _⟩
  · rw [e, List.length_cons]; omega
  · rw [e]; omega
open NumText in
def iv (z : Str) : Int := if Txt.startswith z "-" = true then -((digitsVal (TL.tl (figs z)) : Nat) : Int) else ((digitsVal (TL.tl (figs z)) : Nat) : Int)
theorem iv_int {z : Str} (h : Gfig z) (hl : z.length ≤ 4300) : intText? z = some (iv z) := by
  unfold iv
  rcases figs_or z with ⟨e, s⟩ | ⟨e, s⟩
  · rw [if_pos s]
    exact intText_neg e h.2.1 h.1 hl
  · rw [if_neg (by rw [s]; decide)]
    rw [e]
    refine intText_digits ?_ ?_ hl
    · have := h.2.1
      rw [e] at this
      exact this
    · have := h.1
      rw [e] at this
      exact this
def fz : List Nat → Nat → Nat := fun l a => l.foldl (fun acc c => acc * 10 + (c - 48)) a
theorem fz_ge : ∀ (l : List Nat) (a : Nat), a ≤ fz l a
  | [], _ => Nat.le_refl _
  | c :: t, a => Nat.le_trans (by omega) (fz_ge t (a * 10 + (c - 48)))
open NumText in
theorem dv_le {cs : List Nat} (h : AllDigits cs) (hl : cs.length ≤ 2) : digitsVal cs ≤ 99 := by
  match cs, h, hl with
  | [], _, _ => decide
  | [a], h, _ =>
    have := h a (by simp)
    show (0 * 10 + (a - 48)) ≤ 99
    omega
  | [a, b], h, _ =>
    have := h a (by simp)
    have := h b (by simp)
    show ((0 * 10 + (a - 48)) * 10 + (b - 48)) ≤ 99
    omega
  | _ :: _ :: _ :: _, _, hl => simp at hl
open NumText in
theorem dv_ge {cs : List Nat} (h : AllDigits cs) (hl : 3 ≤ cs.length) (h0 : cs[0]? ≠ some 48) : 100 ≤ digitsVal cs := by
  match cs, h, hl, h0 with
  | a :: b :: c :: r, h, _, h0 =>
    have h1 := h a (by simp)
    have h2 : a ≠ 48 := fun e => h0 (by rw [e]; rfl)
    have := fz_ge r (((0 * 10 + (a - 48)) * 10 + (b - 48)) * 10 + (c - 48))
    show 100 ≤ fz r (((0 * 10 + (a - 48)) * 10 + (b - 48)) * 10 + (c - 48))
    omega
theorem ascdig (y : Str) : (Txt.isascii y = true ∧ Txt.isdigit y = true) ↔ (TL.tl y ≠ [] ∧ NumText.AllDigits (TL.tl y)) := by
  have hx : ∀ c : Nat, c < 128 → (Unicode.isDigit c = true ↔ 48 ≤ c ∧ c ≤ 57) := by
    have h : ∀ c : Nat, c < 128 → Unicode.isDigit c = (decide (48 ≤ c) && decide (c ≤ 57)) := by decide +kernel
    intro c hc
    rw [h c hc, Bool.and_eq_true, decide_eq_true_eq, decide_eq_true_eq]
  have ha : Txt.isascii y = true ↔ ∀ c ∈ TL.tl y, c < 128 := by
    unfold Txt.isascii
    rw [← Array.all_toList, List.all_eq_true]
    simp only [decide_eq_true_eq]
  have hd : Txt.isdigit y = true ↔ TL.tl y ≠ [] ∧ ∀ c ∈ TL.tl y, Unicode.isDigit c = true := by
    unfold Txt.isdigit
    rw [Bool.and_eq_true, decide_eq_true_eq, ← Array.all_toList, List.all_eq_true]
    refine and_congr ?_ Iff.rfl
    rw [TL.len_tl]
    constructor
    · intro h e
      rw [e] at h
      exact absurd h (by decide)
    · intro h
      exact List.length_pos_iff.mpr h
  rw [ha, hd]
  constructor
  · rintro ⟨a, b, c⟩
    exact ⟨b, fun d hd => (hx d (a d hd)).mp (c d hd)⟩
  · rintro ⟨b, c⟩
    refine ⟨fun d hd => ?_, b, fun d hd => ?_⟩
    · have := c d hd
      omega
    · have := c d hd
      exact (hx d (by omega)).mpr this
instance (z : Str) : Decidable (Gfig z) := by
  unfold Gfig NumText.AllDigits
  exact inferInstance
def wrN (z : Str) : Bool := decide (Gfig z ∧ (figs z).length ≤ 30)
def lok (z : Str) : Bool := decide (Gfig z ∧ (figs z).length ≤ 2)
def numV (z : Str) : V := if wrN z = true then .int (iv z) else .str z
def numD (z : Str) : PyData := if wrN z = true then .int (iv z) else .str z
def lnum (z : Str) : Int := if lok z = true then iv z else 999
theorem num_rel (z : Str) : (numD z = .int (lnum z) ∧ -99 ≤ lnum z ∧ lnum z ≤ 99) ∨ (lnum z = 999 ∧ (numD z = .str z ∨ ∃ i, numD z = .int i ∧ (i ≤ -100 ∨ 100 ≤ i))) := by
  unfold numD lnum
  by_cases h : lok z = true
  · left
    have g := of_decide_eq_true h
    have hw : wrN z = true := decide_eq_true ⟨g.1, Nat.le_trans g.2 (by decide)⟩
    rw [if_pos h, if_pos hw]
    refine ⟨rfl, ?_⟩
    have b := dv_le g.1.2.1 (by rw [← TL.len_tl]; exact g.2)
    unfold iv
    split <;> omega
  · right
    rw [if_neg h]
    refine ⟨rfl, ?_⟩
    by_cases hw : wrN z = true
    · right
      rw [if_pos hw]
      have g := of_decide_eq_true hw
      have l3 : 3 ≤ (figs z).length := by
        refine Nat.lt_of_not_le fun l => h (decide_eq_true ⟨g.1, l⟩)
      have nz : z ≠ "0" := fun e => by
        have := figs_len z
        rw [e] at this l3
        exact absurd (Nat.le_trans l3 this) (by decide)
      have b := dv_ge g.1.2.1 (by rw [← TL.len_tl]; exact l3) (g.1.2.2.resolve_left nz)
      refine ⟨iv z, rfl, ?_⟩
      unfold iv
      split
      · left; omega
      · right; omega
    · left
      rw [if_neg hw]
theorem numW (z : Str) {l h : Int} (hl : -99 ≤ l) (hh : h ≤ 99) : isW (numD z) l h = decide (l ≤ lnum z ∧ lnum z ≤ h) := by
  rcases num_rel z with ⟨e, _, _⟩ | ⟨e, e2 | ⟨i, e2, hi⟩⟩
  · rw [e]; rfl
  · rw [e2, e]
    exact (decide_eq_false (by omega)).symm
  · rw [e2, e]
    show decide (l ≤ i ∧ i ≤ h) = _
    rw [decide_eq_false (by omega), decide_eq_false (by omega)]
theorem numI (z : Str) {l h : Int} (hl : -99 ≤ l) (hh : h ≤ 99) (e : l ≤ lnum z ∧ lnum z ≤ h) : numD z = .int (lnum z) := by
  rcases num_rel z with ⟨e', _, _⟩ | ⟨e', _⟩
  · exact e'
  · omega

/-! ### lengths -/
def lenL (l : LY) : Option Int := match l.2 with
  | none => some (tot l.1)
  | some _ => none
/-- r is the length of a sheet -/
def ShLen (ls : List LY) (last : Int) (r : Option Int) : Prop :=
  ((∃ l ∈ ls, lenL l = none) ∧ r = none) ∨ ((∀ l ∈ ls, lenL l = some (tot l.1)) ∧ ∃ m, r = some m ∧ m ∈ ls.map (fun l => tot l.1) ++ [last] ∧ ∀ y ∈ ls.map (fun l => tot l.1) ++ [last], y ≤ m)
theorem ShLen.uniq {ls : List LY} {last : Int} {r q : Option Int} (a : ShLen ls last r) (b : ShLen ls last q) : r = q := by
  rcases a with ⟨⟨l, hl, e⟩, rfl⟩ | ⟨h, m, rfl, hm, hx⟩
  · rcases b with ⟨_, rfl⟩ | ⟨h, _⟩
    · rfl
    · rw [h l hl] at e
      cases e
  · rcases b with ⟨⟨l, hl, e⟩, rfl⟩ | ⟨_, m', rfl, hm', hx'⟩
    · rw [h l hl] at e
      cases e
    · have := hx m' hm'
      have := hx' m hm
      congr 1
      omega
theorem bk_flat (o : Option Int) : flatV (bkV o) = true := by
  cases o <;> rfl
theorem in_ends (ls : List LY) : inV .non (ls.map fun l => bkV (lenL l)) = true ↔ ∃ l ∈ ls, lenL l = none := by
  unfold inV
  rw [List.any_eq_true]
  constructor
  · rintro ⟨y, hy, e⟩
    obtain ⟨l, hl, rfl⟩ := List.mem_map.mp hy
    refine ⟨l, hl, ?_⟩
    cases z : lenL l with
    | none => rfl
    | some i =>
      rw [z] at e
      cases e
  · rintro ⟨l, hl, e⟩
    exact ⟨_, List.mem_map.mpr ⟨l, hl, rfl⟩, by rw [e]; rfl⟩
theorem all_ints {ls : List LY} (h : ¬ ∃ l ∈ ls, lenL l = none) : (∀ l ∈ ls, lenL l = some (tot l.1)) ∧ (ls.map fun l => bkV (lenL l)) = (ls.map fun l => tot l.1).map V.int := by
  have h1 : ∀ l ∈ ls, lenL l = some (tot l.1) := fun l hl => by
    cases z : l.2 with
    | none =>
      unfold lenL
      rw [z]
    | some i =>
      exact absurd ⟨l, hl, by unfold lenL; rw [z]⟩ h
  refine ⟨h1, ?_⟩
  rw [List.map_map]
  exact List.map_congr_left fun l hl => by rw [h1 l hl]; rfl

/-! ### methods of the program's own classes, also such as refuse -/
def MForm (X : Cx) (o : Expr) (m : Str) (es : List Expr) (apos pos : Pos) (pl : Sem Bool) : Prop :=
  eval (.Call (.Attribute o m apos) es [] pos) X.env = (do let ov ← eval o X.env; standAt apos.atName; let (f, first) ← holding [ov] (getMethod ov m pl); callWith pos f first (backTo pos (starEach es X.env)) (backToKw pos (keywordEach [] X.env)))
structure Ml (P : Program) (w : World) (K : PySem.W.Frag) (mg : Str → Option Value) (base : Heap) (k : Nat) (C : Addr) (m : Str) (ps : List Str) (sp : Sp) : Prop where
  ex : ∃ (f : Addr) (fd : FuncData), FnOk P w K mg base CX0 k f fd ps sp ∧ Binds K fd ps [] ∧ Meth K C m f
structure MlX (P : Program) (w : World) (K : PySem.W.Frag) (mg : Str → Option Value) (base : Heap) (k : Nat) (C : Addr) (m : Str) (ps : List Str) (sp : Sp) : Prop where
  ex : ∃ (f : Addr) (fd : FuncData), FnOk P w K mg base (L2.CX P w) k f fd ps sp ∧ Binds K fd ps [] ∧ Meth K C m f
structure Mi (P : Program) (w : World) (K : PySem.W.Frag) (mg : Str → Option Value) (base : Heap) (k : Nat) (C : Addr) (x : Str) (ps : List Str) (sp : Sp) : Prop where
  ex : ∃ (f : Addr) (fd : FuncData), FnOk P w K mg base CX0 k f fd ps sp ∧ Binds K fd ps [] ∧ Mk K C f ∧ mg x = some (.ref C)
def tMthX (C : Addr) (m : Str) (sp : Sp) (E : L2.St → XK) (ta : TE) (t : TA) : TE := fun σ H Q => ta σ H fun x H1 => ∃ a dx fs, x = .ref a ∧ H1 a = some (.ins C dx fs) ∧ fs.lookup m = none ∧ t σ H1 fun vs H2 => sp ((x :: vs) ++ []) H2 Q (E σ)
section
variable {X : Cx} {k : Nat} {C : Addr} {m x : Str} {ps : List Str} {sp : Sp} {W : WX} {o e : Expr} {es : List Expr} {ta : TE} {t : TA} {p apos pos : Pos} {pl : Sem Bool}
theorem pe_mth (D : Ml X.prog X.w X.K X.mg X.base k C m ps sp) (c : Cls X.K C) (hr : Room k X.A) (he : PE X o ta) (ha : PA X (e :: es) t)
    (hst : starEach (e :: es) X.env = (false, eval e X.env) :: starEach es X.env := by rfl) (hpl : (backTo pos (starEach es X.env)).any (·.1) = false := by rfl) (ht : MForm X o m (e :: es) apos pos pl := by rfl) :
    PE X (.Call (.Attribute o m apos) (e :: es) [] pos) (tMeth C m sp [] E0 ta t) := by
  obtain ⟨f, fd, F, hb, hm⟩ := D.ex
  exact pe_meth (pl := pl) he c hm F hr hb .nil pass0 ha hst hpl ht
theorem pe_mth0 (D : Ml X.prog X.w X.K X.mg X.base k C m ps sp) (c : Cls X.K C) (hr : Room k X.A) (he : PE X o ta) (ht : MForm X o m [] apos pos pl := by rfl) :
    PE X (.Call (.Attribute o m apos) [] [] pos) (tMeth C m sp [] E0 ta tNil) := by
  obtain ⟨f, fd, F, hb, hm⟩ := D.ex
  exact pe_meth0 (pl := pl) he c hm F hr hb .nil pass0 ht
theorem pe_mthX (D : MlX X.prog X.w X.K X.mg X.base k C m ps sp) (c : Cls X.K C) (hr : Room k X.A) (tk : Takes X W) (he : PE X o ta) (ha : PA X (e :: es) t)
    (hst : starEach (e :: es) X.env = (false, eval e X.env) :: starEach es X.env := by rfl) (hpl : (backTo pos (starEach es X.env)).any (·.1) = false := by rfl) (ht : MForm X o m (e :: es) apos pos pl := by rfl) :
    PE X (.Call (.Attribute o m apos) (e :: es) [] pos) (tMthX C m sp (WE W) ta t) := by
  obtain ⟨f, fd, F, hb, hm⟩ := D.ex
  refine ⟨fun pins s σ H Q I h => ?_⟩
  refine PySem.W.methodCall_KW (pl := pl) (thn (he.run pins s σ H _ I h) fun u s1 ⟨x, H1, I1, rx, a, dx, fs, ex, ea, l, q⟩ => ?_) ht
  subst ex
  obtain rfl : u = Value.ref a := rx
  refine getmeth_ok I1 ea c hm l ?_
  refine PySem.W.callWith_K (first := [.ref a]) (h₀ := X.base) I.ok.mod.kin hm.kp (thn (ha.run pos pins s1 σ H1 _ I1 q) fun us s2 h2 => ?_) hst hpl
  obtain ⟨vs, H2, I2, r, q2⟩ := h2
  exact ⟨I2.kIn, run_fnSD (us := .ref a :: us) (vs := .ref a :: vs) (dvs := []) (ds := []) (E := WE W) F hr hb .nil (passAt tk σ) I2 (.cons rfl r) q2⟩
theorem pe_mthX0 (D : MlX X.prog X.w X.K X.mg X.base k C m ps sp) (c : Cls X.K C) (hr : Room k X.A) (tk : Takes X W) (he : PE X o ta) (ht : MForm X o m [] apos pos pl := by rfl) :
    PE X (.Call (.Attribute o m apos) [] [] pos) (tMthX C m sp (WE W) ta tNil) := by
  obtain ⟨f, fd, F, hb, hm⟩ := D.ex
  refine ⟨fun pins s σ H Q I h => ?_⟩
  refine PySem.W.methodCall_KW (pl := pl) (thn (he.run pins s σ H _ I h) fun u s1 h1 => ?_) ht
  obtain ⟨x, H1, I1, rx, a, dx, fs, ex, ea, l, q⟩ := h1
  subst ex
  obtain rfl : u = Value.ref a := rx
  refine getmeth_ok I1 ea c hm l ?_
  exact PySem.W.callWith_K0 (first := [.ref a]) I1.kIn hm.kp (run_fnSD (us := [.ref a]) (vs := [.ref a]) (dvs := []) (ds := []) (E := WE W) F hr hb .nil (passAt tk σ) I1 (.cons rfl .nil) q)
theorem pe_new (D : Mi X.prog X.w X.K X.mg X.base k C x ps sp) (hr : Room (k + 1) X.A) (hg : Gl X x) (hdb : (x == ("__debug__" : Str)) = false := by decide) : PE X (.Call (.Name x p) [] [] pos) (tMake C sp [] E0 tNil) := by
  obtain ⟨f, fd, F, hb, hM, hm⟩ := D.ex
  exact pe_make0 hM F hr hg hm hb .nil pass0 hdb
end

/-! ### a written dict, a dict copied, a tuple unpacked with a star -/
section
variable {X : Cx} {d : Addr}
theorem kd_notIn (h : ∃ es n, KDict X.K X.w d es n) : OpR X (compareOp .NotIn) (fun x y H Q => ∃ (z : Str) (r : Option Value), x = .str z ∧ y = .ref d ∧ PySem.W.nsIn X.K d z = some r ∧ Q (.bl (!r.isSome)) H) := by
  obtain ⟨es, n, D⟩ := h
  exact op_notIn_kd D
theorem kd_item (h : ∃ es n, KDict X.K X.w d es n) : IxR X (fun x y H Q => ∃ (z : Str) (u0 : Value) (v0 : V), x = .ref d ∧ y = .str z ∧ PySem.W.nsIn X.K d z = some (some u0) ∧ RelV v0 u0 ∧ Q v0 H) := by
  obtain ⟨es, n, D⟩ := h
  intro value slice pins s σ H x y v u Q I rx ry h hs
  obtain ⟨z, u0, v0, rfl, rfl, e, r, q⟩ := h
  cases rx
  obtain ⟨t, rfl⟩ := ry
  exact subscriptTail_builtinR (x := u0) (kd_type D I) F.slot_dict_getitem.lookup
    (wpAny_getItem_of (Q := fun r s' => r = u0 ∧ EP X pins σ Q r s') (PySem.strKind_is X.prog X.w z t) (PySem.W.mapOf_K (prog := X.prog) I.kIn D.at_ D.lit) (PySem.W.find_K D.at_ e) ⟨rfl, v0, H, I.tok _, r, q⟩) hs
theorem call_dictC : CallR X (.type "dict") (fun xs H Q => ∃ a kvs, xs = [.ref a] ∧ H a = some (.dK kvs) ∧ ∀ p, H p = none → Q (.ref p) (upd H p (.dK kvs))) := by
  intro pins s σ H xs us Q I r h
  obtain ⟨a, kvs, rfl, ha, q⟩ := h
  cases r with
  | cons r1 rs =>
    cases rs
    cases r1
    exact d_copyOf I (.inl ha) fun p s' np I' => ⟨.ref p, _, I', rfl, q p np⟩
theorem walksTail {prog : Program} {w : World} {A : Around} {I : Addr} {fp wr : List Addr} {n : Nat} {P : Nat → Value → Prop} {St : Nat → Heap → Prop} (W : Walks prog w A I fp wr (n + 1) P St) : Walks prog w A I fp wr n (fun i v => P (i + 1) v) (fun i h => St (i + 1) h) where
  sub := W.sub
  frame := fun i => W.frame (i + 1)
  item := fun i s Q E hi => W.item (i + 1) s Q E (by omega)
  done := W.done
  self := fun i => W.self (i + 1)
def gStar (K : PySem.W.Frag) (g1 g2 : TG) : TG := fun v σ H Q => ∃ a x xs, v = .ref a ∧ SqT K H a (x :: xs) ∧ xs.length ≤ 1000 ∧ ∀ p, H p = none → g1 x σ (upd H p (.lst xs)) fun σ1 H1 => g2 (.ref p) σ1 H1 Q
theorem pg_star {t1 t2 : Expr} {p2 pos : Pos} {k : Nat} {g1 g2 : TG} (hc : X.calm = true) (h1 : PG X t1 g1) (h2 : PG X t2 g2)
    (ha : assignEach [t1, .Starred t2 p2] X.env = [(false, assign t1 X.env), (true, assign t2 X.env)] := by rfl) : PG X (.Tuple [t1, .Starred t2 p2] k pos) (gStar X.K g1 g2) := by
  refine ⟨fun pins s σ H v u Q I r hw => ?_⟩
  obtain ⟨a, x, xs, e1, hq, hlen, hw⟩ := hw
  subst e1
  cases r
  obtain ⟨its, rv, ht, hz⟩ := I.tuple hq
  obtain ⟨u0, us, rfl, rx, rxs⟩ : ∃ u0 us, its = u0 :: us ∧ RelV x u0 ∧ Vals xs us := by
    cases rv with
    | cons r1 rs => exact ⟨_, _, rfl, r1, rs⟩
  have hsz : ((u0 :: us).toArray).size = us.length + 1 := by simp
  rw [assign_Tuple]
  refine wpAny_bind (wpAny_standAt ?_)
  unfold unpack
  rw [ha]
  show wpAny _ _ (holding [Value.ref a] (unpackItems (.ref a) 2 (some 1)) >>= fun r => assignInOrder [assign t1 X.env, assign t2 X.env] r) _ _ _
  refine wpAny_bind (wpAny_holding ?_)
  have hlt : a ≠ s.heap.objs.size := by obtain ⟨o, ho, _⟩ := ht; exact Nat.ne_of_lt (Heap.lt_size ho)
  unfold unpackItems
  refine wpAny_bind ?_
  unfold notIterableAtAll
  refine wpAny_bind (wpAny_specialOf ht.typeIs slot_tuple_iter.lookup ?_)
  refine wpAny_pure ?_
  simp only [Bool.false_eq_true, if_false]
  refine wpAny_bind (wpAny_holding (iter_tuple ht ?_))
  have hs0 : ((u0 :: us).toArray.toList.drop 0).take 1 = [u0] := rfl
  refine wpAny_bind (wpAny_holding (draw_tuple hlt 1 0 _ _ ⟨_, Heap.get?_push_size _ rfl, rfl, rfl⟩ (ht.push _) (by rw [hsz]; omega) fun h₁ hit₁ hs₁ => ?_))
  rw [hs0, if_neg (by simp)]
  have W : Walks X.prog X.w X.A.in1 s.heap.objs.size [s.heap.objs.size, a] [s.heap.objs.size] (us.length + 1) (fun i v => ((u0 :: us).toArray)[i]? = some v) (fun i h => h.IsTupleIter s.heap.objs.size a i ∧ h.IsTuple a (u0 :: us).toArray) := by
    have W0 := Walks.tuple (prog := X.prog) (w := X.w) (A := X.A.in1) (I.ok.hd hc) s.heap.objs.size a hlt (u0 :: us).toArray
    rw [hsz] at W0
    exact W0
  have ht₁ : IsTup h₁ a (u0 :: us).toArray := (ht.push _).extBut hs₁.extBut hlt
  refine wpAny_bind (wpAny_holding ?_)
  have hlu : us.length = xs.length := rxs.length.symm
  refine wpAny_collect_iter (T := "tuple_iterator") (.inr (.inr (.inr rfl))) (walksTail W).toS (fun i s st => ?_) ⟨hit₁, ht₁⟩ (fun b hb => ?_) (by simp) (fun s' acc hm hi => ?_) (Nat.le_trans (by omega : us.length ≤ 1000) (by decide))
  · obtain ⟨o, ho, hcl, _⟩ := st.1
    exact ⟨o, ho, hcl⟩
  · have hb' : b = s.heap.objs.size ∨ b = a := by simpa using hb
    rcases hb' with rfl | rfl
    · obtain ⟨o, ho, _⟩ := hit₁
      exact Heap.lt_size ho
    · obtain ⟨o, ho, _⟩ := ht₁
      exact Heap.lt_size ho
  rw [Moved.eq_with hm]
  have eacc : acc.toList = us := by
    obtain ⟨e1, e2⟩ := hi
    refine List.ext_getElem? fun j => ?_
    by_cases hj : j < acc.size
    · have h3 := e2 j acc[j] (by simp [hj])
      have h4 : us[j]? = some acc[j] := by
        have : ((u0 :: us).toArray)[j + 1]? = some acc[j] := h3
        simpa using this
      rw [h4]
      simp [hj]
    · rw [List.getElem?_eq_none (by simpa using hj), List.getElem?_eq_none (by omega)]
  rw [eacc]
  have kp : ∀ b u, s.heap.get? b = some u → s'.heap.get? b = some u := fun b u e => hm.heap b u (by simp; exact Nat.ne_of_lt (Heap.lt_size e)) (hs₁.extBut b u (Nat.ne_of_lt (Heap.lt_size e)) (Heap.get?_push_of_some _ e))
  have I1 : Inv X pins σ H { s with heap := s'.heap, toks := s'.toks } := I.kept kp
  show wpAny _ _ (if us.length < 0 then _ else newList (us.take (us.length - 0)) >>= fun l => pure ([u0] ++ [l] ++ us.drop (us.length - 0))) _ _ _
  rw [if_neg (Nat.not_lt_zero _), Nat.sub_zero, List.take_length, List.drop_length]
  refine wpAny_bind (wpAny_newObj_type ?_)
  refine wpAny_pure ?_
  have I2 : Inv X pins σ (upd H s'.heap.objs.size (.lst xs)) { s with heap := s'.heap.push { cls := .type "list", data := .seq us.toArray }, toks := s'.toks } :=
    I1.laid (t' := s'.toks) (o := .lst xs) (fun b ob q => Heap.get?_push_of_some _ q) (Nat.le_refl _) ⟨Nat.le_trans hlen (by decide), us, 0, rxs, Heap.get?_push_size _ rfl⟩
  have hp : H s'.heap.objs.size = none := I1.hok.fresh (Nat.le_refl _)
  show wpAny _ _ (holding [Value.ref s'.heap.objs.size] (assign t1 X.env u0) >>= fun _ => (holding [] (assign t2 X.env (.ref s'.heap.objs.size)) >>= fun _ => pure ())) _ _ _
  refine wpAny_bind (wpAny_holding (thn (h1.run pins _ σ _ x u0 _ I2 rx (hw _ hp)) fun _ s3 h3 => ?_))
  obtain ⟨σ1, H1, I3, q3⟩ := h3
  refine wpAny_bind (wpAny_holding (thn (h2.run pins s3 σ1 H1 (.ref s'.heap.objs.size) _ Q I3 rfl q3) fun _ s4 h4 => ?_))
  exact wpAny_pure h4
end
theorem pe_fldK {X : Cx} {K : PySem.W.Frag} {e : Expr} {f : Str} {ta : TE} {pos : Pos} (he : PE X e ta) (hb : attributeBase e f X.env (eval e X.env) = eval e X.env) (hK : X.K = K := by rfl) : PE X (.Attribute e f pos) (tFld K ta f) := by
  subst hK
  exact pe_fld he hb

/-! ### tables by whole numbers -/
section
variable {α : Type}
def asV (l : List (Int × α)) (k : Int) : Option α := (l.find? fun kv => decide (kv.1 = k)).map (·.2)
def asPut (l : List (Int × α)) (k : Int) (v : α) : List (Int × α) := if (l.any fun kv => decide (kv.1 = k)) = true then l.map (fun kv => if kv.1 = k then (kv.1, v) else kv) else l ++ [(k, v)]
def asDrop (l : List (Int × α)) (k : Int) : List (Int × α) := l.filter fun kv => decide (kv.1 ≠ k)
/-- a dict whose keys are the numbers, its values as Pv tells -/
def AsP (Pv : V → α → Prop) (kvs : List (Key × V)) (l : List (Int × α)) : Prop := Paired (fun (kv : Key × V) (r : Int × α) => kv.1 = Sum.inl r.1 ∧ Pv kv.2 r.2) kvs l
variable {Pv : V → α → Prop}
theorem inl_iff {a : Key} {r k : Int} (h : a = Sum.inl r) : (a = Sum.inl k) ↔ r = k := by
  subst h
  constructor
  · intro e
    injection e
  · intro e
    rw [e]
theorem AsP.val {kvs : List (Key × V)} {l : List (Int × α)} (h : AsP Pv kvs l) (k : Int) : (asV l k = none ∧ valV kvs (Sum.inl k) = none) ∨ ∃ x v, asV l k = some x ∧ valV kvs (Sum.inl k) = some v ∧ Pv v x := by
  induction h with
  | nil => exact .inl ⟨rfl, rfl⟩
  | @cons kv r kvs l h t ih =>
    by_cases e : r.1 = k
    · right
      refine ⟨r.2, kv.2, ?_, valV_pos ((inl_iff h.1).mpr e), h.2⟩
      unfold asV
      rw [List.find?_cons_of_pos (by simp [e])]
      rfl
    · have e1 : asV (r :: l) k = asV l k := by
        unfold asV
        rw [List.find?_cons_of_neg (by simp [e])]
      rw [e1, valV_neg fun z => e ((inl_iff h.1).mp z)]
      exact ih
theorem AsP.any {kvs : List (Key × V)} {l : List (Int × α)} (h : AsP Pv kvs l) (k : Int) : (kvs.any fun kv => decide (kv.1 = Sum.inl k)) = (l.any fun kv => decide (kv.1 = k)) := by
  induction h with
  | nil => rfl
  | @cons kv r kvs l h t ih =>
    show (decide (kv.1 = Sum.inl k) || _) = (decide (r.1 = k) || _)
    rw [ih]
    congr 1
    exact decide_eq_decide.mpr (inl_iff h.1)
theorem AsP.mapP {kvs : List (Key × V)} {l : List (Int × α)} (h : AsP Pv kvs l) {k : Int} {v : V} {x : α} (hv : Pv v x) : AsP Pv (kvs.map fun kv => if kv.1 = Sum.inl k then (kv.1, v) else kv) (l.map fun kv => if kv.1 = k then (kv.1, x) else kv) := by
  induction h with
  | nil => exact .nil
  | @cons kv r kvs l h t ih =>
    refine .cons ?_ ih
    dsimp only
    by_cases e : r.1 = k
    · rw [if_pos ((inl_iff h.1).mpr e), if_pos e]
      exact ⟨h.1, hv⟩
    · rw [if_neg fun z => e ((inl_iff h.1).mp z), if_neg e]
      exact h
theorem AsP.put {kvs : List (Key × V)} {l : List (Int × α)} (h : AsP Pv kvs l) {k : Int} {v : V} {x : α} (hv : Pv v x) : AsP Pv (putK kvs (Sum.inl k) v) (asPut l k x) := by
  unfold putK asPut
  rw [AsP.any h]
  split
  · exact AsP.mapP h hv
  · exact Paired.snocP h ⟨rfl, hv⟩
theorem AsP.drop {kvs : List (Key × V)} {l : List (Int × α)} (h : AsP Pv kvs l) (k : Int) : AsP Pv (dropK kvs (Sum.inl k)) (asDrop l k) := by
  unfold dropK asDrop
  induction h with
  | nil => exact .nil
  | @cons kv r kvs l h t ih =>
    by_cases e : r.1 = k
    · rw [List.filter_cons_of_neg (by simpa using (inl_iff h.1).mpr e), List.filter_cons_of_neg (by simpa using e)]
      exact ih
    · rw [List.filter_cons_of_pos (by simpa using fun z => e ((inl_iff h.1).mp z)), List.filter_cons_of_pos (by simpa using e)]
      exact .cons h ih
theorem AsP.mono {Pw : V → α → Prop} {kvs : List (Key × V)} {l : List (Int × α)} (f : ∀ v x, Pv v x → Pw v x) (h : AsP Pv kvs l) : AsP Pw kvs l := Paired.mono h fun _ _ z => ⟨z.1, f _ _ z.2⟩
theorem AsP.len {kvs : List (Key × V)} {l : List (Int × α)} (h : AsP Pv kvs l) : kvs.length = l.length := Paired.length h
theorem asPut_len {l : List (Int × α)} {k : Int} {x : α} : (asPut l k x).length ≤ l.length + 1 := by
  unfold asPut
  split
  · rw [List.length_map]; omega
  · rw [List.length_append]; exact Nat.le_refl _
theorem asDrop_len {l : List (Int × α)} {k : Int} : (asDrop l k).length ≤ l.length := List.length_filter_le _ _
end
/-! ### deeds, what they make -/
inductive Dd where
  | layer : Dd
  | row : Int → Int → Int → Dd
  | draw : Int → Int → Dd
  | hold : Int → Int → Dd
  | drop : Int → Dd
  | round : Int → Dd
  | straight : Int → Dd
  | move : Int → Int → Int → Dd
deriving DecidableEq
def Dd.word : Dd → Str
  | .layer => "layer"
  | .row _ _ _ => "row"
  | .draw _ _ => "draw"
  | .hold _ _ => "hold"
  | .drop _ => "drop"
  | .round _ => "round"
  | .straight _ => "straight"
  | .move _ _ _ => "move"
def Dd.nums : Dd → List Int
  | .layer => []
  | .row l d h => [l, d, h]
  | .draw r d => [r, d]
  | .hold r h => [r, h]
  | .drop r => [r]
  | .round r => [r]
  | .straight l => [l]
  | .move x y m => [x, y, m]
def ddV (δ : Dd) : List V := .str δ.word :: δ.nums.map V.int
def ddD (δ : Dd) : PyData := .tuple (.str δ.word :: δ.nums.map .int)
def DeedAt (K : PySem.W.Frag) (H : Hp) (v : V) (δ : Dd) : Prop := ∃ p, v = .ref p ∧ SqT K H p (ddV δ)
theorem DeedAt.keep {K : PySem.W.Frag} {H H' : Hp} {v : V} {δ : Dd} (t : TKeep K H H') (h : DeedAt K H v δ) : DeedAt K H' v δ := by
  obtain ⟨p, e, hp⟩ := h
  exact ⟨p, e, t _ _ hp⟩
abbrev T3 := Int × Int × Int
def T3At (K : PySem.W.Frag) (H : Hp) (v : V) (x : T3) : Prop := ∃ p, v = .ref p ∧ SqT K H p [.int x.1, .int x.2.1, .int x.2.2]
theorem T3At.keep {K : PySem.W.Frag} {H H' : Hp} {v : V} {x : T3} (t : TKeep K H H') (h : T3At K H v x) : T3At K H' v x := by
  obtain ⟨p, e, hp⟩ := h
  exact ⟨p, e, t _ _ hp⟩
structure MS where
  layers : List Int
  rows : List (Int × T3)
  backs : List (Int × Option Int)
  moves : List MV
def MS.nil : MS := ⟨[], [], [], []⟩
def MS.small (S : MS) (n : Nat) : Prop := S.layers.length ≤ n ∧ S.rows.length ≤ n ∧ S.backs.length ≤ n ∧ S.moves.length ≤ n
/-- what becomes of it behind a deed -/
def fol (S : MS) (n : Int) : Dd → MS
  | .layer => { S with layers := S.layers ++ [n] }
  | .row l d h => { S with rows := asPut S.rows n (l, d, h) }
  | .draw r d => match asV S.rows r with | some x => { S with rows := asPut S.rows r (x.1, d, x.2.2) } | none => S
  | .hold r h => match asV S.rows r with | some x => { S with rows := asPut S.rows r (x.1, x.2.1, h) } | none => S
  | .drop r => { S with rows := asDrop S.rows r }
  | .round r => match asV S.rows r with | some x => { S with backs := asPut S.backs x.1 (some r) } | none => S
  | .straight l => { S with backs := asPut S.backs l none }
  | .move x y m => { S with moves := S.moves ++ [(x, y, m)] }
/-- the row that a deed names stands -/
def rowOk (S : MS) : Dd → Prop
  | .draw r _ => (asV S.rows r).isSome = true
  | .hold r _ => (asV S.rows r).isSome = true
  | .drop r => (asV S.rows r).isSome = true
  | .round r => (asV S.rows r).isSome = true
  | _ => True
theorem fol_draw {S : MS} {n r d : Int} {x : T3} (e : asV S.rows r = some x) : fol S n (.draw r d) = { S with rows := asPut S.rows r (x.1, d, x.2.2) } := by
  show (match asV S.rows r with | some x => { S with rows := asPut S.rows r (x.1, d, x.2.2) } | none => S) = _
  rw [e]
theorem fol_hold {S : MS} {n r h : Int} {x : T3} (e : asV S.rows r = some x) : fol S n (.hold r h) = { S with rows := asPut S.rows r (x.1, x.2.1, h) } := by
  show (match asV S.rows r with | some x => { S with rows := asPut S.rows r (x.1, x.2.1, h) } | none => S) = _
  rw [e]
theorem fol_round {S : MS} {n r : Int} {x : T3} (e : asV S.rows r = some x) : fol S n (.round r) = { S with backs := asPut S.backs x.1 (some r) } := by
  show (match asV S.rows r with | some x => { S with backs := asPut S.backs x.1 (some r) } | none => S) = _
  rw [e]
theorem small_of {S S' : MS} {k : Nat} (h : S.small k) (a : S'.layers.length ≤ S.layers.length + 1) (b : S'.rows.length ≤ S.rows.length + 1) (c : S'.backs.length ≤ S.backs.length + 1) (d : S'.moves.length ≤ S.moves.length + 1) : S'.small (k + 1) := by
  obtain ⟨a', b', c', d'⟩ := h
  exact ⟨by omega, by omega, by omega, by omega⟩
theorem fol_small {S : MS} {n : Int} {δ : Dd} {k : Nat} (hr : rowOk S δ) (h : S.small k) : (fol S n δ).small (k + 1) := by
  have z : ∀ {m : Nat}, m ≤ m + 1 := fun {m} => Nat.le_succ m
  cases δ with
  | layer => exact small_of h (by show (S.layers ++ [n]).length ≤ _; rw [List.length_append]; exact Nat.le_refl _) z z z
  | row l d' h' => exact small_of h z asPut_len z z
  | draw r d' =>
    obtain ⟨x, e⟩ := Option.isSome_iff_exists.mp hr
    rw [fol_draw e]
    exact small_of h z asPut_len z z
  | hold r d' =>
    obtain ⟨x, e⟩ := Option.isSome_iff_exists.mp hr
    rw [fol_hold e]
    exact small_of h z asPut_len z z
  | drop r => exact small_of h z (Nat.le_trans asDrop_len z) z z
  | round r =>
    obtain ⟨x, e⟩ := Option.isSome_iff_exists.mp hr
    rw [fol_round e]
    exact small_of h z z asPut_len z
  | straight l => exact small_of h z z asPut_len z
  | move x y m => exact small_of h z z z (by show (S.moves ++ [(x, y, m)]).length ≤ _; rw [List.length_append]; exact Nat.le_refl _)
/-! ### the fields -/
def fM (L R B M : Addr) : List (Str × V) := [("layers", .ref L), ("rows", .ref R), ("backs", .ref B), ("moves", .ref M)]
def fR (D M : Addr) (n : Int) : List (Str × V) := [("deeds", .ref D), ("made", .ref M), ("numbered", .int n)]
theorem fM_layers {L R B M : Addr} : (fM L R B M).lookup ("layers" : Str) = some (.ref L) := rfl
theorem fM_rows {L R B M : Addr} : (fM L R B M).lookup ("rows" : Str) = some (.ref R) := rfl
theorem fM_backs {L R B M : Addr} : (fM L R B M).lookup ("backs" : Str) = some (.ref B) := rfl
theorem fM_moves {L R B M : Addr} : (fM L R B M).lookup ("moves" : Str) = some (.ref M) := rfl
theorem fM_p1 {L R B M X : Addr} : putF "layers" (.ref X) (fM L R B M) = fM X R B M := rfl
theorem fM_p2 {L R B M X : Addr} : putF "rows" (.ref X) (fM L R B M) = fM L X B M := rfl
theorem fM_p3 {L R B M X : Addr} : putF "backs" (.ref X) (fM L R B M) = fM L R X M := rfl
theorem fM_p4 {L R B M X : Addr} : putF "moves" (.ref X) (fM L R B M) = fM L R B X := rfl
theorem fM_new {L R B M : Addr} : putF "moves" (.ref M) (putF "backs" (.ref B) (putF "rows" (.ref R) (putF "layers" (.ref L) []))) = fM L R B M := rfl
theorem fR_deeds {D M : Addr} {n : Int} : (fR D M n).lookup ("deeds" : Str) = some (.ref D) := rfl
theorem fR_made {D M : Addr} {n : Int} : (fR D M n).lookup ("made" : Str) = some (.ref M) := rfl
theorem fR_numbered {D M : Addr} {n : Int} : (fR D M n).lookup ("numbered" : Str) = some (.int n) := rfl
theorem fR_new {D M : Addr} {n : Int} : putF "numbered" (.int n) (putF "made" (.ref M) (putF "deeds" (.ref D) [])) = fR D M n := rfl
theorem fR_p1 {D M X : Addr} {n : Int} : putF "deeds" (.ref X) (fR D M n) = fR X M n := rfl
theorem fR_p2 {D M X : Addr} {n : Int} : putF "made" (.ref X) (fR D M n) = fR D X n := rfl
theorem fR_p3 {D M : Addr} {n m : Int} : putF "numbered" (.int m) (fR D M n) = fR D M m := rfl
theorem at0 {α : Type} {c : α} {r : List α} : atI (c :: r) 0 = some c := by
  simp [atI, ixN]
theorem at_n {α : Type} {xs : List α} {v : α} (k : Nat) (h : xs[k]? = some v) : atI xs (k : Int) = some v := by
  unfold atI ixN
  have : k < xs.length := (List.getElem?_eq_some_iff.mp h).1
  rw [if_pos (by omega), if_pos (by omega)]
  show xs[(k : Int).toNat]? = _
  rw [Int.toNat_natCast]
  exact h
theorem at_last {α : Type} {xs : List α} {v : α} (h : xs.getLast? = some v) : atI xs (-1) = some v := by
  have ne : xs ≠ [] := fun e => by rw [e] at h; cases h
  have hp := List.length_pos_iff.mpr ne
  rw [List.getLast?_eq_getElem?] at h
  unfold atI ixN
  rw [if_neg (by decide), if_pos (by omega)]
  show xs[((-1 : Int) + (xs.length : Int)).toNat]? = some v
  rw [show ((-1 : Int) + (xs.length : Int)).toNat = xs.length - 1 by omega]
  exact h

/-! ### lists that are not the table of modules; a def held in a variable, one of several -/
def tLstS (t : TA) : TE := fun σ H Q => t σ H fun xs H1 => xs.length ≤ sizeLine ∧ ∀ p, H1 p = none → p ≠ sysModules → Q (.ref p) (upd H1 p (.lst xs))
def rListS (K : PySem.W.Frag) : List V → Hp → VK → Prop := fun xs H Q => ∃ p ys, xs = [.ref p] ∧ (SqL K H p ys ∨ SqT K H p ys) ∧ ∀ l, H l = none → l ≠ sysModules → Q (.ref l) (upd H l (.lst ys))
def tCallN (X : Cx) (i : Nat) (Ex : L2.St → XK) (t : TA) : TE := fun σ H Q => ∃ f, σ[i]? = some (some (.ref f)) ∧ ∃ k x ps sp, ClX X.prog X.w X.K X.mg X.base k x ps sp ∧ Room k X.A ∧ X.mg x = some (.ref f) ∧ t σ H fun vs H1 => sp vs H1 Q (Ex σ)
section
variable {X : Cx}
theorem pe_lstS {es : List Expr} {t : TA} {pos : Pos} (h : PA X es t) : PE X (.List es pos) (tLstS t) := by
  refine ⟨fun pins s σ H Q I hq => wpAny_List_spliced (thn (h.run pos pins s σ H _ I hq) fun us s1 hx => ?_)⟩
  obtain ⟨xs, H1, I1, r, z, q⟩ := hx
  have ne : s1.heap.objs.size ≠ sysModules := Nat.ne_of_gt I1.big
  exact ⟨by rw [← r.length]; exact z, .ref s1.heap.objs.size, upd H1 s1.heap.objs.size (.lst xs), I1.laid (t' := s1.toks) (fun b u e => Heap.get?_push_of_some _ e) (Nat.le_refl _) ⟨z, us, 0, r, Heap.get?_push_size _ rfl⟩, rfl, q _ (I1.hok.fresh (Nat.le_refl _)) ne⟩
theorem pe_callN {y : Str} {W : WX} {e : Expr} {es : List Expr} {t : TA} {p pos : Pos} (i : Nat) (tk : Takes X W) (ha : PA X (e :: es) t) (hN : X.N[i]? = some y := by rfl) (hv : Vis X.env.scope y := by first | exact Or.inl rfl | exact Or.inr (Or.inl rfl) | exact Or.inr (Or.inr rfl))
    (hdb : (y == ("__debug__" : Str)) = false := by decide) (hcd : (y == ("__classdict__" : Str)) = false := by decide)
    (he : starEach (e :: es) X.env = (false, eval e X.env) :: starEach es X.env := by rfl) (hpl : (backTo pos (starEach es X.env)).any (·.1) = false := by rfl) :
    PE X (.Call (.Name y p) (e :: es) [] pos) (tCallN X i (WE W) t) := by
  refine ⟨fun pins s σ H Q I h => ?_⟩
  obtain ⟨f, hs, k, x, ps, sp, C, rm, hm, h⟩ := h
  obtain ⟨f', fd, F, hk, hb, hm'⟩ := C.ex
  have ef : f' = f := by
    rw [hm'] at hm
    injection hm with hm
    injection hm
  subst ef
  refine wpAny_Call_Name_kw (thn ((pe_var (pos := p) hN hv hdb hcd).run pins s σ H (fun v H1 => v = .ref f' ∧ H1 = H) I ⟨.ref f', hs, rfl, rfl⟩) fun u s1 hx => ?_)
  obtain ⟨v, H1, I1, rv, rfl, rfl⟩ := hx
  cases rv
  exact PySem.W.callWith_K (h₀ := X.base) I.ok.mod.kin hk (thn (ha.run pos pins s1 σ _ _ I1 h) fun us s2 hy => by
    obtain ⟨vs, H2, I2, r, q⟩ := hy
    exact ⟨I2.kIn, run_fnS F rm hb (passAt tk σ) I2 r q⟩) he hpl
end
section
variable {X : Cx}
/-- what is handed in to list(..), as it lies: of whichever of the two kinds -/
theorem lies_seq {pins : List (Addr × Obj)} {σ : L2.St} {H : Hp} {s : Shared} {p : Addr} {ys : List V} (I : Inv X pins σ H s) (h : SqL X.K H p ys ∨ SqT X.K H p ys) :
    ∃ T its o n, (T = "list" ∨ T = "tuple") ∧ s.heap.get? p = some o ∧ o.cls = .type T ∧ o.data = .seq (List.toArray its) n ∧ Vals ys its ∧ ys.length ≤ sizeLine := by
  cases h with
  | inl l =>
    obtain ⟨its, same, lies, small⟩ := I.list l
    obtain ⟨o, get, kind, n, data⟩ := lies.isList
    exact ⟨_, its, o, n, .inl rfl, get, kind, data, same, small⟩
  | inr t =>
    obtain ⟨its, same, ⟨o, get, kind, n, data⟩, small⟩ := I.tuple t
    exact ⟨_, its, o, n, .inr rfl, get, kind, data, same, small⟩
theorem call_listS : CallR X (.type "list") (rListS X.K) := by
  rintro pins s σ H _ us Q I r ⟨p, ys, rfl, h, due⟩
  obtain ⟨T, its, o, n, two, get, kind, data, same, small⟩ := lies_seq I h
  obtain ⟨_, rfl, rfl⟩ := vals1 r
  have few : its.toArray.size ≤ sizeLine := by
    rw [List.size_toArray, ← same.length]
    exact small
  refine call_list_seq p two get kind data (fun h' cap stay laid => ?_) few
  have new : ObjOk X.prog X.w (upd H s.heap.objs.size (.lst ys)) h' s.heap.objs.size (.lst ys) := ⟨small, its, cap, same, laid⟩
  exact ⟨.ref s.heap.objs.size, upd H s.heap.objs.size (.lst ys), I.laid (t' := s.toks) stay (Nat.le_refl _) new, rfl, due _ (I.hok.fresh (Nat.le_refl _)) (Nat.ne_of_gt I.big)⟩
end

/-! ### a list unpacked with a star; written dicts looked in; a text of the module -/
section
variable {X : Cx} {d : Addr}
theorem kd_in (h : ∃ es n, KDict X.K X.w d es n) : OpR X (compareOp .In) (fun x y H Q => ∃ (z : Str) (r : Option Value), x = .str z ∧ y = .ref d ∧ PySem.W.nsIn X.K d z = some r ∧ Q (.bl r.isSome) H) := by
  obtain ⟨es, n, D⟩ := h
  exact op_in_kd D
def tKGet (K : PySem.W.Frag) (d : Addr) (td ty : TE) : TE := fun σ H Q => td σ H fun x H1 => x = .ref d ∧ ty σ H1 fun y H2 => ∃ (z : Str) (r : Option Value) (v0 : V), y = .str z ∧ PySem.W.nsIn K d z = some r ∧ RelV v0 (r.getD .none) ∧ Q v0 H2
theorem pe_kget {o e : Expr} {apos cpos : Pos} {td ty : TE} (h : ∃ es n, KDict X.K X.w d es n) (ho : PE X o td) (he : PE X e ty) (m : M1 X o "get" apos e cpos) : PE X (.Call (.Attribute o "get" apos) [e] [] cpos) (tKGet X.K d td ty) := by
  obtain ⟨es, n, D⟩ := h
  refine ⟨fun pins s σ H Q I h => ?_⟩
  refine wpAny_Call_method m.base m.few m.line PySem.F.plainAttrs_dict PySem.F.slot_dict_get PySem.F.type_dict_get (thn (ho.run pins s σ H _ I h) fun u s1 ⟨x, H1, I1, rx, ex, q1⟩ => ?_)
  subst ex
  obtain rfl : u = Value.ref d := rx
  refine ⟨kd_type D I1, fun b q => ?_, ?_⟩
  · cases q
    exact ⟨_, I1.kIn _ _ D.at_, rfl⟩
  rw [m.trees]
  refine Calls.callWith_builtin rfl (Calls.evalArgs_plain (Calls.spliced_cons (thn (he.run pins s1 σ H1 _ I1 q1) fun iv s2 ⟨y, H2, I2, ry, z, r, v0, ey, e, rv, q2⟩ => Calls.spliced_nil ?_)))
  subst ey
  obtain ⟨t, rfl⟩ := ry
  refine call_meetsIn PySem.F.slot_dict_get (kd_type D I2) PySem.F.entry_dict_get (PySem.F.args_dict_get_2 _ _) (meets_dict_get _ d (PySem.strKind_is X.prog X.w z t) D.low) ⟨_, PySem.W.mapOf_K (prog := X.prog) I2.kIn D.at_ D.lit, v0, H2, I2.tok _, ?_, q2⟩
  rw [PySem.W.find_K D.at_ e]
  exact rv
theorem pe_gstr {x : Str} {pos : Pos} {y : Str} (hg : Gl X x) (h : ∃ t, X.mg x = some (.str y t)) (hd : (x == ("__debug__" : Str)) = false := by decide) : PE X (.Name x pos) (tC (.str y)) := by
  obtain ⟨t, h⟩ := h
  exact pe_glob hg h ⟨_, rfl⟩ hd
def gStarL (K : PySem.W.Frag) (g1 g2 : TG) : TG := fun v σ H Q => ∃ a x xs, v = .ref a ∧ SqL K H a (x :: xs) ∧ xs.length ≤ 1000 ∧ ∀ p, H p = none → g1 x σ (upd H p (.lst xs)) fun σ1 H1 => g2 (.ref p) σ1 H1 Q
theorem pg_starL {t1 t2 : Expr} {p2 pos : Pos} {k : Nat} {g1 g2 : TG} (hc : X.calm = true) (h1 : PG X t1 g1) (h2 : PG X t2 g2)
    (ha : assignEach [t1, .Starred t2 p2] X.env = [(false, assign t1 X.env), (true, assign t2 X.env)] := by rfl) : PG X (.Tuple [t1, .Starred t2 p2] k pos) (gStarL X.K g1 g2) := by
  refine ⟨fun pins s σ H v u Q I r hw => ?_⟩
  obtain ⟨a, x, xs, e1, hq, hlen, hw⟩ := hw
  subst e1
  cases r
  obtain ⟨its, rv, pl, hz⟩ := I.list hq
  obtain ⟨u0, us, rfl, rx, rxs⟩ : ∃ u0 us, its = u0 :: us ∧ RelV x u0 ∧ Vals xs us := by
    cases rv with
    | cons r1 rs => exact ⟨_, _, rfl, r1, rs⟩
  have hsz : ((u0 :: us).toArray).size = us.length + 1 := by simp
  have ht : s.heap.IsList a (u0 :: us).toArray := by
    obtain ⟨o, n, ho, hcl, _, hd⟩ := pl
    exact ⟨o, ho, hcl, n, hd⟩
  rw [assign_Tuple]
  refine wpAny_bind (wpAny_standAt ?_)
  unfold unpack
  rw [ha]
  show wpAny _ _ (holding [Value.ref a] (unpackItems (.ref a) 2 (some 1)) >>= fun r => assignInOrder [assign t1 X.env, assign t2 X.env] r) _ _ _
  refine wpAny_bind (wpAny_holding ?_)
  have hlt : a ≠ s.heap.objs.size := by obtain ⟨o, ho, _⟩ := ht; exact Nat.ne_of_lt (Heap.lt_size ho)
  unfold unpackItems
  refine wpAny_bind ?_
  unfold notIterableAtAll
  refine wpAny_bind (wpAny_specialOf ht.typeIs PySem.F.slot_list_iter.lookup ?_)
  refine wpAny_pure ?_
  simp only [Bool.false_eq_true, if_false]
  refine wpAny_bind (wpAny_holding (wpAny_pyIter_list ht ?_))
  have hitN : (s.heap.push { cls := .type "list_iterator", data := .fields #[.ref a, .int 0 0] }).IsListIter s.heap.objs.size a 0 := ⟨_, Heap.get?_push_size _ rfl, rfl, rfl⟩
  have htN : (s.heap.push { cls := .type "list_iterator", data := .fields #[.ref a, .int 0 0] }).IsList a (u0 :: us).toArray := ht.at fun _ e => Heap.get?_push_of_some _ e
  refine wpAny_bind (wpAny_holding ?_)
  show wpAny _ _ (pyNext (.ref s.heap.objs.size) >>= _) _ _ _
  refine wpAny_bind (wpAny_pyNext_list_item hitN htN (x := u0) (by simp) fun h₁ hit₁ hs₁ => ?_)
  refine wpAny_bind (wpAny_holding (wpAny_pure (wpAny_pure ?_)))
  have ht₁ : h₁.IsList a (u0 :: us).toArray := htN.extBut hs₁.extBut hlt
  have W : Walks X.prog X.w X.A.in1 s.heap.objs.size [s.heap.objs.size, a] [s.heap.objs.size] (us.length + 1) (fun i v => ((u0 :: us).toArray)[i]? = some v) (fun i h => h.IsListIter s.heap.objs.size a i ∧ h.IsList a (u0 :: us).toArray) := by
    have W0 := Walks.list (prog := X.prog) (w := X.w) (A := X.A.in1) (I.ok.hd hc) s.heap.objs.size a hlt (u0 :: us).toArray
    rw [hsz] at W0
    exact W0
  refine wpAny_bind (wpAny_holding ?_)
  have hlu : us.length = xs.length := rxs.length.symm
  refine wpAny_collect_iter (T := "list_iterator") (.inr (.inr (.inl rfl))) (walksTail W).toS (fun i s st => ?_) ⟨hit₁, ht₁⟩ (fun b hb => ?_) (by simp) (fun s' acc hm hi => ?_) (Nat.le_trans (by omega : us.length ≤ 1000) (by decide))
  · obtain ⟨o, ho, hcl, _⟩ := st.1
    exact ⟨o, ho, hcl⟩
  · have hb' : b = s.heap.objs.size ∨ b = a := by simpa using hb
    rcases hb' with rfl | rfl
    · obtain ⟨o, ho, _⟩ := hit₁
      exact Heap.lt_size ho
    · obtain ⟨o, ho, _⟩ := ht₁
      exact Heap.lt_size ho
  rw [Moved.eq_with hm]
  have eacc : acc.toList = us := by
    obtain ⟨e1, e2⟩ := hi
    refine List.ext_getElem? fun j => ?_
    by_cases hj : j < acc.size
    · have h3 := e2 j acc[j] (by simp [hj])
      have h4 : us[j]? = some acc[j] := by
        have : ((u0 :: us).toArray)[j + 1]? = some acc[j] := h3
        simpa using this
      rw [h4]
      simp [hj]
    · rw [List.getElem?_eq_none (by simpa using hj), List.getElem?_eq_none (by omega)]
  rw [eacc]
  have kp : ∀ b u, s.heap.get? b = some u → s'.heap.get? b = some u := fun b u e => hm.heap b u (by simp; exact Nat.ne_of_lt (Heap.lt_size e)) (hs₁.extBut b u (Nat.ne_of_lt (Heap.lt_size e)) (Heap.get?_push_of_some _ e))
  have I1 : Inv X pins σ H { s with heap := s'.heap, toks := s'.toks } := I.kept kp
  show wpAny _ _ (if us.length < 0 then _ else newList (us.take (us.length - 0)) >>= fun l => pure ([u0] ++ [l] ++ us.drop (us.length - 0))) _ _ _
  rw [if_neg (Nat.not_lt_zero _), Nat.sub_zero, List.take_length, List.drop_length]
  refine wpAny_bind (wpAny_newObj_type ?_)
  refine wpAny_pure ?_
  have I2 : Inv X pins σ (upd H s'.heap.objs.size (.lst xs)) { s with heap := s'.heap.push { cls := .type "list", data := .seq us.toArray }, toks := s'.toks } :=
    I1.laid (t' := s'.toks) (o := .lst xs) (fun b ob q => Heap.get?_push_of_some _ q) (Nat.le_refl _) ⟨Nat.le_trans hlen (by decide), us, 0, rxs, Heap.get?_push_size _ rfl⟩
  have hp : H s'.heap.objs.size = none := I1.hok.fresh (Nat.le_refl _)
  show wpAny _ _ (holding [Value.ref s'.heap.objs.size] (assign t1 X.env u0) >>= fun _ => (holding [] (assign t2 X.env (.ref s'.heap.objs.size)) >>= fun _ => pure ())) _ _ _
  refine wpAny_bind (wpAny_holding (thn (h1.run pins _ σ _ x u0 _ I2 rx (hw _ hp)) fun _ s3 h3 => ?_))
  obtain ⟨σ1, H1, I3, q3⟩ := h3
  refine wpAny_bind (wpAny_holding (thn (h2.run pins s3 σ1 H1 (.ref s'.heap.objs.size) _ Q I3 rfl q3) fun _ s4 h4 => ?_))
  exact wpAny_pure h4
end

/-! ### y = {k: v for ..} -/
theorem sw_dict {kx vx : Expr} {gs : List Comprehension} {scope : Scope} {pos py : Pos} {y : Str} {l : Nat} {env : Env} (hk : env.scope.kind = .function) (hy : env.scope.names.lookup y = some .local) (hl : (py.line == pos.line) = true)
    (hno : (scope.names.any fun z => z.1 == y && (z.2 == .local || z.2 == .cell)) = false) : swapsWith (.DictComp kx vx gs scope pos) (some (.Name y py)) l env = pure true := by
  have ky : env.kindOf y = some .local := hy
  have kb : env.blockKind = .function := by
    unfold Env.blockKind
    simp [hk]
  simp only [swapsWith]
  simp only [ky, kb, hno, Expr.pos, hl]
  simp
section
variable {X : Cx}
theorem ps_setDc {i : Nat} {y : Str} {py : Pos} {kx vx tg iter : Expr} {ifs : List Expr} {scope : Scope} {own : List (Str × Nat)} {pos spos : Pos} {wi : TI} {g : TG} {tt : TT} {tk tv : TE} (hc : X.calm = true) (hN : X.N.Nodup) (hy : X.N[i]? = some y) (hyl : X.env.scope.names.lookup y = some .local)
    (hsw : swapsWith (.DictComp kx vx [⟨tg, iter, ifs, 0⟩] scope pos) (some (.Name y py)) spos.line X.env = pure true) (hi : PI X tg iter wi) (ok : BlkOk X.N X.env.scope scope own)
    (hg : ∀ s H C cl fp, PG (X.blk s H scope (compEnvC scope cl C X.env) fp) tg g) (ht : ∀ s H C cl fp, PTs (X.blk s H scope (compEnvC scope cl C X.env) fp) ifs tt)
    (hkx : ∀ s H C cl fp, PE (X.blk s H scope (compEnvC scope cl C X.env) fp) kx tk) (hvx : ∀ s H C cl fp, PE (X.blk s H scope (compEnvC scope cl C X.env) fp) vx tv) (hs : ∀ x, foldedSetIterable iter X.env x = pure x := by intro _; rfl) :
    PS X (.Assign [.Name y py] (.DictComp kx vx [⟨tg, iter, ifs, 0⟩] scope pos) spos) (tAsg (tDc wi g tt tk tv (own.map (·.2))) (gName i)) := by
  refine ⟨fun pins s σ H D I hh => ?_⟩
  rw [exec_Assign_Name_used _ _ _ _ hsw]
  refine wpAny_bind (wpAny_standAt (wpAny_bind ?_))
  show wpAny _ X.A (do let _ ← comprehension (.DictComp kx vx [⟨tg, iter, ifs, 0⟩] scope pos) scope X.env (firstIterPos [⟨tg, iter, ifs, 0⟩] pos) newDict false (eval iter X.env) (some (assign (.Name y py) X.env))) _ _ s
  have h1 : tDc wi g tt tk tv (own.map (·.2)) σ H (fun x H1 => gName i x σ H1 D.nx) := hh
  refine wpAny_bind (thn (dc_core (Qf := fun _ s' => SP X pins D .next s') hc hN I hi ok hg ht hkx hvx hs h1 fun L C s' m H' I' q hn f => ?_) fun _ s' hq => wpAny_pure (wpAny_pure hq))
  show wpAny _ _ (assign (.Name y py) X.env (.ref L)) _ _ _
  refine wpAny_assign_Name (store_ok2 (v := V.ref L) I' hN hy (.inl hyl) rfl (fun s2 I2 hx => ?_) (.inr hyl))
  obtain ⟨a, sb, ha⟩ := hx
  obtain ⟨f0, f1, f2, f3, f4, f5⟩ := f
  have hCa : C ≠ a := by
    rcases ha with z | z
    · rw [z]
      exact f1
    · intro e
      exact f4 y a z e.symm
  refine ⟨m, hn.sameBut sb hCa, fun h3 sb3 => ⟨_, H', I2.turned (t' := s2.toks) (fun b o hb e => (sb3.2 b hb).trans e) f0 f1 f3 f4 f5, q⟩⟩
end

/-! ### the text -/
def topS (i : Nat) : Stmt := PySem.Challenge.pw_lanternrows_k60_whole_a_desk_is_its_roll.main.body.getD i (.Pass ⟨0, 0, 0, 0⟩)
abbrev s_is_whole_from : Stmt := topS 20
theorem sc_is_whole_from : FnScope ["thing", "least"] ["thing", "least"] (defScope s_is_whole_from) := ⟨rfl, rfl, rfl, by decide +kernel, rfl, by decide +kernel, by decide +kernel⟩
abbrev s_is_whole : Stmt := topS 21
theorem sc_is_whole : FnScope ["thing", "least", "most"] ["thing", "least", "most"] (defScope s_is_whole) := ⟨rfl, rfl, rfl, by decide +kernel, rfl, by decide +kernel, by decide +kernel⟩
abbrev s_need_moment : Stmt := topS 22
theorem sc_need_moment : FnScope ["thing"] ["thing"] (defScope s_need_moment) := ⟨rfl, rfl, rfl, by decide +kernel, rfl, by decide +kernel, by decide +kernel⟩
abbrev s_need_at_most : Stmt := topS 23
theorem sc_need_at_most : FnScope ["many", "most"] ["many", "most"] (defScope s_need_at_most) := ⟨rfl, rfl, rfl, by decide +kernel, rfl, by decide +kernel, by decide +kernel⟩
abbrev s_is_tuple : Stmt := topS 32
theorem sc_is_tuple : FnScope ["thing", "least", "most"] ["thing", "least", "most"] (defScope s_is_tuple) := ⟨rfl, rfl, rfl, by decide +kernel, rfl, by decide +kernel, by decide +kernel⟩
abbrev s_is_drawing : Stmt := topS 33
theorem sc_is_drawing : FnScope ["thing"] ["thing"] (defScope s_is_drawing) := ⟨rfl, rfl, rfl, by decide +kernel, rfl, by decide +kernel, by decide +kernel⟩
abbrev s_is_hold : Stmt := topS 34
theorem sc_is_hold : FnScope ["thing"] ["thing"] (defScope s_is_hold) := ⟨rfl, rfl, rfl, by decide +kernel, rfl, by decide +kernel, by decide +kernel⟩
abbrev s_is_row : Stmt := topS 35
theorem sc_is_row : FnScope ["thing", "drawing", "hold"] ["thing"] (defScope s_is_row) := ⟨rfl, rfl, rfl, by decide +kernel, rfl, by decide +kernel, by decide +kernel⟩
abbrev s_is_layer : Stmt := topS 36
theorem sc_is_layer : FnScope ["thing", "rows", "back", "row"] ["thing"] (defScope s_is_layer) := ⟨rfl, rfl, rfl, by decide +kernel, rfl, by decide +kernel, by decide +kernel⟩
abbrev s_is_way : Stmt := topS 37
theorem sc_is_way : FnScope ["thing"] ["thing"] (defScope s_is_way) := ⟨rfl, rfl, rfl, by decide +kernel, rfl, by decide +kernel, by decide +kernel⟩
abbrev s_is_many : Stmt := topS 38
theorem sc_is_many : FnScope ["thing"] ["thing"] (defScope s_is_many) := ⟨rfl, rfl, rfl, by decide +kernel, rfl, by decide +kernel, by decide +kernel⟩
abbrev s_is_move : Stmt := topS 39
theorem sc_is_move : FnScope ["thing", "x", "y", "many"] ["thing"] (defScope s_is_move) := ⟨rfl, rfl, rfl, by decide +kernel, rfl, by decide +kernel, by decide +kernel⟩
abbrev s_is_window : Stmt := topS 40
theorem sc_is_window : FnScope ["thing", "x", "y", "moves", "move"] ["thing"] (defScope s_is_window) := ⟨rfl, rfl, rfl, by decide +kernel, rfl, by decide +kernel, by decide +kernel⟩
abbrev s_is_sheet : Stmt := topS 41
theorem sc_is_sheet : FnScope ["thing", "layers", "window", "layer"] ["thing"] (defScope s_is_sheet) := ⟨rfl, rfl, rfl, by decide +kernel, rfl, by decide +kernel, by decide +kernel⟩
abbrev s_need_sheet : Stmt := topS 42
theorem sc_need_sheet : FnScope ["thing"] ["thing"] (defScope s_need_sheet) := ⟨rfl, rfl, rfl, by decide +kernel, rfl, by decide +kernel, by decide +kernel⟩
abbrev s_held : Stmt := topS 43
theorem sc_held : FnScope ["rows", "drawing", "hold"] ["rows"] (defScope s_held) := ⟨rfl, rfl, rfl, by decide +kernel, rfl, by decide +kernel, by decide +kernel⟩
abbrev s_length_of : Stmt := topS 44
theorem sc_length_of : FnScope ["layer", "rows", "back"] ["layer"] (defScope s_length_of) := ⟨rfl, rfl, rfl, by decide +kernel, rfl, by decide +kernel, by decide +kernel⟩
abbrev s_moved : Stmt := topS 45
theorem sc_moved : FnScope ["window", "x", "y", "moves", "goal_x", "goal_y", "many"] ["window"] (defScope s_moved) := ⟨rfl, rfl, rfl, by decide +kernel, rfl, by decide +kernel, by decide +kernel⟩
abbrev s_full_length : Stmt := topS 46
theorem sc_full_length : FnScope ["sheet", "layers", "window", "lengths", "layer"] ["sheet"] (defScope s_full_length) := ⟨rfl, rfl, rfl, by decide +kernel, rfl, by decide +kernel, by decide +kernel⟩
abbrev s_sheet_length : Stmt := topS 47
theorem sc_sheet_length : FnScope ["sheet"] ["sheet"] (defScope s_sheet_length) := ⟨rfl, rfl, rfl, by decide +kernel, rfl, by decide +kernel, by decide +kernel⟩
abbrev s_first_time : Stmt := topS 49
theorem sc_first_time : FnScope ["rows", "back", "moment", "ahead", "around"] ["rows", "back", "moment"] (defScope s_first_time) := ⟨rfl, rfl, rfl, by decide +kernel, rfl, by decide +kernel, by decide +kernel⟩
abbrev s_drawing_of : Stmt := topS 50
theorem sc_drawing_of : FnScope ["layer", "moment", "rows", "back", "left", "drawing", "hold"] ["layer", "moment"] (defScope s_drawing_of) := ⟨rfl, rfl, rfl, by decide +kernel, rfl, by decide +kernel, by decide +kernel⟩
abbrev s_common_divisor : Stmt := topS 51
theorem sc_common_divisor : FnScope ["one", "other"] ["one", "other"] (defScope s_common_divisor) := ⟨rfl, rfl, rfl, by decide +kernel, rfl, by decide +kernel, by decide +kernel⟩
abbrev s_lowest : Stmt := topS 52
theorem sc_lowest : FnScope ["top", "bottom", "divisor"] ["top", "bottom"] (defScope s_lowest) := ⟨rfl, rfl, rfl, by decide +kernel, rfl, by decide +kernel, by decide +kernel⟩
abbrev s_on_the_way : Stmt := topS 53
theorem sc_on_the_way : FnScope ["start", "goal", "step", "many"] ["start", "goal", "step", "many"] (defScope s_on_the_way) := ⟨rfl, rfl, rfl, by decide +kernel, rfl, by decide +kernel, by decide +kernel⟩
abbrev s_place_of : Stmt := topS 54
theorem sc_place_of : FnScope ["window", "moment", "x", "y", "moves", "left", "goal_x", "goal_y", "many", "step"] ["window", "moment"] (defScope s_place_of) := ⟨rfl, rfl, rfl, by decide +kernel, rfl, by decide +kernel, by decide +kernel⟩
abbrev s_picture_of : Stmt := topS 55
theorem sc_picture_of : FnScope ["sheet", "moment", "layers", "window", "drawings", "layer"] ["sheet", "moment"] (defScope s_picture_of) := ⟨rfl, rfl, rfl, by decide +kernel, rfl, by decide +kernel, by decide +kernel⟩
abbrev s_picture_at : Stmt := topS 56
theorem sc_picture_at : FnScope ["sheet", "moment"] ["sheet", "moment"] (defScope s_picture_at) := ⟨rfl, rfl, rfl, by decide +kernel, rfl, by decide +kernel, by decide +kernel⟩
abbrev s_is_plain_part : Stmt := topS 59
theorem sc_is_plain_part : FnScope ["part", "thing"] ["part", "thing"] (defScope s_is_plain_part) := ⟨rfl, rfl, rfl, by decide +kernel, rfl, by decide +kernel, by decide +kernel⟩
abbrev s_named : Stmt := topS 60
theorem sc_named : FnScope ["deed"] ["deed"] (defScope s_named) := ⟨rfl, rfl, rfl, by decide +kernel, rfl, by decide +kernel, by decide +kernel⟩
abbrev s_Made__init : Stmt := clsB (topS 61) 0
theorem sc_Made__init : FnScope ["self"] ["self"] (defScope s_Made__init) := ⟨rfl, rfl, rfl, by decide +kernel, rfl, by decide +kernel, by decide +kernel⟩
abbrev s_Made__twin : Stmt := clsB (topS 61) 1
theorem sc_Made__twin : FnScope ["self", "other"] ["self"] (defScope s_Made__twin) := ⟨rfl, rfl, rfl, by decide +kernel, rfl, by decide +kernel, by decide +kernel⟩
abbrev s_Made__fits : Stmt := clsB (topS 61) 2
theorem sc_Made__fits : FnScope ["self", "part", "thing"] ["self", "part", "thing"] (defScope s_Made__fits) := ⟨rfl, rfl, rfl, by decide +kernel, rfl, by decide +kernel, by decide +kernel⟩
abbrev s_Made__takes : Stmt := clsB (topS 61) 3
theorem sc_Made__takes : FnScope ["self", "thing", "word", "told", "part", "given"] ["self", "thing"] (defScope s_Made__takes) := ⟨rfl, rfl, rfl, by decide +kernel, rfl, by decide +kernel, by decide +kernel⟩
abbrev s_Made__follow : Stmt := clsB (topS 61) 4
theorem sc_Made__follow : FnScope ["self", "number", "deed", "word"] ["self", "number", "deed"] (defScope s_Made__follow) := ⟨rfl, rfl, rfl, by decide +kernel, rfl, by decide +kernel, by decide +kernel⟩
abbrev s_Made__follow_row : Stmt := clsB (topS 61) 5
theorem sc_Made__follow_row : FnScope ["self", "word", "row", "new", "layer", "drawing", "hold"] ["self", "word", "row", "new"] (defScope s_Made__follow_row) := ⟨rfl, rfl, rfl, by decide +kernel, rfl, by decide +kernel, by decide +kernel⟩
abbrev s_Made__rows_in : Stmt := clsB (topS 61) 6
theorem sc_Made__rows_in : FnScope ["self", "layer", "row"] ["self", "layer"] (defScope s_Made__rows_in) := ⟨rfl, rfl, rfl, by decide +kernel, rfl, by decide +kernel, by decide +kernel⟩
abbrev s_Made__need_room : Stmt := clsB (topS 61) 7
theorem sc_Made__need_room : FnScope ["self", "layer"] ["self"] (defScope s_Made__need_room) := ⟨rfl, rfl, rfl, by decide +kernel, rfl, by decide +kernel, by decide +kernel⟩
abbrev s_Made__layer_made : Stmt := clsB (topS 61) 8
theorem sc_Made__layer_made : FnScope ["self", "layer", "numbers", "back", "rows", "number"] ["self", "layer"] (defScope s_Made__layer_made) := ⟨rfl, rfl, rfl, by decide +kernel, rfl, by decide +kernel, by decide +kernel⟩
abbrev s_Made__sheet_made : Stmt := clsB (topS 61) 9
theorem sc_Made__sheet_made : FnScope ["self", "layer"] ["self"] (defScope s_Made__sheet_made) := ⟨rfl, rfl, rfl, by decide +kernel, rfl, by decide +kernel, by decide +kernel⟩
abbrev s_made_anew : Stmt := topS 62
theorem sc_made_anew : FnScope ["deeds", "made", "number", "deed"] ["deeds"] (defScope s_made_anew) := ⟨rfl, rfl, rfl, by decide +kernel, rfl, by decide +kernel, by decide +kernel⟩
abbrev s_Roll__init : Stmt := clsB (topS 63) 0
theorem sc_Roll__init : FnScope ["self"] ["self"] (defScope s_Roll__init) := ⟨rfl, rfl, rfl, by decide +kernel, rfl, by decide +kernel, by decide +kernel⟩
abbrev s_Roll__need_standing : Stmt := clsB (topS 63) 1
theorem sc_Roll__need_standing : FnScope ["self", "number"] ["self", "number"] (defScope s_Roll__need_standing) := ⟨rfl, rfl, rfl, by decide +kernel, rfl, by decide +kernel, by decide +kernel⟩
abbrev s_Roll__put : Stmt := clsB (topS 63) 2
theorem sc_Roll__put : FnScope ["self", "deed", "number", "made"] ["self", "deed"] (defScope s_Roll__put) := ⟨rfl, rfl, rfl, by decide +kernel, rfl, by decide +kernel, by decide +kernel⟩
abbrev s_Roll__sheet_now : Stmt := clsB (topS 63) 3
theorem sc_Roll__sheet_now : FnScope ["self"] ["self"] (defScope s_Roll__sheet_now) := ⟨rfl, rfl, rfl, by decide +kernel, rfl, by decide +kernel, by decide +kernel⟩
abbrev s_Roll__standing : Stmt := clsB (topS 63) 4
theorem sc_Roll__standing : FnScope ["self"] ["self"] (defScope s_Roll__standing) := ⟨rfl, rfl, rfl, by decide +kernel, rfl, by decide +kernel, by decide +kernel⟩
abbrev s_Roll__leaning : Stmt := clsB (topS 63) 5
theorem sc_Roll__leaning : FnScope ["self", "number", "later", "deed"] ["self", "number"] (defScope s_Roll__leaning) := ⟨rfl, rfl, rfl, by decide +kernel, rfl, by decide +kernel, by decide +kernel⟩
abbrev s_Roll__undo : Stmt := clsB (topS 63) 6
theorem sc_Roll__undo : FnScope ["self", "number", "numbers", "deeds", "made", "other", "deed"] ["self", "number"] (defScope s_Roll__undo) := ⟨rfl, rfl, rfl, by decide +kernel, rfl, by decide +kernel, by decide +kernel⟩
abbrev s_writes_number : Stmt := topS 66
theorem sc_writes_number : FnScope ["word", "figures"] ["word"] (defScope s_writes_number) := ⟨rfl, rfl, rfl, by decide +kernel, rfl, by decide +kernel, by decide +kernel⟩
abbrev s_number_in : Stmt := topS 67
theorem sc_number_in : FnScope ["word"] ["word"] (defScope s_number_in) := ⟨rfl, rfl, rfl, by decide +kernel, rfl, by decide +kernel, by decide +kernel⟩
abbrev s_numbers_in : Stmt := topS 68
theorem sc_numbers_in : FnScope ["word", "between", "part"] ["word", "between"] (defScope s_numbers_in) := ⟨rfl, rfl, rfl, by decide +kernel, rfl, by decide +kernel, by decide +kernel⟩
abbrev s_move_text : Stmt := topS 69
theorem sc_move_text : FnScope ["move", "number"] ["move"] (defScope s_move_text) := ⟨rfl, rfl, rfl, by decide +kernel, rfl, by decide +kernel, by decide +kernel⟩
abbrev s_row_text : Stmt := topS 70
theorem sc_row_text : FnScope ["row", "number"] ["row"] (defScope s_row_text) := ⟨rfl, rfl, rfl, by decide +kernel, rfl, by decide +kernel, by decide +kernel⟩
abbrev s_window_text : Stmt := topS 71
theorem sc_window_text : FnScope ["window", "x", "y", "moves", "move"] ["window"] (defScope s_window_text) := ⟨rfl, rfl, rfl, by decide +kernel, rfl, by decide +kernel, by decide +kernel⟩
abbrev s_layer_text : Stmt := topS 72
theorem sc_layer_text : FnScope ["layer", "rows", "back", "row"] ["layer"] (defScope s_layer_text) := ⟨rfl, rfl, rfl, by decide +kernel, rfl, by decide +kernel, by decide +kernel⟩
abbrev s_text_of : Stmt := topS 73
theorem sc_text_of : FnScope ["sheet", "layers", "window", "lines", "layer", "line"] ["sheet"] (defScope s_text_of) := ⟨rfl, rfl, rfl, by decide +kernel, rfl, by decide +kernel, by decide +kernel⟩
abbrev s_sheet_text : Stmt := topS 74
theorem sc_sheet_text : FnScope ["sheet"] ["sheet"] (defScope s_sheet_text) := ⟨rfl, rfl, rfl, by decide +kernel, rfl, by decide +kernel, by decide +kernel⟩
abbrev s_window_in : Stmt := topS 75
theorem sc_window_in : FnScope ["line", "words", "moves", "word"] ["line"] (defScope s_window_in) := ⟨rfl, rfl, rfl, by decide +kernel, rfl, by decide +kernel, by decide +kernel⟩
abbrev s_layer_in : Stmt := topS 76
theorem sc_layer_in : FnScope ["line", "words", "rows", "word"] ["line"] (defScope s_layer_in) := ⟨rfl, rfl, rfl, by decide +kernel, rfl, by decide +kernel, by decide +kernel⟩
abbrev s_sheet_in : Stmt := topS 77
theorem sc_sheet_in : FnScope ["text", "lines", "line"] ["text"] (defScope s_sheet_in) := ⟨rfl, rfl, rfl, by decide +kernel, rfl, by decide +kernel, by decide +kernel⟩
abbrev s_read_sheet : Stmt := topS 78
theorem sc_read_sheet : FnScope ["text", "sheet"] ["text"] (defScope s_read_sheet) := ⟨rfl, rfl, rfl, by decide +kernel, rfl, by decide +kernel, by decide +kernel⟩
abbrev s_spaced : Stmt := topS 81
theorem sc_spaced : FnScope ["numbers", "number"] ["numbers"] (defScope s_spaced) := ⟨rfl, rfl, rfl, by decide +kernel, rfl, by decide +kernel, by decide +kernel⟩
abbrev s_picture_text : Stmt := topS 82
theorem sc_picture_text : FnScope ["picture", "drawings", "place", "fractions", "top", "bottom"] ["picture"] (defScope s_picture_text) := ⟨rfl, rfl, rfl, by decide +kernel, rfl, by decide +kernel, by decide +kernel⟩
abbrev s_undone : Stmt := topS 83
theorem sc_undone : FnScope ["roll", "numbers"] ["roll", "numbers"] (defScope s_undone) := ⟨rfl, rfl, rfl, by decide +kernel, rfl, by decide +kernel, by decide +kernel⟩
abbrev s_written_sheet : Stmt := topS 84
theorem sc_written_sheet : FnScope ["roll", "numbers", "sheet"] ["roll", "numbers"] (defScope s_written_sheet) := ⟨rfl, rfl, rfl, by decide +kernel, rfl, by decide +kernel, by decide +kernel⟩
abbrev s_written_length : Stmt := topS 85
theorem sc_written_length : FnScope ["roll", "numbers", "sheet", "length"] ["roll", "numbers"] (defScope s_written_length) := ⟨rfl, rfl, rfl, by decide +kernel, rfl, by decide +kernel, by decide +kernel⟩
abbrev s_written_picture : Stmt := topS 86
theorem sc_written_picture : FnScope ["roll", "numbers", "moment", "sheet"] ["roll", "numbers"] (defScope s_written_picture) := ⟨rfl, rfl, rfl, by decide +kernel, rfl, by decide +kernel, by decide +kernel⟩
abbrev s_written_leaning : Stmt := topS 87
theorem sc_written_leaning : FnScope ["roll", "numbers", "leaning"] ["roll", "numbers"] (defScope s_written_leaning) := ⟨rfl, rfl, rfl, by decide +kernel, rfl, by decide +kernel, by decide +kernel⟩
abbrev s_numbers_behind : Stmt := topS 90
theorem sc_numbers_behind : FnScope ["word"] ["word"] (defScope s_numbers_behind) := ⟨rfl, rfl, rfl, by decide +kernel, rfl, by decide +kernel, by decide +kernel⟩
abbrev s_read_row : Stmt := topS 91
theorem sc_read_row : FnScope ["row", "words", "word", "rest", "each"] ["row"] (defScope s_read_row) := ⟨rfl, rfl, rfl, by decide +kernel, rfl, by decide +kernel, by decide +kernel⟩
abbrev s_Desk__init : Stmt := clsB (topS 92) 0
theorem sc_Desk__init : FnScope ["self"] ["self"] (defScope s_Desk__init) := ⟨rfl, rfl, rfl, by decide +kernel, rfl, by decide +kernel, by decide +kernel⟩
abbrev s_Desk__tell : Stmt := clsB (topS 92) 1
theorem sc_Desk__tell : FnScope ["self", "row", "word", "numbers", "answer"] ["self", "row"] (defScope s_Desk__tell) := ⟨rfl, rfl, rfl, by decide +kernel, rfl, by decide +kernel, by decide +kernel⟩
abbrev s__law_cell_at : Stmt := topS 94
theorem sc__law_cell_at : FnScope ["_law_script", "_law_k"] ["_law_script", "_law_k"] (defScope s__law_cell_at) := ⟨rfl, rfl, rfl, by decide +kernel, rfl, by decide +kernel, by decide +kernel⟩
abbrev s__law_state : Stmt := topS 95
theorem sc__law_state : FnScope ["_law_script", "_law_k", "_law_cell"] ["_law_script", "_law_k"] (defScope s__law_state) := ⟨rfl, rfl, rfl, by decide +kernel, rfl, by decide +kernel, by decide +kernel⟩
abbrev s__law_take : Stmt := topS 96
theorem sc__law_take : FnScope ["_law_state_here", "_law_many", "_law_found", "_law_mixed"] ["_law_state_here", "_law_many"] (defScope s__law_take) := ⟨rfl, rfl, rfl, by decide +kernel, rfl, by decide +kernel, by decide +kernel⟩
abbrev s__law_classes : Stmt := topS 97
theorem sc__law_classes : FnScope ["_law_e", "_law_found"] ["_law_e"] (defScope s__law_classes) := ⟨rfl, rfl, rfl, by decide +kernel, rfl, by decide +kernel, by decide +kernel⟩
abbrev s__law_met : Stmt := topS 98
theorem sc__law_met : FnScope ["_law_call", "_law_e", "_law_some"] ["_law_call"] (defScope s__law_met) := ⟨rfl, rfl, rfl, by decide +kernel, rfl, by decide +kernel, by decide +kernel⟩
abbrev s__law_known : Stmt := topS 99
theorem sc__law_known : FnScope ["_law_deeds", "_law_gone", "_law_layers", "_law_number", "_law_deed_here"] ["_law_deeds"] (defScope s__law_known) := ⟨rfl, rfl, rfl, by decide +kernel, rfl, by decide +kernel, by decide +kernel⟩
abbrev s__law_deed : Stmt := topS 100
theorem sc__law_deed : FnScope ["_law_state_here", "_law_deeds", "_law_layers", "_law_rows", "_law_words", "_law_word", "_law_layer", "_law_row", "_law_drawing", "_law_hold", "_law_rest"] ["_law_state_here", "_law_deeds"] (defScope s__law_deed) := ⟨rfl, rfl, rfl, by decide +kernel, rfl, by decide +kernel, by decide +kernel⟩
abbrev s__law_line : Stmt := topS 101
theorem sc__law_line : FnScope ["_law_deed_here", "_law_part"] ["_law_deed_here"] (defScope s__law_line) := ⟨rfl, rfl, rfl, by decide +kernel, rfl, by decide +kernel, by decide +kernel⟩
abbrev s__law_same : Stmt := topS 102
theorem sc__law_same : FnScope ["_law_state_here", "_law_desk", "_law_roll", "_law_sheet", "_law_told", "_law_end", "_law_moment", "_law_drawn", "_law_place", "_law_due", "_law_top", "_law_bottom", "_law_drawing"] ["_law_state_here", "_law_desk", "_law_roll"] (defScope s__law_same) := ⟨rfl, rfl, rfl, by decide +kernel, rfl, by decide +kernel, by decide +kernel⟩
abbrev s_law : Stmt := topS 103
theorem sc_law : FnScope ["_law_script", "_law_state_here", "_law_desk", "_law_roll", "_law_turn", "_law_deeds", "_law_deed_here", "_law_told", "_law_answer", "_law_number"] ["_law_script"] (defScope s_law) := ⟨rfl, rfl, rfl, by decide +kernel, rfl, by decide +kernel, by decide +kernel⟩
abbrev s_TooMany_init : Stmt := clsB (topS 16) 0
theorem sc_TooMany_init : FnScope ["self", "many", "most"] ["self", "many", "most"] (defScope s_TooMany_init) := ⟨rfl, rfl, rfl, by decide +kernel, rfl, by decide +kernel, by decide +kernel⟩
abbrev s_Leaned_init : Stmt := clsB (topS 17) 0
theorem sc_Leaned_init : FnScope ["self", "numbers"] ["self", "numbers"] (defScope s_Leaned_init) := ⟨rfl, rfl, rfl, by decide +kernel, rfl, by decide +kernel, by decide +kernel⟩
structure Txt (K : PySem.W.Frag) (mg : Str → Option Value) : Prop where
  b_dict : mg "dict" = none
  b_ValueError : mg "ValueError" = none
  b_len : mg "len" = none
  b_isinstance : mg "isinstance" = none
  b_max : mg "max" = none
  b_sum : mg "sum" = none
  b_all : mg "all" = none
  b_tuple : mg "tuple" = none
  b_list : mg "list" = none
  b_abs : mg "abs" = none
  b_range : mg "range" = none
  b_zip : mg "zip" = none
  b_bool : mg "bool" = none
  b_int : mg "int" = none
  b_str : mg "str" = none
  c_LAST_MOMENT : ∃ t, mg "LAST_MOMENT" = some (Value.int 1000000000 t)
  c_MOST_DRAWING : ∃ t, mg "MOST_DRAWING" = some (Value.int 9 t)
  c_MOST_HOLD : ∃ t, mg "MOST_HOLD" = some (Value.int 24 t)
  c_MOST_ROWS : ∃ t, mg "MOST_ROWS" = some (Value.int 8 t)
  c_MOST_WAY : ∃ t, mg "MOST_WAY" = some (Value.int 20 t)
  c_MOST_MANY : ∃ t, mg "MOST_MANY" = some (Value.int 24 t)
  c_MOST_MOVES : ∃ t, mg "MOST_MOVES" = some (Value.int 8 t)
  c_MOST_LAYERS : ∃ t, mg "MOST_LAYERS" = some (Value.int 4 t)
  c_MOST_FIGURES : ∃ t, mg "MOST_FIGURES" = some (Value.int 30 t)

/-! ### a written dict of text keys: what is no key of it; tuples of texts -/
theorem dicN {K : PySem.W.Frag} {w : World} {a : Addr} {ks : List Str} (h : He.dicW K a = some (He.keysIn w.params ks)) {z : Str} (hz : z ∉ ks) : PySem.W.nsIn K a z = some none := by
  unfold He.dicW at h
  unfold PySem.W.nsIn
  split at h
  · rename_i c es n sl q
    rw [q]
    split at h
    · have e := Option.some.inj h
      have all : ∀ (l : List DictEntry) (ks : List Str), l.map He.keyOf = He.keysIn w.params ks → z ∉ ks → l.find? (fun e => e.key.isStr z) = none ∧ l.any (fun e => e.refKey) = false := by
        intro l
        induction l with
        | nil => exact fun _ _ _ => ⟨rfl, rfl⟩
        | cons d r ih =>
          intro ks e hz
          cases ks with
          | nil => cases e
          | cons k ks =>
            have h1 : He.keyOf d :: r.map He.keyOf = some (k, PyData.keyHash w.params k) :: He.keysIn w.params ks := e
            injection h1 with h2 h3
            obtain ⟨i1, i2⟩ := ih ks h3 (fun m => hz (List.mem_cons_of_mem _ m))
            unfold He.keyOf at h2
            split at h2
            · rename_i x t q2
              have h5 : x = k := (Prod.mk.inj (Option.some.inj h2)).1
              have nk : (x == z) = false := beq_eq_false_iff_ne.mpr fun e => hz (e ▸ h5 ▸ List.mem_cons_self ..)
              have e3 : d.key.isStr z = false := by rw [q2]; exact nk
              have e4 : d.refKey = false := by
                unfold DictEntry.refKey
                rw [q2]
              rw [List.find?_cons, List.any_cons]
              exact ⟨by rw [e3]; exact i1, by rw [e4, i2]; rfl⟩
            · cases h2
      obtain ⟨a1, a2⟩ := all _ _ e hz
      show (match es.toList.find? (fun e => e.key.isStr z) with
        | some e => some (some e.val)
        | none => if es.toList.any (fun e => e.refKey) then none else some none) = some none
      rw [a1, a2]
      rfl
    · cases h
  · cases h
def strO : Value → Option Str
  | .str x _ => some x
  | _ => none
def tupW (K : PySem.W.Frag) (t : Addr) : Option (List (Option Str)) := match K.lookup t with
  | some ⟨.type c, _, .seq its _, _⟩ => (match decide (c = "tuple") with
    | true => some (its.toList.map strO)
    | false => none)
  | _ => none
theorem tupW_ok {K : PySem.W.Frag} {t : Addr} {ps : List Str} (h : tupW K t = some (ps.map some)) (hl : ps.length ≤ 1000) (H : Hp) : SqT K H t (ps.map V.str) := by
  unfold tupW at h
  split at h
  · rename_i c dd its n sl q
    split at h
    · rename_i hc
      have e := Option.some.inj h
      have vals : ∀ (l : List Value) (ps : List Str), l.map strO = ps.map some → Vals (ps.map V.str) l := by
        intro l
        induction l with
        | nil => intro ps e; cases ps with
          | nil => exact .nil
          | cons _ _ => cases e
        | cons d r ih => intro ps e; cases ps with
          | nil => cases e
          | cons p ps =>
            injection e with e1 e2
            refine .cons ?_ (ih ps e2)
            cases d <;> first | cases e1 | skip
            rename_i tk
            exact ⟨tk, rfl⟩
      have v := vals _ _ e
      refine .inr ⟨_, its, n, q, ?_, rfl, ?_, v⟩
      · show Value.type c = _
        rw [of_decide_eq_true hc]
      · have e5 : its.toList.length = ps.length := by
          have := congrArg List.length e
          simpa using this
        rw [← Array.length_toList, e5]
        exact Nat.le_trans hl (by decide)
    · cases h
  · cases h

/-! ### facts of the head: a def's lookup, an error class with an own __init__, what a name of a dict stands for -/
def nsR (K : PySem.W.Frag) (a : Addr) (x : Str) : Addr := match PySem.W.nsIn K a x with
  | some (some (.ref b)) => b
  | _ => 0
def tkR (K : PySem.W.Frag) (a : Addr) (x : Str) : Tok := match PySem.W.nsIn K a x with
  | some (some (.int _ t)) => t
  | some (some (.str _ t)) => t
  | _ => 0
theorem tabW {fa : List He.Fa} {fn : List He.DefD} {ts : List He.Tab} {w : World} {K : PySem.W.Frag} (c : He.SaysT fa fn ts w K) (i : Nat) {t : He.Tab} (h : ts[i]? = some t) : He.dicW K (t.1 K) = some (He.keysIn w.params t.2) := by
  have both := congrArg (fun z : He.AlT => z.2[i]?) c
  have both : (ts.map fun t => He.dicW K (t.1 K))[i]? = (ts.map fun t => some (He.keysIn w.params t.2))[i]? := both
  simp only [List.getElem?_map, h, Option.map_some, Option.some.injEq] at both
  exact both
theorem fnl {fa : List He.Fa} {fn : List He.DefD} {K : PySem.W.Frag} (c : He.SaysD fa fn K) (i : Nat) {at_ : Str × Option Str} {x q : Str} {ps : Arguments} {b : List Stmt} {sc : Scope} (h : fn[i]? = some ⟨at_, x, q, ps, b, sc, [], []⟩) :
    ∃ oc od sl kV dc pm an cd ct, K.lookup (He.fAd K at_) = some ⟨oc, od, .func (PySem.W.fnOf x q ps b sc .none kV dc pm an cd ct), sl⟩ ∧ PySem.W.codeIn K cd q = true ∧ PySem.W.keepIn K (.ref (He.fAd K at_)) = true := by
  obtain ⟨fd, F⟩ := c.def_ i h
  obtain ⟨oc, od, dV, kV, dc, pm, an, cd, ct, sl, rfl, lk, hc, dv, _⟩ := F.ex
  rcases dv with ⟨_, rfl⟩ | ⟨no, _⟩
  · exact ⟨oc, od, sl, kV, dc, pm, an, cd, ct, lk, hc, F.kp⟩
  · exact absurd rfl no
theorem fnlC {fa : List He.Fa} {fn : List He.DefD} {K : PySem.W.Frag} (c : He.SaysD fa fn K) (i : Nat) {at_ : Str × Option Str} {x q : Str} {ps : Arguments} {b : List Stmt} {sc : Scope} (h : fn[i]? = some ⟨at_, x, q, ps, b, sc, [], []⟩) :
    ∃ oc od sl kV dc pm an ct, K.lookup (He.fAd K at_) = some ⟨oc, od, .func (PySem.W.fnOf x q ps b sc .none kV dc pm an (.ref (He.cT K at_).1) ct), sl⟩ ∧ PySem.W.codeIn K (.ref (He.cT K at_).1) q = true ∧ PySem.W.keepIn K (.ref (He.fAd K at_)) = true := by
  obtain ⟨oc, od, sl, kV, dc, pm, an, cd, ct, lk, hc, kp⟩ := fnl c i h
  obtain ⟨cc, rfl⟩ := He.codeIn_ref hc
  have e : (He.cT K at_).1 = cc := He.codeOf_eq lk rfl
  rw [e]
  exact ⟨oc, od, sl, kV, dc, pm, an, ct, lk, hc, kp⟩
def oexB (K : PySem.W.Frag) (C : Addr) : Bool := match K.lookup C with
  | some ⟨.type c, _, .cls cd, sl⟩ => decide (c = "type") && match cd.mro, sl.toList with
    | .ref D :: up, [_, _, _, _, some (.builtin n), _] => decide (D = C) && (decide (n = "ValueError.__new__") && (cd.hasDict && (!cd.hasDel && PySem.HandSPX.refsVE up)))
    | _, _ => false
  | _ => false
theorem oexB_ok {K : PySem.W.Frag} {C : Addr} (h : oexB K C = true) : ∃ nm qn N bs bm sn su ab co dd m0 m1 m2 m3 m5, K.lookup C = some (excClassObj nm qn C N bs bm true sn su ab co dd m0 m1 m2 m3 m5 "ValueError.__new__") ∧ PySem.HandSPX.refsVE bm = true := by
  unfold oexB at h
  split at h
  · next c dd cd sl lk =>
    rw [Bool.and_eq_true, decide_eq_true_eq] at h
    obtain ⟨ht, h⟩ := h
    split at h
    · next D up m0 m1 m2 m3 n m5 e1 e2 =>
      simp only [Bool.and_eq_true, decide_eq_true_eq, Bool.not_eq_true'] at h
      obtain ⟨hD, hn, hh, hd, hr⟩ := h
      obtain ⟨nm, bs, mro, ns, qn, hasD, sn, su, ab, co, del⟩ := cd
      obtain ⟨sl⟩ := sl
      cases e1; cases e2; cases hh; cases hd; cases hD; cases hn; cases ht
      exact ⟨nm, qn, ns, bs, up, sn, su, ab, co, dd, m0, m1, m2, m3, m5, lk, hr⟩
    · cases h
  · cases h

/-! ### a hook that looks at what the top made -/
/-- the module's names and so many objects from the lo-th on -/
def asO (lo cnt : Nat) : List Addr := mainGlobals :: (List.range cnt).map fun i => lo + i
def kO (lo cnt : Nat) (g : Addr → Option Obj) : PySem.W.Frag := He.frT g (asO lo cnt)
def seeO (lo cnt : Nat) (fn : List He.DefD) (ts : List He.Tab) (tf : List He.Defn) (ex : PySem.W.Frag → Bool) (g : Addr → Option Obj) : He.AlX :=
  (He.obsT [] fn ts (kO lo cnt g), ex (kO lo cnt g) && He.tabsB g tf (kO lo cnt g))
theorem seeO_says {lo cnt : Nat} {fn : List He.DefD} {ts : List He.Tab} {tf : List He.Defn} {ex : PySem.W.Frag → Bool} {w : World} {h : Heap} (e : seeO lo cnt fn ts tf ex h.get? = He.valX fn ts w) : He.SaysX [] fn ts tf ex w h (kO lo cnt h.get?) := by
  unfold seeO He.valX at e
  rw [Prod.mk.injEq, Bool.and_eq_true] at e
  obtain ⟨told, other, tabs⟩ := e
  have one : ∀ p, p ∈ tf → PySem.W.codeHdIn (kO lo cnt h.get?) (He.cT (kO lo cnt h.get?) p).1 (He.cT (kO lo cnt h.get?) p).2 = true ∧ ∃ o, h.get? (He.cT (kO lo cnt h.get?) p).2 = some o ∧ He.emptyTab o = true := by
    intro p m
    have both := List.all_eq_true.mp tabs p m
    rw [Bool.and_eq_true] at both
    refine ⟨both.1, ?_⟩
    have right := both.2
    split at right
    · next o eo => exact ⟨o, eo, right⟩
    · cases right
  refine ⟨told, other, fun p m => (one p m).1, fun p m => ?_, fun p m => ?_⟩
  · obtain ⟨_, o, eo, empty⟩ := one p m
    exact He.frT_none eo empty
  · obtain ⟨_, o, eo, empty⟩ := one p m
    exact eo.trans (congrArg some (He.emptyTab_eq empty))
def hookO (lo cnt : Nat) (fn : List He.DefD) (ts : List He.Tab) (tf : List He.Defn) (ex : PySem.W.Frag → Bool) : PySem.W.Hook where
  α := He.AlX
  val := fun w => He.valX fn ts w
  obs := fun s => seeO lo cnt fn ts tf ex s.heap.get?
  says := fun w h => ∃ K : PySem.W.Frag, K.In h ∧ He.SaysX [] fn ts tf ex w h K
  of := fun w s e => ⟨kO lo cnt s.heap.get?, He.frT_in, seeO_says e⟩
  keeps := by
    rintro w h h' ⟨K, inn, says⟩ kept
    exact ⟨K, PySem.W.Frag.In.keeps inn kept, says.t, says.more, says.hd, says.out, fun p m => kept _ _ (says.empty p m)⟩
theorem seeO_eq {lo cnt : Nat} {fn : List He.DefD} {ts : List He.Tab} {tf : List He.Defn} {ex : PySem.W.Frag → Bool} {g : Addr → Option Obj} {s : Shared} (h : ∀ a, g a = s.heap.get? a) : seeO lo cnt fn ts tf ex g = (hookO lo cnt fn ts tf ex).obs s := by
  cases (funext h : g = s.heap.get?)
  rfl

/-! ### the head, by facts -/
def hd0 : List He.DefD := [⟨("_law_met", none), "_law_met", "_law_met", defArgs s__law_met, defBody s__law_met, defScope s__law_met, [], []⟩, ⟨("_law_classes", none), "_law_classes", "_law_classes", defArgs s__law_classes, defBody s__law_classes, defScope s__law_classes, [], []⟩, ⟨("is_whole_from", none), "is_whole_from", "is_whole_from", defArgs s_is_whole_from, defBody s_is_whole_from, defScope s_is_whole_from, [], []⟩, ⟨("is_whole", none), "is_whole", "is_whole", defArgs s_is_whole, defBody s_is_whole, defScope s_is_whole, [], []⟩, ⟨("need_moment", none), "need_moment", "need_moment", defArgs s_need_moment, defBody s_need_moment, defScope s_need_moment, [], []⟩, ⟨("need_at_most", none), "need_at_most", "need_at_most", defArgs s_need_at_most, defBody s_need_at_most, defScope s_need_at_most, [], []⟩, ⟨("is_tuple", none), "is_tuple", "is_tuple", defArgs s_is_tuple, defBody s_is_tuple, defScope s_is_tuple, [], []⟩, ⟨("is_drawing", none), "is_drawing", "is_drawing", defArgs s_is_drawing, defBody s_is_drawing, defScope s_is_drawing, [], []⟩, ⟨("is_hold", none), "is_hold", "is_hold", defArgs s_is_hold, defBody s_is_hold, defScope s_is_hold, [], []⟩, ⟨("is_row", none), "is_row", "is_row", defArgs s_is_row, defBody s_is_row, defScope s_is_row, [], []⟩, ⟨("is_layer", none), "is_layer", "is_layer", defArgs s_is_layer, defBody s_is_layer, defScope s_is_layer, [], []⟩, ⟨("is_way", none), "is_way", "is_way", defArgs s_is_way, defBody s_is_way, defScope s_is_way, [], []⟩]
def hd1 : List He.DefD := [⟨("is_many", none), "is_many", "is_many", defArgs s_is_many, defBody s_is_many, defScope s_is_many, [], []⟩, ⟨("is_move", none), "is_move", "is_move", defArgs s_is_move, defBody s_is_move, defScope s_is_move, [], []⟩, ⟨("is_window", none), "is_window", "is_window", defArgs s_is_window, defBody s_is_window, defScope s_is_window, [], []⟩, ⟨("is_sheet", none), "is_sheet", "is_sheet", defArgs s_is_sheet, defBody s_is_sheet, defScope s_is_sheet, [], []⟩, ⟨("need_sheet", none), "need_sheet", "need_sheet", defArgs s_need_sheet, defBody s_need_sheet, defScope s_need_sheet, [], []⟩, ⟨("held", none), "held", "held", defArgs s_held, defBody s_held, defScope s_held, [], []⟩, ⟨("length_of", none), "length_of", "length_of", defArgs s_length_of, defBody s_length_of, defScope s_length_of, [], []⟩, ⟨("moved", none), "moved", "moved", defArgs s_moved, defBody s_moved, defScope s_moved, [], []⟩, ⟨("full_length", none), "full_length", "full_length", defArgs s_full_length, defBody s_full_length, defScope s_full_length, [], []⟩, ⟨("sheet_length", none), "sheet_length", "sheet_length", defArgs s_sheet_length, defBody s_sheet_length, defScope s_sheet_length, [], []⟩, ⟨("first_time", none), "first_time", "first_time", defArgs s_first_time, defBody s_first_time, defScope s_first_time, [], []⟩, ⟨("drawing_of", none), "drawing_of", "drawing_of", defArgs s_drawing_of, defBody s_drawing_of, defScope s_drawing_of, [], []⟩]
def hd2 : List He.DefD := [⟨("common_divisor", none), "common_divisor", "common_divisor", defArgs s_common_divisor, defBody s_common_divisor, defScope s_common_divisor, [], []⟩, ⟨("lowest", none), "lowest", "lowest", defArgs s_lowest, defBody s_lowest, defScope s_lowest, [], []⟩, ⟨("on_the_way", none), "on_the_way", "on_the_way", defArgs s_on_the_way, defBody s_on_the_way, defScope s_on_the_way, [], []⟩, ⟨("place_of", none), "place_of", "place_of", defArgs s_place_of, defBody s_place_of, defScope s_place_of, [], []⟩, ⟨("picture_of", none), "picture_of", "picture_of", defArgs s_picture_of, defBody s_picture_of, defScope s_picture_of, [], []⟩, ⟨("picture_at", none), "picture_at", "picture_at", defArgs s_picture_at, defBody s_picture_at, defScope s_picture_at, [], []⟩, ⟨("is_plain_part", none), "is_plain_part", "is_plain_part", defArgs s_is_plain_part, defBody s_is_plain_part, defScope s_is_plain_part, [], []⟩, ⟨("named", none), "named", "named", defArgs s_named, defBody s_named, defScope s_named, [], []⟩, ⟨("Made", some "__init__"), "__init__", "Made.__init__", defArgs s_Made__init, defBody s_Made__init, defScope s_Made__init, [], []⟩, ⟨("Made", some "twin"), "twin", "Made.twin", defArgs s_Made__twin, defBody s_Made__twin, defScope s_Made__twin, [], []⟩, ⟨("Made", some "fits"), "fits", "Made.fits", defArgs s_Made__fits, defBody s_Made__fits, defScope s_Made__fits, [], []⟩, ⟨("Made", some "takes"), "takes", "Made.takes", defArgs s_Made__takes, defBody s_Made__takes, defScope s_Made__takes, [], []⟩]
def hd3 : List He.DefD := [⟨("Made", some "follow_row"), "follow_row", "Made.follow_row", defArgs s_Made__follow_row, defBody s_Made__follow_row, defScope s_Made__follow_row, [], []⟩, ⟨("Made", some "follow"), "follow", "Made.follow", defArgs s_Made__follow, defBody s_Made__follow, defScope s_Made__follow, [], []⟩, ⟨("Made", some "rows_in"), "rows_in", "Made.rows_in", defArgs s_Made__rows_in, defBody s_Made__rows_in, defScope s_Made__rows_in, [], []⟩, ⟨("Made", some "need_room"), "need_room", "Made.need_room", defArgs s_Made__need_room, defBody s_Made__need_room, defScope s_Made__need_room, [], []⟩, ⟨("Made", some "layer_made"), "layer_made", "Made.layer_made", defArgs s_Made__layer_made, defBody s_Made__layer_made, defScope s_Made__layer_made, [], []⟩, ⟨("Made", some "sheet_made"), "sheet_made", "Made.sheet_made", defArgs s_Made__sheet_made, defBody s_Made__sheet_made, defScope s_Made__sheet_made, [], []⟩, ⟨("made_anew", none), "made_anew", "made_anew", defArgs s_made_anew, defBody s_made_anew, defScope s_made_anew, [], []⟩, ⟨("Roll", some "__init__"), "__init__", "Roll.__init__", defArgs s_Roll__init, defBody s_Roll__init, defScope s_Roll__init, [], []⟩, ⟨("Roll", some "need_standing"), "need_standing", "Roll.need_standing", defArgs s_Roll__need_standing, defBody s_Roll__need_standing, defScope s_Roll__need_standing, [], []⟩, ⟨("Roll", some "put"), "put", "Roll.put", defArgs s_Roll__put, defBody s_Roll__put, defScope s_Roll__put, [], []⟩, ⟨("Roll", some "sheet_now"), "sheet_now", "Roll.sheet_now", defArgs s_Roll__sheet_now, defBody s_Roll__sheet_now, defScope s_Roll__sheet_now, [], []⟩, ⟨("Roll", some "standing"), "standing", "Roll.standing", defArgs s_Roll__standing, defBody s_Roll__standing, defScope s_Roll__standing, [], []⟩]
def hd4 : List He.DefD := [⟨("Roll", some "leaning"), "leaning", "Roll.leaning", defArgs s_Roll__leaning, defBody s_Roll__leaning, defScope s_Roll__leaning, [], []⟩, ⟨("Roll", some "undo"), "undo", "Roll.undo", defArgs s_Roll__undo, defBody s_Roll__undo, defScope s_Roll__undo, [], []⟩, ⟨("writes_number", none), "writes_number", "writes_number", defArgs s_writes_number, defBody s_writes_number, defScope s_writes_number, [], []⟩, ⟨("number_in", none), "number_in", "number_in", defArgs s_number_in, defBody s_number_in, defScope s_number_in, [], []⟩, ⟨("numbers_in", none), "numbers_in", "numbers_in", defArgs s_numbers_in, defBody s_numbers_in, defScope s_numbers_in, [], []⟩, ⟨("move_text", none), "move_text", "move_text", defArgs s_move_text, defBody s_move_text, defScope s_move_text, [], []⟩, ⟨("row_text", none), "row_text", "row_text", defArgs s_row_text, defBody s_row_text, defScope s_row_text, [], []⟩, ⟨("window_text", none), "window_text", "window_text", defArgs s_window_text, defBody s_window_text, defScope s_window_text, [], []⟩, ⟨("layer_text", none), "layer_text", "layer_text", defArgs s_layer_text, defBody s_layer_text, defScope s_layer_text, [], []⟩, ⟨("text_of", none), "text_of", "text_of", defArgs s_text_of, defBody s_text_of, defScope s_text_of, [], []⟩, ⟨("sheet_text", none), "sheet_text", "sheet_text", defArgs s_sheet_text, defBody s_sheet_text, defScope s_sheet_text, [], []⟩, ⟨("window_in", none), "window_in", "window_in", defArgs s_window_in, defBody s_window_in, defScope s_window_in, [], []⟩]
def hd5 : List He.DefD := [⟨("layer_in", none), "layer_in", "layer_in", defArgs s_layer_in, defBody s_layer_in, defScope s_layer_in, [], []⟩, ⟨("sheet_in", none), "sheet_in", "sheet_in", defArgs s_sheet_in, defBody s_sheet_in, defScope s_sheet_in, [], []⟩, ⟨("read_sheet", none), "read_sheet", "read_sheet", defArgs s_read_sheet, defBody s_read_sheet, defScope s_read_sheet, [], []⟩, ⟨("spaced", none), "spaced", "spaced", defArgs s_spaced, defBody s_spaced, defScope s_spaced, [], []⟩, ⟨("picture_text", none), "picture_text", "picture_text", defArgs s_picture_text, defBody s_picture_text, defScope s_picture_text, [], []⟩, ⟨("undone", none), "undone", "undone", defArgs s_undone, defBody s_undone, defScope s_undone, [], []⟩, ⟨("written_sheet", none), "written_sheet", "written_sheet", defArgs s_written_sheet, defBody s_written_sheet, defScope s_written_sheet, [], []⟩, ⟨("written_length", none), "written_length", "written_length", defArgs s_written_length, defBody s_written_length, defScope s_written_length, [], []⟩, ⟨("written_picture", none), "written_picture", "written_picture", defArgs s_written_picture, defBody s_written_picture, defScope s_written_picture, [], []⟩, ⟨("written_leaning", none), "written_leaning", "written_leaning", defArgs s_written_leaning, defBody s_written_leaning, defScope s_written_leaning, [], []⟩, ⟨("numbers_behind", none), "numbers_behind", "numbers_behind", defArgs s_numbers_behind, defBody s_numbers_behind, defScope s_numbers_behind, [], []⟩, ⟨("read_row", none), "read_row", "read_row", defArgs s_read_row, defBody s_read_row, defScope s_read_row, [], []⟩]
def hd6 : List He.DefD := [⟨("Desk", some "__init__"), "__init__", "Desk.__init__", defArgs s_Desk__init, defBody s_Desk__init, defScope s_Desk__init, [], []⟩, ⟨("Desk", some "tell"), "tell", "Desk.tell", defArgs s_Desk__tell, defBody s_Desk__tell, defScope s_Desk__tell, [], []⟩, ⟨("_law_cell_at", none), "_law_cell_at", "_law_cell_at", defArgs s__law_cell_at, defBody s__law_cell_at, defScope s__law_cell_at, [], []⟩, ⟨("_law_state", none), "_law_state", "_law_state", defArgs s__law_state, defBody s__law_state, defScope s__law_state, [], []⟩, ⟨("_law_take", none), "_law_take", "_law_take", defArgs s__law_take, defBody s__law_take, defScope s__law_take, [], []⟩, ⟨("_law_known", none), "_law_known", "_law_known", defArgs s__law_known, defBody s__law_known, defScope s__law_known, [], []⟩, ⟨("_law_deed", none), "_law_deed", "_law_deed", defArgs s__law_deed, defBody s__law_deed, defScope s__law_deed, [], []⟩, ⟨("_law_line", none), "_law_line", "_law_line", defArgs s__law_line, defBody s__law_line, defScope s__law_line, [], []⟩, ⟨("_law_same", none), "_law_same", "_law_same", defArgs s__law_same, defBody s__law_same, defScope s__law_same, [], []⟩, ⟨("law", none), "law", "law", defArgs s_law, defBody s_law, defScope s_law, [], []⟩, ⟨("TooMany", some "__init__"), "__init__", "TooMany.__init__", defArgs s_TooMany_init, defBody s_TooMany_init, defScope s_TooMany_init, [], []⟩, ⟨("Leaned", some "__init__"), "__init__", "Leaned.__init__", defArgs s_Leaned_init, defBody s_Leaned_init, defScope s_Leaned_init, [], []⟩]
def hg0 : List He.DefD := hd0 ++ hd1 ++ hd2 ++ hd3
def hg1 : List He.DefD := hd4 ++ hd5 ++ hd6
def hfn : List He.DefD := hg0 ++ (hg1)
def hts : List He.Tab := [(fun K => He.ga K "PARTS", ["layer", "row", "draw", "hold", "drop", "round", "straight", "move"]), (fun K => He.ga K "ANSWERS", ["undo", "sheet", "length", "at", "leans"]), (fun K => He.ga K "NUMBERS_BEHIND", ["undo", "sheet", "length", "at", "leans"])]
def htf : List He.Defn := [("law", none)]
def hz0 (K : PySem.W.Frag) : List Bool := [
  decide (PySem.W.nsIn K mainGlobals "Made" = some (some (.ref (He.ga K "Made")))),
  PySem.W.plainGet K (He.ga K "Made") Str.empty,
  PySem.W.hasDictIn K (He.ga K "Made"),
  PySem.W.plainOver K (He.ga K "Made"),
  decide (PySem.W.findIn K (.ref (He.ga K "Made")) "__setattr__" = some (some (.builtin "object.__setattr__"))),
  PySem.W.makesIn K (He.ga K "Made"),
  PySem.W.keepIn K (.ref (He.ga K "Made")),
  decide (PySem.W.findIn K (.ref (He.ga K "Made")) "layers" = some none),
  decide (PySem.W.findIn K (.ref (He.ga K "Made")) "rows" = some none),
  decide (PySem.W.findIn K (.ref (He.ga K "Made")) "backs" = some none),
  decide (PySem.W.findIn K (.ref (He.ga K "Made")) "moves" = some none),
  decide (PySem.W.nsIn K mainGlobals "Roll" = some (some (.ref (He.ga K "Roll")))),
  PySem.W.plainGet K (He.ga K "Roll") Str.empty,
  PySem.W.hasDictIn K (He.ga K "Roll"),
  PySem.W.plainOver K (He.ga K "Roll"),
  decide (PySem.W.findIn K (.ref (He.ga K "Roll")) "__setattr__" = some (some (.builtin "object.__setattr__"))),
  PySem.W.makesIn K (He.ga K "Roll"),
  PySem.W.keepIn K (.ref (He.ga K "Roll")),
  decide (PySem.W.findIn K (.ref (He.ga K "Roll")) "deeds" = some none),
  decide (PySem.W.findIn K (.ref (He.ga K "Roll")) "made" = some none)]
def hz1 (K : PySem.W.Frag) : List Bool := [
  decide (PySem.W.findIn K (.ref (He.ga K "Roll")) "numbered" = some none),
  decide (PySem.W.nsIn K mainGlobals "Desk" = some (some (.ref (He.ga K "Desk")))),
  PySem.W.plainGet K (He.ga K "Desk") Str.empty,
  PySem.W.hasDictIn K (He.ga K "Desk"),
  PySem.W.plainOver K (He.ga K "Desk"),
  decide (PySem.W.findIn K (.ref (He.ga K "Desk")) "__setattr__" = some (some (.builtin "object.__setattr__"))),
  PySem.W.makesIn K (He.ga K "Desk"),
  PySem.W.keepIn K (.ref (He.ga K "Desk")),
  decide (PySem.W.findIn K (.ref (He.ga K "Desk")) "roll" = some none),
  decide (PySem.W.nsIn K mainGlobals "PARTS" = some (some (.ref (He.ga K "PARTS")))),
  decide (PySem.W.nsIn K (He.ga K "PARTS") "layer" = some (some (.ref (nsR K (He.ga K "PARTS") "layer")))),
  decide (tupW K (nsR K (He.ga K "PARTS") "layer") = some []),
  decide (PySem.W.nsIn K (He.ga K "PARTS") "row" = some (some (.ref (nsR K (He.ga K "PARTS") "row")))),
  decide (tupW K (nsR K (He.ga K "PARTS") "row") = some [some ("layer" : Str), some ("drawing" : Str), some ("hold" : Str)]),
  decide (PySem.W.nsIn K (He.ga K "PARTS") "draw" = some (some (.ref (nsR K (He.ga K "PARTS") "draw")))),
  decide (tupW K (nsR K (He.ga K "PARTS") "draw") = some [some ("row" : Str), some ("drawing" : Str)]),
  decide (PySem.W.nsIn K (He.ga K "PARTS") "hold" = some (some (.ref (nsR K (He.ga K "PARTS") "hold")))),
  decide (tupW K (nsR K (He.ga K "PARTS") "hold") = some [some ("row" : Str), some ("hold" : Str)]),
  decide (PySem.W.nsIn K (He.ga K "PARTS") "drop" = some (some (.ref (nsR K (He.ga K "PARTS") "drop")))),
  decide (tupW K (nsR K (He.ga K "PARTS") "drop") = some [some ("row" : Str)])]
def hz2 (K : PySem.W.Frag) : List Bool := [
  decide (PySem.W.nsIn K (He.ga K "PARTS") "round" = some (some (.ref (nsR K (He.ga K "PARTS") "round")))),
  decide (tupW K (nsR K (He.ga K "PARTS") "round") = some [some ("row" : Str)]),
  decide (PySem.W.nsIn K (He.ga K "PARTS") "straight" = some (some (.ref (nsR K (He.ga K "PARTS") "straight")))),
  decide (tupW K (nsR K (He.ga K "PARTS") "straight") = some [some ("layer" : Str)]),
  decide (PySem.W.nsIn K (He.ga K "PARTS") "move" = some (some (.ref (nsR K (He.ga K "PARTS") "move")))),
  decide (tupW K (nsR K (He.ga K "PARTS") "move") = some [some ("way" : Str), some ("way" : Str), some ("many" : Str)]),
  decide (PySem.W.nsIn K mainGlobals "ANSWERS" = some (some (.ref (He.ga K "ANSWERS")))),
  decide (PySem.W.nsIn K mainGlobals "NUMBERS_BEHIND" = some (some (.ref (He.ga K "NUMBERS_BEHIND")))),
  decide (PySem.W.nsIn K mainGlobals "NONE_YET" = some (some (.str "-" (tkR K mainGlobals "NONE_YET")))),
  decide (PySem.W.nsIn K (He.ga K "ANSWERS") "undo" = some (some (.ref (He.fAd K ("undone", none))))),
  decide (PySem.W.nsIn K (He.ga K "NUMBERS_BEHIND") "undo" = some (some (.int 1 (tkR K (He.ga K "NUMBERS_BEHIND") "undo")))),
  decide (PySem.W.nsIn K (He.ga K "ANSWERS") "sheet" = some (some (.ref (He.fAd K ("written_sheet", none))))),
  decide (PySem.W.nsIn K (He.ga K "NUMBERS_BEHIND") "sheet" = some (some (.int 0 (tkR K (He.ga K "NUMBERS_BEHIND") "sheet")))),
  decide (PySem.W.nsIn K (He.ga K "ANSWERS") "length" = some (some (.ref (He.fAd K ("written_length", none))))),
  decide (PySem.W.nsIn K (He.ga K "NUMBERS_BEHIND") "length" = some (some (.int 0 (tkR K (He.ga K "NUMBERS_BEHIND") "length")))),
  decide (PySem.W.nsIn K (He.ga K "ANSWERS") "at" = some (some (.ref (He.fAd K ("written_picture", none))))),
  decide (PySem.W.nsIn K (He.ga K "NUMBERS_BEHIND") "at" = some (some (.int 1 (tkR K (He.ga K "NUMBERS_BEHIND") "at")))),
  decide (PySem.W.nsIn K (He.ga K "ANSWERS") "leans" = some (some (.ref (He.fAd K ("written_leaning", none))))),
  decide (PySem.W.nsIn K (He.ga K "NUMBERS_BEHIND") "leans" = some (some (.int 1 (tkR K (He.ga K "NUMBERS_BEHIND") "leans")))),
  decide (PySem.W.nsIn K mainGlobals "_law_met" = some (some (.ref (He.fAd K ("_law_met", none)))))]
def hz3 (K : PySem.W.Frag) : List Bool := [
  decide (PySem.W.nsIn K mainGlobals "_law_classes" = some (some (.ref (He.fAd K ("_law_classes", none))))),
  decide (PySem.W.nsIn K mainGlobals "is_whole_from" = some (some (.ref (He.fAd K ("is_whole_from", none))))),
  decide (PySem.W.nsIn K mainGlobals "is_whole" = some (some (.ref (He.fAd K ("is_whole", none))))),
  decide (PySem.W.nsIn K mainGlobals "need_moment" = some (some (.ref (He.fAd K ("need_moment", none))))),
  decide (PySem.W.nsIn K mainGlobals "need_at_most" = some (some (.ref (He.fAd K ("need_at_most", none))))),
  decide (PySem.W.nsIn K mainGlobals "is_tuple" = some (some (.ref (He.fAd K ("is_tuple", none))))),
  decide (PySem.W.nsIn K mainGlobals "is_drawing" = some (some (.ref (He.fAd K ("is_drawing", none))))),
  decide (PySem.W.nsIn K mainGlobals "is_hold" = some (some (.ref (He.fAd K ("is_hold", none))))),
  decide (PySem.W.nsIn K mainGlobals "is_row" = some (some (.ref (He.fAd K ("is_row", none))))),
  decide (PySem.W.nsIn K mainGlobals "is_layer" = some (some (.ref (He.fAd K ("is_layer", none))))),
  decide (PySem.W.nsIn K mainGlobals "is_way" = some (some (.ref (He.fAd K ("is_way", none))))),
  decide (PySem.W.nsIn K mainGlobals "is_many" = some (some (.ref (He.fAd K ("is_many", none))))),
  decide (PySem.W.nsIn K mainGlobals "is_move" = some (some (.ref (He.fAd K ("is_move", none))))),
  decide (PySem.W.nsIn K mainGlobals "is_window" = some (some (.ref (He.fAd K ("is_window", none))))),
  decide (PySem.W.nsIn K mainGlobals "is_sheet" = some (some (.ref (He.fAd K ("is_sheet", none))))),
  decide (PySem.W.nsIn K mainGlobals "need_sheet" = some (some (.ref (He.fAd K ("need_sheet", none))))),
  decide (PySem.W.nsIn K mainGlobals "held" = some (some (.ref (He.fAd K ("held", none))))),
  decide (PySem.W.nsIn K mainGlobals "length_of" = some (some (.ref (He.fAd K ("length_of", none))))),
  decide (PySem.W.nsIn K mainGlobals "moved" = some (some (.ref (He.fAd K ("moved", none))))),
  decide (PySem.W.nsIn K mainGlobals "full_length" = some (some (.ref (He.fAd K ("full_length", none)))))]
def hz4 (K : PySem.W.Frag) : List Bool := [
  decide (PySem.W.nsIn K mainGlobals "sheet_length" = some (some (.ref (He.fAd K ("sheet_length", none))))),
  decide (PySem.W.nsIn K mainGlobals "first_time" = some (some (.ref (He.fAd K ("first_time", none))))),
  decide (PySem.W.nsIn K mainGlobals "drawing_of" = some (some (.ref (He.fAd K ("drawing_of", none))))),
  decide (PySem.W.nsIn K mainGlobals "common_divisor" = some (some (.ref (He.fAd K ("common_divisor", none))))),
  decide (PySem.W.nsIn K mainGlobals "lowest" = some (some (.ref (He.fAd K ("lowest", none))))),
  decide (PySem.W.nsIn K mainGlobals "on_the_way" = some (some (.ref (He.fAd K ("on_the_way", none))))),
  decide (PySem.W.nsIn K mainGlobals "place_of" = some (some (.ref (He.fAd K ("place_of", none))))),
  decide (PySem.W.nsIn K mainGlobals "picture_of" = some (some (.ref (He.fAd K ("picture_of", none))))),
  decide (PySem.W.nsIn K mainGlobals "picture_at" = some (some (.ref (He.fAd K ("picture_at", none))))),
  decide (PySem.W.nsIn K mainGlobals "is_plain_part" = some (some (.ref (He.fAd K ("is_plain_part", none))))),
  decide (PySem.W.nsIn K mainGlobals "named" = some (some (.ref (He.fAd K ("named", none))))),
  decide (PySem.W.findIn K (.ref (He.ga K "Made")) "__init__" = some (some (.ref (He.fAd K ("Made", some "__init__"))))),
  PySem.W.isFn K (.ref (He.fAd K ("Made", some "__init__"))),
  decide (PySem.W.findIn K (.ref (He.ga K "Made")) "twin" = some (some (.ref (He.fAd K ("Made", some "twin"))))),
  PySem.W.isFn K (.ref (He.fAd K ("Made", some "twin"))),
  decide (PySem.W.findIn K (.ref (He.ga K "Made")) "fits" = some (some (.ref (He.fAd K ("Made", some "fits"))))),
  PySem.W.isFn K (.ref (He.fAd K ("Made", some "fits"))),
  decide (PySem.W.findIn K (.ref (He.ga K "Made")) "takes" = some (some (.ref (He.fAd K ("Made", some "takes"))))),
  PySem.W.isFn K (.ref (He.fAd K ("Made", some "takes"))),
  decide (PySem.W.findIn K (.ref (He.ga K "Made")) "follow_row" = some (some (.ref (He.fAd K ("Made", some "follow_row")))))]
def hz5 (K : PySem.W.Frag) : List Bool := [
  PySem.W.isFn K (.ref (He.fAd K ("Made", some "follow_row"))),
  decide (PySem.W.findIn K (.ref (He.ga K "Made")) "follow" = some (some (.ref (He.fAd K ("Made", some "follow"))))),
  PySem.W.isFn K (.ref (He.fAd K ("Made", some "follow"))),
  decide (PySem.W.findIn K (.ref (He.ga K "Made")) "rows_in" = some (some (.ref (He.fAd K ("Made", some "rows_in"))))),
  PySem.W.isFn K (.ref (He.fAd K ("Made", some "rows_in"))),
  decide (PySem.W.findIn K (.ref (He.ga K "Made")) "need_room" = some (some (.ref (He.fAd K ("Made", some "need_room"))))),
  PySem.W.isFn K (.ref (He.fAd K ("Made", some "need_room"))),
  decide (PySem.W.findIn K (.ref (He.ga K "Made")) "layer_made" = some (some (.ref (He.fAd K ("Made", some "layer_made"))))),
  PySem.W.isFn K (.ref (He.fAd K ("Made", some "layer_made"))),
  decide (PySem.W.findIn K (.ref (He.ga K "Made")) "sheet_made" = some (some (.ref (He.fAd K ("Made", some "sheet_made"))))),
  PySem.W.isFn K (.ref (He.fAd K ("Made", some "sheet_made"))),
  decide (PySem.W.nsIn K mainGlobals "made_anew" = some (some (.ref (He.fAd K ("made_anew", none))))),
  decide (PySem.W.findIn K (.ref (He.ga K "Roll")) "__init__" = some (some (.ref (He.fAd K ("Roll", some "__init__"))))),
  PySem.W.isFn K (.ref (He.fAd K ("Roll", some "__init__"))),
  decide (PySem.W.findIn K (.ref (He.ga K "Roll")) "need_standing" = some (some (.ref (He.fAd K ("Roll", some "need_standing"))))),
  PySem.W.isFn K (.ref (He.fAd K ("Roll", some "need_standing"))),
  decide (PySem.W.findIn K (.ref (He.ga K "Roll")) "put" = some (some (.ref (He.fAd K ("Roll", some "put"))))),
  PySem.W.isFn K (.ref (He.fAd K ("Roll", some "put"))),
  decide (PySem.W.findIn K (.ref (He.ga K "Roll")) "sheet_now" = some (some (.ref (He.fAd K ("Roll", some "sheet_now"))))),
  PySem.W.isFn K (.ref (He.fAd K ("Roll", some "sheet_now")))]
def hz6 (K : PySem.W.Frag) : List Bool := [
  decide (PySem.W.findIn K (.ref (He.ga K "Roll")) "standing" = some (some (.ref (He.fAd K ("Roll", some "standing"))))),
  PySem.W.isFn K (.ref (He.fAd K ("Roll", some "standing"))),
  decide (PySem.W.findIn K (.ref (He.ga K "Roll")) "leaning" = some (some (.ref (He.fAd K ("Roll", some "leaning"))))),
  PySem.W.isFn K (.ref (He.fAd K ("Roll", some "leaning"))),
  decide (PySem.W.findIn K (.ref (He.ga K "Roll")) "undo" = some (some (.ref (He.fAd K ("Roll", some "undo"))))),
  PySem.W.isFn K (.ref (He.fAd K ("Roll", some "undo"))),
  decide (PySem.W.nsIn K mainGlobals "writes_number" = some (some (.ref (He.fAd K ("writes_number", none))))),
  decide (PySem.W.nsIn K mainGlobals "number_in" = some (some (.ref (He.fAd K ("number_in", none))))),
  decide (PySem.W.nsIn K mainGlobals "numbers_in" = some (some (.ref (He.fAd K ("numbers_in", none))))),
  decide (PySem.W.nsIn K mainGlobals "move_text" = some (some (.ref (He.fAd K ("move_text", none))))),
  decide (PySem.W.nsIn K mainGlobals "row_text" = some (some (.ref (He.fAd K ("row_text", none))))),
  decide (PySem.W.nsIn K mainGlobals "window_text" = some (some (.ref (He.fAd K ("window_text", none))))),
  decide (PySem.W.nsIn K mainGlobals "layer_text" = some (some (.ref (He.fAd K ("layer_text", none))))),
  decide (PySem.W.nsIn K mainGlobals "text_of" = some (some (.ref (He.fAd K ("text_of", none))))),
  decide (PySem.W.nsIn K mainGlobals "sheet_text" = some (some (.ref (He.fAd K ("sheet_text", none))))),
  decide (PySem.W.nsIn K mainGlobals "window_in" = some (some (.ref (He.fAd K ("window_in", none))))),
  decide (PySem.W.nsIn K mainGlobals "layer_in" = some (some (.ref (He.fAd K ("layer_in", none))))),
  decide (PySem.W.nsIn K mainGlobals "sheet_in" = some (some (.ref (He.fAd K ("sheet_in", none))))),
  decide (PySem.W.nsIn K mainGlobals "read_sheet" = some (some (.ref (He.fAd K ("read_sheet", none))))),
  decide (PySem.W.nsIn K mainGlobals "spaced" = some (some (.ref (He.fAd K ("spaced", none)))))]
def hz7 (K : PySem.W.Frag) : List Bool := [
  decide (PySem.W.nsIn K mainGlobals "picture_text" = some (some (.ref (He.fAd K ("picture_text", none))))),
  decide (PySem.W.nsIn K mainGlobals "undone" = some (some (.ref (He.fAd K ("undone", none))))),
  decide (PySem.W.nsIn K mainGlobals "written_sheet" = some (some (.ref (He.fAd K ("written_sheet", none))))),
  decide (PySem.W.nsIn K mainGlobals "written_length" = some (some (.ref (He.fAd K ("written_length", none))))),
  decide (PySem.W.nsIn K mainGlobals "written_picture" = some (some (.ref (He.fAd K ("written_picture", none))))),
  decide (PySem.W.nsIn K mainGlobals "written_leaning" = some (some (.ref (He.fAd K ("written_leaning", none))))),
  decide (PySem.W.nsIn K mainGlobals "numbers_behind" = some (some (.ref (He.fAd K ("numbers_behind", none))))),
  decide (PySem.W.nsIn K mainGlobals "read_row" = some (some (.ref (He.fAd K ("read_row", none))))),
  decide (PySem.W.findIn K (.ref (He.ga K "Desk")) "__init__" = some (some (.ref (He.fAd K ("Desk", some "__init__"))))),
  PySem.W.isFn K (.ref (He.fAd K ("Desk", some "__init__"))),
  decide (PySem.W.findIn K (.ref (He.ga K "Desk")) "tell" = some (some (.ref (He.fAd K ("Desk", some "tell"))))),
  PySem.W.isFn K (.ref (He.fAd K ("Desk", some "tell"))),
  decide (PySem.W.nsIn K mainGlobals "_law_cell_at" = some (some (.ref (He.fAd K ("_law_cell_at", none))))),
  decide (PySem.W.nsIn K mainGlobals "_law_state" = some (some (.ref (He.fAd K ("_law_state", none))))),
  decide (PySem.W.nsIn K mainGlobals "_law_take" = some (some (.ref (He.fAd K ("_law_take", none))))),
  decide (PySem.W.nsIn K mainGlobals "_law_known" = some (some (.ref (He.fAd K ("_law_known", none))))),
  decide (PySem.W.nsIn K mainGlobals "_law_deed" = some (some (.ref (He.fAd K ("_law_deed", none))))),
  decide (PySem.W.nsIn K mainGlobals "_law_line" = some (some (.ref (He.fAd K ("_law_line", none))))),
  decide (PySem.W.nsIn K mainGlobals "_law_same" = some (some (.ref (He.fAd K ("_law_same", none))))),
  decide (PySem.W.nsIn K mainGlobals "law" = some (some (.ref (He.fAd K ("law", none)))))]
def hz8 (K : PySem.W.Frag) : List Bool := [
  decide (PySem.W.nsIn K mainGlobals "dict" = some none),
  decide (PySem.W.nsIn K mainGlobals "ValueError" = some none),
  decide (PySem.W.nsIn K mainGlobals "len" = some none),
  decide (PySem.W.nsIn K mainGlobals "isinstance" = some none),
  decide (PySem.W.nsIn K mainGlobals "max" = some none),
  decide (PySem.W.nsIn K mainGlobals "sum" = some none),
  decide (PySem.W.nsIn K mainGlobals "all" = some none),
  decide (PySem.W.nsIn K mainGlobals "tuple" = some none),
  decide (PySem.W.nsIn K mainGlobals "list" = some none),
  decide (PySem.W.nsIn K mainGlobals "abs" = some none),
  decide (PySem.W.nsIn K mainGlobals "range" = some none),
  decide (PySem.W.nsIn K mainGlobals "zip" = some none),
  decide (PySem.W.nsIn K mainGlobals "bool" = some none),
  decide (PySem.W.nsIn K mainGlobals "int" = some none),
  decide (PySem.W.nsIn K mainGlobals "str" = some none),
  decide (PySem.W.nsIn K mainGlobals "LAST_MOMENT" = some (some (.int 1000000000 (tkR K mainGlobals "LAST_MOMENT")))),
  decide (PySem.W.nsIn K mainGlobals "MOST_DRAWING" = some (some (.int 9 (tkR K mainGlobals "MOST_DRAWING")))),
  decide (PySem.W.nsIn K mainGlobals "MOST_HOLD" = some (some (.int 24 (tkR K mainGlobals "MOST_HOLD")))),
  decide (PySem.W.nsIn K mainGlobals "MOST_ROWS" = some (some (.int 8 (tkR K mainGlobals "MOST_ROWS")))),
  decide (PySem.W.nsIn K mainGlobals "MOST_WAY" = some (some (.int 20 (tkR K mainGlobals "MOST_WAY"))))]
def hz9 (K : PySem.W.Frag) : List Bool := [
  decide (PySem.W.nsIn K mainGlobals "MOST_MANY" = some (some (.int 24 (tkR K mainGlobals "MOST_MANY")))),
  decide (PySem.W.nsIn K mainGlobals "MOST_MOVES" = some (some (.int 8 (tkR K mainGlobals "MOST_MOVES")))),
  decide (PySem.W.nsIn K mainGlobals "MOST_LAYERS" = some (some (.int 4 (tkR K mainGlobals "MOST_LAYERS")))),
  decide (PySem.W.nsIn K mainGlobals "MOST_FIGURES" = some (some (.int 30 (tkR K mainGlobals "MOST_FIGURES")))),
  decide (PySem.W.nsIn K mainGlobals "NoLayer" = some (some (.ref (He.ga K "NoLayer")))),
  decide (PySem.W.nsIn K mainGlobals "NoWindow" = some (some (.ref (He.ga K "NoWindow")))),
  decide (PySem.W.nsIn K mainGlobals "NoSheet" = some (some (.ref (He.ga K "NoSheet")))),
  decide (PySem.W.nsIn K mainGlobals "NoMoment" = some (some (.ref (He.ga K "NoMoment")))),
  decide (PySem.W.nsIn K mainGlobals "NoRow" = some (some (.ref (He.ga K "NoRow")))),
  decide (PySem.W.nsIn K mainGlobals "NoNumber" = some (some (.ref (He.ga K "NoNumber")))),
  decide (PySem.W.nsIn K mainGlobals "NoDrawings" = some (some (.ref (He.ga K "NoDrawings")))),
  decide (PySem.W.nsIn K mainGlobals "Unlike" = some (some (.ref (He.ga K "Unlike")))),
  decide (PySem.W.nsIn K mainGlobals "Endless" = some (some (.ref (He.ga K "Endless")))),
  decide (PySem.W.nsIn K mainGlobals "Squeezed" = some (some (.ref (He.ga K "Squeezed")))),
  decide (PySem.W.nsIn K mainGlobals "NoPaper" = some (some (.ref (He.ga K "NoPaper")))),
  decide (PySem.W.nsIn K mainGlobals "NoDeed" = some (some (.ref (He.ga K "NoDeed")))),
  decide (PySem.W.nsIn K mainGlobals "NoText" = some (some (.ref (He.ga K "NoText")))),
  decide (PySem.W.nsIn K mainGlobals "NoWords" = some (some (.ref (He.ga K "NoWords")))),
  decide (PySem.W.nsIn K mainGlobals "TooMany" = some (some (.ref (He.ga K "TooMany")))),
  decide (PySem.W.nsIn K mainGlobals "Leaned" = some (some (.ref (He.ga K "Leaned"))))]
def hz10 (K : PySem.W.Frag) : List Bool := [
  decide (PySem.W.nsIn K mainGlobals "LanternError" = some (some (.ref (He.ga K "LanternError")))),
  excTB K (fun i => [He.ga K "NoLayer", He.ga K "NoWindow", He.ga K "NoSheet", He.ga K "NoMoment", He.ga K "NoRow", He.ga K "NoNumber", He.ga K "NoDrawings", He.ga K "Unlike", He.ga K "Endless", He.ga K "Squeezed", He.ga K "NoPaper", He.ga K "NoDeed", He.ga K "NoText", He.ga K "NoWords", He.ga K "TooMany", He.ga K "Leaned"].getD i 0) (He.ga K "LanternError"),
  decide (PySem.W.findIn K (.ref (He.ga K "TooMany")) "many" = some none),
  decide (PySem.W.findIn K (.ref (He.ga K "TooMany")) "most" = some none),
  decide (PySem.W.findIn K (.ref (He.ga K "Leaned")) "numbers" = some none),
  oexB K (He.ga K "TooMany"),
  decide (PySem.W.findIn K (.ref (He.ga K "TooMany")) "__setattr__" = some (some (.builtin "object.__setattr__"))),
  decide (PySem.W.findIn K (.ref (He.ga K "TooMany")) "__init__" = some (some (.ref (He.fAd K ("TooMany", some "__init__"))))),
  decide (PySem.W.typeIn K (.ref (He.fAd K ("TooMany", some "__init__"))) = some (.type "function")),
  oexB K (He.ga K "Leaned"),
  decide (PySem.W.findIn K (.ref (He.ga K "Leaned")) "__setattr__" = some (some (.builtin "object.__setattr__"))),
  decide (PySem.W.findIn K (.ref (He.ga K "Leaned")) "__init__" = some (some (.ref (He.fAd K ("Leaned", some "__init__"))))),
  decide (PySem.W.typeIn K (.ref (He.fAd K ("Leaned", some "__init__"))) = some (.type "function"))]
def hy0 (K : PySem.W.Frag) : List Bool := hz0 K ++ (hz1 K ++ (hz2 K ++ (hz3 K ++ (hz4 K ++ (hz5 K)))))
def hy1 (K : PySem.W.Frag) : List Bool := hz6 K ++ (hz7 K ++ (hz8 K ++ (hz9 K ++ (hz10 K))))
def hzs (K : PySem.W.Frag) : List Bool := hy0 K ++ (hy1 K)
def hex (K : PySem.W.Frag) : Bool := (hzs K).all id
def hl0 : List Str := ["LanternError", "NoLayer", "NoWindow", "NoSheet", "NoMoment", "NoRow", "NoNumber", "NoDrawings", "Unlike", "Endless", "Squeezed", "NoPaper", "NoDeed", "NoText", "NoWords", "TooMany", "Leaned", "LAST_MOMENT", "is_whole_from", "is_whole", "need_moment", "need_at_most", "MOST_DRAWING", "MOST_HOLD", "MOST_ROWS", "MOST_WAY", "MOST_MANY", "MOST_MOVES", "MOST_LAYERS", "is_tuple"]
def hl1 : List Str := ["is_drawing", "is_hold", "is_row", "is_layer", "is_way", "is_many", "is_move", "is_window", "is_sheet", "need_sheet", "held", "length_of", "moved", "full_length", "sheet_length", "first_time", "drawing_of", "common_divisor", "lowest", "on_the_way", "place_of", "picture_of", "picture_at", "PARTS", "is_plain_part", "named", "Made", "made_anew", "Roll", "MOST_FIGURES"]
def hl2 : List Str := ["writes_number", "number_in", "numbers_in", "move_text", "row_text", "window_text", "layer_text", "text_of", "sheet_text", "window_in", "layer_in", "sheet_in", "read_sheet", "NONE_YET", "spaced", "picture_text", "undone", "written_sheet", "written_length", "written_picture", "written_leaning", "ANSWERS", "NUMBERS_BEHIND", "numbers_behind", "read_row", "Desk", "_law_cell_at", "_law_state", "_law_take", "_law_classes"]
def hl3 : List Str := ["_law_met", "_law_known", "_law_deed", "_law_line", "_law_same"]
def hlo : List Str := hl0 ++ (hl1 ++ (hl2 ++ (hl3)))
abbrev hR : PySem.W.OpenRow := PySem.W.OpenLaw.row PySem.Challenge.rw_lanternrows_k60_whole_a_desk_is_its_roll
abbrev hqv : Program := PySem.W.view hR.prog [103]
abbrev hk : PySem.W.Hook := hookO 11 800 hfn hts htf hex
def hob (s : PySem.W.SharedT) : He.AlX := seeO 11 800 hfn hts htf hex (HandSHeadRun.getT s)
theorem hob_eq (s : PySem.W.SharedT) : hob s = hk.obs s.abs := seeO_eq (HandSHeadRun.getT_eq s)
/-! ### the top's run, looked at part by part: each look is a run of its own, so that none has to hold all -/
def hK (s : PySem.W.SharedT) : PySem.W.Frag := kO 11 800 (HandSHeadRun.getT s)
noncomputable def htop (w : World) (os : OsState) : Option PySem.W.SharedT := HandSHeadRun.endF (HandSHeadRun.stepQ (HandSHeadRun.denQ HandSHeadRun.tabQ) hR.prog w) 20000 hR.prog w os
/-- behind the top, F is v -/
def Tops {α : Type} (F : PySem.W.SharedT → α) (v : α) (w : World) (os : OsState) : Prop := (htop w os).map F = some v
def is_see (w : World) (os : OsState) : Prop := Tops (fun s => (HandSHeadRun.looksF hR.prog (PySem.W.boot_heap w.params) s.abs, HandSHeadRun.seenQ hqv hlo (PySem.importedModules hR.prog.main.body) (fun s => PySem.W.xlAt hqv [] s && PySem.W.recOk hR.toRowW.records s) s.abs)) (true, PySem.W.openGood hqv hlo) w os
def is_fn0 (w : World) (os : OsState) : Prop := Tops (fun s => He.obsD [] hg0 (hK s)) (He.valD hg0) w os
def is_fn1 (w : World) (os : OsState) : Prop := Tops (fun s => (He.obsD [] hg1 (hK s), hts.map fun t => He.dicW (hK s) (t.1 (hK s)))) (He.valD hg1, hts.map fun t => some (He.keysIn w.params t.2)) w os
def is_ex0 (w : World) (os : OsState) : Prop := Tops (fun s => (hy0 (hK s)).all id) true w os
def is_ex1 (w : World) (os : OsState) : Prop := Tops (fun s => (hy1 (hK s)).all id && He.tabsB (HandSHeadRun.getT s) htf (hK s)) true w os
set_option maxHeartbeats 0 in
theorem top_see0 (w : World) (os : OsState) : is_see (w.withFollow "special-get-raises" false) os := by
  unfold is_see Tops htop; kernel_rfl
set_option maxHeartbeats 0 in
theorem top_see1 (w : World) (os : OsState) : is_see (w.withFollow "special-get-raises" true) os := by
  unfold is_see Tops htop; kernel_rfl
set_option maxHeartbeats 0 in
theorem top_fn00 (w : World) (os : OsState) : is_fn0 (w.withFollow "special-get-raises" false) os := by
  unfold is_fn0 Tops htop; kernel_rfl
set_option maxHeartbeats 0 in
theorem top_fn01 (w : World) (os : OsState) : is_fn0 (w.withFollow "special-get-raises" true) os := by
  unfold is_fn0 Tops htop; kernel_rfl
set_option maxHeartbeats 0 in
theorem top_fn10 (w : World) (os : OsState) : is_fn1 (w.withFollow "special-get-raises" false) os := by
  unfold is_fn1 Tops htop; kernel_rfl
set_option maxHeartbeats 0 in
theorem top_fn11 (w : World) (os : OsState) : is_fn1 (w.withFollow "special-get-raises" true) os := by
  unfold is_fn1 Tops htop; kernel_rfl
set_option maxHeartbeats 0 in
theorem top_ex00 (w : World) (os : OsState) : is_ex0 (w.withFollow "special-get-raises" false) os := by
  unfold is_ex0 Tops htop; kernel_rfl
set_option maxHeartbeats 0 in
theorem top_ex01 (w : World) (os : OsState) : is_ex0 (w.withFollow "special-get-raises" true) os := by
  unfold is_ex0 Tops htop; kernel_rfl
set_option maxHeartbeats 0 in
theorem top_ex10 (w : World) (os : OsState) : is_ex1 (w.withFollow "special-get-raises" false) os := by
  unfold is_ex1 Tops htop; kernel_rfl
set_option maxHeartbeats 0 in
theorem top_ex11 (w : World) (os : OsState) : is_ex1 (w.withFollow "special-get-raises" true) os := by
  unfold is_ex1 Tops htop; kernel_rfl
theorem obsD_app {a b : List He.DefD} {K : PySem.W.Frag} (x : He.obsD [] a K = He.valD a) (y : He.obsD [] b K = He.valD b) : He.obsD [] (a ++ b) K = He.valD (a ++ b) := by
  unfold He.obsD He.valD at *
  rw [Prod.mk.injEq, List.all_nil, Bool.true_and] at *
  rw [List.all_append, List.map_append, List.map_append, x.1, y.1, x.2, y.2]
  exact ⟨rfl, rfl⟩
theorem tops_all {w : World} {os : OsState} (z_see : is_see w os) (z_fn0 : is_fn0 w os) (z_fn1 : is_fn1 w os) (z_ex0 : is_ex0 w os) (z_ex1 : is_ex1 w os) : (htop w os).map (fun s =>
    (HandSHeadRun.looksF hR.prog (PySem.W.boot_heap w.params) s.abs, HandSHeadRun.seenQ hqv hlo (PySem.importedModules hR.prog.main.body) (fun s => PySem.W.xlAt hqv [] s && PySem.W.recOk hR.toRowW.records s) s.abs, hob s)) = some (true, PySem.W.openGood hqv hlo, hk.val w) := by
  obtain ⟨s, es, both⟩ := Option.map_eq_some_iff.mp z_see
  have on : ∀ {α : Type} {F : PySem.W.SharedT → α} {v : α}, Tops F v w os → F s = v := fun {α F v} z => by
    have z : (htop w os).map F = some v := z
    rw [es] at z
    exact Option.some.inj z
  obtain ⟨looks, seen⟩ := Prod.mk.inj both
  have pair := on z_fn1
  obtain ⟨d1, tabs⟩ := Prod.mk.inj pair
  have d0 := on z_fn0
  have last := on z_ex1
  rw [Bool.and_eq_true] at last
  have x0 : (hy0 (hK s)).all id = true := on z_ex0
  have x1 : (hy1 (hK s)).all id = true := last.1
  have defs : He.obsD [] hfn (hK s) = He.valD hfn := (obsD_app d0 d1)
  have facts : hex (hK s) = true := by
    show (hy0 (hK s) ++ (hy1 (hK s))).all id = true
    simp only [List.all_append, x0, x1, Bool.and_self]
  have whole : hob s = hk.val w := Prod.ext (Prod.ext defs tabs) (Bool.and_eq_true_iff.mpr ⟨facts, last.2⟩)
  rw [es]
  exact congrArg some (Prod.ext looks (Prod.ext seen whole))
theorem hrun (w : World) : HandSHeadRun.RunEq hR hqv hk hob 20000 hlo w :=
  PySem.W.byRow2 "special-get-raises" (P := fun w => HandSHeadRun.RunEq hR hqv hk hob 20000 hlo w) (fun w os => tops_all (top_see0 w os) (top_fn00 w os) (top_fn10 w os) (top_ex00 w os) (top_ex10 w os)) (fun w os => tops_all (top_see1 w os) (top_fn01 w os) (top_fn11 w os) (top_ex01 w os) (top_ex11 w os)) w

section
variable {P : Program} {w : World} {K : PySem.W.Frag} {mg : Str → Option Value} {base : Heap}
theorem ok__law_classes {f : Addr} {fd : FuncData} {c : Nat → Addr} {LE : Addr} (F : Fun K "_law_classes" "_law_classes" s__law_classes f fd) (T : Txt K mg) (TX : ExcN K mg c LE) : FnE P w K mg base 1 f fd ["_law_e"] (spCls c) := by
  refine fun_okE F sc__law_classes (fun a cls d vs H Q E h => ?_) (fun cdv A outer s H vs Q E a oe cls d hz hfs hr h => ?_)
  · obtain ⟨i, _, rfl, _⟩ := h
    rfl
  · obtain ⟨i, hi, rfl, rfl, hx, q⟩ := h
    refine ⟨_, (pss_cons (ps_set (i := 1) sc__law_classes.nd rfl (Or.inl rfl) (pe_lst (pa_cons (pe_callB (call_isQ TX.toExcT List.mem_cons_self hz hfs) (by rfl) T.b_isinstance (by decide +kernel) (pa_cons (pv 0) (pa_cons (pe_gref (by rfl) (TX.g 0 "NoLayer" rfl)) pa_nil))) (pa_cons (pe_callB (call_isQ TX.toExcT List.mem_cons_self hz hfs) (by rfl) T.b_isinstance (by decide +kernel) (pa_cons (pv 0) (pa_cons (pe_gref (by rfl) (TX.g 1 "NoWindow" rfl)) pa_nil))) (pa_cons (pe_callB (call_isQ TX.toExcT List.mem_cons_self hz hfs) (by rfl) T.b_isinstance (by decide +kernel) (pa_cons (pv 0) (pa_cons (pe_gref (by rfl) (TX.g 2 "NoSheet" rfl)) pa_nil))) (pa_cons (pe_callB (call_isQ TX.toExcT List.mem_cons_self hz hfs) (by rfl) T.b_isinstance (by decide +kernel) (pa_cons (pv 0) (pa_cons (pe_gref (by rfl) (TX.g 3 "NoMoment" rfl)) pa_nil))) pa_nil))))))
      (pss_cons (ps_set (i := 1) sc__law_classes.nd rfl (Or.inl rfl) (pe_op op_cat (pv 1) (pe_lst (pa_cons (pe_callB (call_isQ TX.toExcT List.mem_cons_self hz hfs) (by rfl) T.b_isinstance (by decide +kernel) (pa_cons (pv 0) (pa_cons (pe_gref (by rfl) (TX.g 4 "NoRow" rfl)) pa_nil))) (pa_cons (pe_callB (call_isQ TX.toExcT List.mem_cons_self hz hfs) (by rfl) T.b_isinstance (by decide +kernel) (pa_cons (pv 0) (pa_cons (pe_gref (by rfl) (TX.g 5 "NoNumber" rfl)) pa_nil))) (pa_cons (pe_callB (call_isQ TX.toExcT List.mem_cons_self hz hfs) (by rfl) T.b_isinstance (by decide +kernel) (pa_cons (pv 0) (pa_cons (pe_gref (by rfl) (TX.g 6 "NoDrawings" rfl)) pa_nil))) (pa_cons (pe_callB (call_isQ TX.toExcT List.mem_cons_self hz hfs) (by rfl) T.b_isinstance (by decide +kernel) (pa_cons (pv 0) (pa_cons (pe_gref (by rfl) (TX.g 7 "Unlike" rfl)) pa_nil))) pa_nil)))))))
      (pss_cons (ps_set (i := 1) sc__law_classes.nd rfl (Or.inl rfl) (pe_op op_cat (pv 1) (pe_lst (pa_cons (pe_callB (call_isQ TX.toExcT List.mem_cons_self hz hfs) (by rfl) T.b_isinstance (by decide +kernel) (pa_cons (pv 0) (pa_cons (pe_gref (by rfl) (TX.g 8 "Endless" rfl)) pa_nil))) (pa_cons (pe_callB (call_isQ TX.toExcT List.mem_cons_self hz hfs) (by rfl) T.b_isinstance (by decide +kernel) (pa_cons (pv 0) (pa_cons (pe_gref (by rfl) (TX.g 9 "Squeezed" rfl)) pa_nil))) (pa_cons (pe_callB (call_isQ TX.toExcT List.mem_cons_self hz hfs) (by rfl) T.b_isinstance (by decide +kernel) (pa_cons (pv 0) (pa_cons (pe_gref (by rfl) (TX.g 10 "NoPaper" rfl)) pa_nil))) (pa_cons (pe_callB (call_isQ TX.toExcT List.mem_cons_self hz hfs) (by rfl) T.b_isinstance (by decide +kernel) (pa_cons (pv 0) (pa_cons (pe_gref (by rfl) (TX.g 11 "NoDeed" rfl)) pa_nil))) pa_nil)))))))
      (pss_one (ps_ret (pe_op op_cat (pv 1) (pe_lst (pa_cons (pe_callB (call_isQ TX.toExcT List.mem_cons_self hz hfs) (by rfl) T.b_isinstance (by decide +kernel) (pa_cons (pv 0) (pa_cons (pe_gref (by rfl) (TX.g 12 "NoText" rfl)) pa_nil))) (pa_cons (pe_callB (call_isQ TX.toExcT List.mem_cons_self hz hfs) (by rfl) T.b_isinstance (by decide +kernel) (pa_cons (pv 0) (pa_cons (pe_gref (by rfl) (TX.g 13 "NoWords" rfl)) pa_nil))) (pa_cons (pe_callB (call_isQ TX.toExcT List.mem_cons_self hz hfs) (by rfl) T.b_isinstance (by decide +kernel) (pa_cons (pv 0) (pa_cons (pe_gref (by rfl) (TX.g 14 "TooMany" rfl)) pa_nil))) (pa_cons (pe_callB (call_isQ TX.toExcT List.mem_cons_self hz hfs) (by rfl) T.b_isinstance (by decide +kernel) (pa_cons (pv 0) (pa_cons (pe_gref (by rfl) (TX.g 15 "Leaned" rfl)) pa_nil))) pa_nil))))))))))), ?_⟩
    have k := TX.ko i hi
    refine ⟨_, rfl, i, hi, rfl, _, _, _, rfl, fun u z => z, k 0 (by decide), hx, _, rfl, i, hi, rfl, _, _, _, rfl, fun u z => z, k 1 (by decide), hx, _, rfl, i, hi, rfl, _, _, _, rfl, fun u z => z, k 2 (by decide), hx, _, rfl, i, hi, rfl, _, _, _, rfl, fun u z => z, k 3 (by decide), hx, (by show 4 ≤ sizeLine; decide), fun p1 n1 => ?_⟩
    obtain ⟨s1, e1⟩ := new_at (.lst [.bl (decide (i = 0)), .bl (decide (i = 1)), .bl (decide (i = 2)), .bl (decide (i = 3))]) n1
    generalize upd H p1 (.lst [.bl (decide (i = 0)), .bl (decide (i = 1)), .bl (decide (i = 2)), .bl (decide (i = 3))]) = H1 at s1 e1 ⊢
    have hx1 := hx.sm s1
    refine ⟨_, rfl, _, rfl, i, hi, rfl, _, _, _, rfl, fun u z => z, k 4 (by decide), hx1, _, rfl, i, hi, rfl, _, _, _, rfl, fun u z => z, k 5 (by decide), hx1, _, rfl, i, hi, rfl, _, _, _, rfl, fun u z => z, k 6 (by decide), hx1, _, rfl, i, hi, rfl, _, _, _, rfl, fun u z => z, k 7 (by decide), hx1, (by show 4 ≤ sizeLine; decide), fun p2 n2 => ?_⟩
    obtain ⟨s2, e2⟩ := new_at (.lst [.bl (decide (i = 4)), .bl (decide (i = 5)), .bl (decide (i = 6)), .bl (decide (i = 7))]) n2
    generalize upd H1 p2 (.lst [.bl (decide (i = 4)), .bl (decide (i = 5)), .bl (decide (i = 6)), .bl (decide (i = 7))]) = H2 at s2 e2 ⊢
    refine ⟨p1, p2, _, _, rfl, rfl, s2 _ _ e1, e2, (by show 8 ≤ sizeLine; decide), fun p3 n3 => ?_⟩
    obtain ⟨s3, e3⟩ := new_at (.lst ([.bl (decide (i = 0)), .bl (decide (i = 1)), .bl (decide (i = 2)), .bl (decide (i = 3))] ++ [.bl (decide (i = 4)), .bl (decide (i = 5)), .bl (decide (i = 6)), .bl (decide (i = 7))])) n3
    generalize upd H2 p3 (.lst ([.bl (decide (i = 0)), .bl (decide (i = 1)), .bl (decide (i = 2)), .bl (decide (i = 3))] ++ [.bl (decide (i = 4)), .bl (decide (i = 5)), .bl (decide (i = 6)), .bl (decide (i = 7))])) = H3 at s3 e3 ⊢
    have s13 := (s1.trans s2).trans s3
    have hx3 := hx.sm s13
    refine ⟨_, rfl, _, rfl, i, hi, rfl, _, _, _, rfl, fun u z => z, k 8 (by decide), hx3, _, rfl, i, hi, rfl, _, _, _, rfl, fun u z => z, k 9 (by decide), hx3, _, rfl, i, hi, rfl, _, _, _, rfl, fun u z => z, k 10 (by decide), hx3, _, rfl, i, hi, rfl, _, _, _, rfl, fun u z => z, k 11 (by decide), hx3, (by show 4 ≤ sizeLine; decide), fun p4 n4 => ?_⟩
    obtain ⟨s4, e4⟩ := new_at (.lst [.bl (decide (i = 8)), .bl (decide (i = 9)), .bl (decide (i = 10)), .bl (decide (i = 11))]) n4
    generalize upd H3 p4 (.lst [.bl (decide (i = 8)), .bl (decide (i = 9)), .bl (decide (i = 10)), .bl (decide (i = 11))]) = H4 at s4 e4 ⊢
    refine ⟨p3, p4, _, _, rfl, rfl, s4 _ _ e3, e4, (by show 12 ≤ sizeLine; decide), fun p5 n5 => ?_⟩
    obtain ⟨s5, e5⟩ := new_at (.lst (([.bl (decide (i = 0)), .bl (decide (i = 1)), .bl (decide (i = 2)), .bl (decide (i = 3))] ++ [.bl (decide (i = 4)), .bl (decide (i = 5)), .bl (decide (i = 6)), .bl (decide (i = 7))]) ++ [.bl (decide (i = 8)), .bl (decide (i = 9)), .bl (decide (i = 10)), .bl (decide (i = 11))])) n5
    generalize upd H4 p5 (.lst (([.bl (decide (i = 0)), .bl (decide (i = 1)), .bl (decide (i = 2)), .bl (decide (i = 3))] ++ [.bl (decide (i = 4)), .bl (decide (i = 5)), .bl (decide (i = 6)), .bl (decide (i = 7))]) ++ [.bl (decide (i = 8)), .bl (decide (i = 9)), .bl (decide (i = 10)), .bl (decide (i = 11))])) = H5 at s5 e5 ⊢
    have s15 := (s13.trans s4).trans s5
    have hx5 := hx.sm s15
    refine ⟨_, rfl, _, rfl, i, hi, rfl, _, _, _, rfl, fun u z => z, k 12 (by decide), hx5, _, rfl, i, hi, rfl, _, _, _, rfl, fun u z => z, k 13 (by decide), hx5, _, rfl, i, hi, rfl, _, _, _, rfl, fun u z => z, k 14 (by decide), hx5, _, rfl, i, hi, rfl, _, _, _, rfl, fun u z => z, k 15 (by decide), hx5, (by show 4 ≤ sizeLine; decide), fun p6 n6 => ?_⟩
    obtain ⟨s6, e6⟩ := new_at (.lst [.bl (decide (i = 12)), .bl (decide (i = 13)), .bl (decide (i = 14)), .bl (decide (i = 15))]) n6
    generalize upd H5 p6 (.lst [.bl (decide (i = 12)), .bl (decide (i = 13)), .bl (decide (i = 14)), .bl (decide (i = 15))]) = H6 at s6 e6 ⊢
    refine ⟨p5, p6, _, _, rfl, rfl, s6 _ _ e5, e6, (by show 16 ≤ sizeLine; decide), fun p7 n7 => ?_⟩
    exact q _ p7 ((s15.trans s6).trans (same_upd n7)) ((s15.trans s6).free n7) upd_same
end
section
variable {X : Cx}
theorem met_mk {c : Nat → Addr} {LE g : Addr} {fd : FuncData} (Fm : Fun X.K "_law_met" "_law_met" s__law_met g fd) (mm : X.mg "_law_met" = some (.ref g)) (bm : Binds X.K fd ["_law_call"] []) (T : Txt X.K X.mg) (TX : ExcN X.K X.mg c LE)
    (DE : ClE X.prog X.w X.K X.mg X.base 1 "_law_classes" ["_law_e"] (spCls c)) (hr : Room 3 X.A) : MetF X "_law_met" "_law_call" (TMet c) := by
  obtain ⟨oc, od, kV, doc, pm, an, cdv, ct, osl, rfl, lk, hcd⟩ := Fm.ex
  refine ⟨g, _, _, _, kV, doc, pm, cdv, ct, oc, an, od, osl, _, mm, Fm.kp, lk, hcd, bm, sc__law_met, rfl, .inl rfl, ?_⟩
  intro f c' s H Q tl act hc h
  have hrE : L2H.RoomH 1 ((X.A.deeper (envOfC "_law_met" (defScope s__law_met) s.heap.objs.size g cdv))) := L2H.roomH_of ((hr.mono (show 2 ≤ 3 by omega)).deeper _)
  refine ⟨_, pss_one (ps_try_as (X := (cxOf C8.CX0 X.prog X.w X.K X.mg X.base _ "_law_met" (defScope s__law_met) g cdv X.A X.stack s H C8.E0).nox) (c := .ref LE) (i := 1) (Wout := fun _ _ _ _ => False)
      (tb := fun W D σ H => ∃ Ech : XK, (∀ cls d (σ' : L2.St) H', σ'.length = 3 → Ech cls d H' → W cls d σ' H') ∧ σ[0]? = some (some (.ref f)) ∧ H c' = some (LamX.CodeO c' (X.env.qual ++ "<lambda>")) ∧ tl Ech H fun v H1 => 2 ≤ sizeLine ∧ ∀ p, H1 p = none → D.rt (.ref p) (upd H1 p (.tup [.str "told", v])))
      rfl rfl sc__law_met.nd rfl rfl ⟨rfl, by decide, .inl TX.gL⟩ takes0 (fun W pn xe tk _ => ?_) (fun a oe cls d pn hz hfs =>
        (pss_cons (ps_set (i := 2) sc__law_met.nd rfl (Or.inl rfl) (pe_ownE DE ⟨hrE.dp, hrE.un⟩ List.mem_cons_self hz hfs (by rfl) (pa_cons (pv 1) pa_nil)))
      (pss_cons (ps_if (PW.pt (pw_or (pt_not (pt_val (pe_callB (call_isQ TX.toExcT List.mem_cons_self hz hfs) (by rfl) T.b_isinstance (by decide +kernel) (pa_cons (pv 1) (pa_cons (pe_bltn (v := .ty "ValueError") (by rfl) T.b_ValueError (by decide +kernel) rfl) pa_nil))))) (pw_or1 (pt_cmpR op_ne (pe_bmK (K := X.K) (r := rCntB X.K) PySem.F.plainAttrs_list PySem.F.slot_list_count PySem.F.type_list_count mt_bcount (pv 2) (pa_cons pe_bl pa_nil)) pe_int (nomark _))))) (pss_one (ps_ret (pe_tup (pa_cons pe_str (pa_cons pe_non pa_nil))))) pss_nil)
      (pss_cons (ps_if (pt_val (pe_ix (r := rIxL X.K) ix_list (pv 2) pe_int (fun _ _ => rfl))) (pss_one (ps_ret (pe_tup (pa_cons pe_str (pa_cons (pe_tup (pa_cons (pe_xf (TX.xf (i := 14) (by decide)) TX.n1 hz hfs (pv 1)) (pa_cons (pe_xf (TX.xf (i := 14) (by decide)) TX.n2 hz hfs (pv 1)) pa_nil))) pa_nil))))) pss_nil)
      (pss_cons (ps_if (pt_val (pe_ix (r := rIxL X.K) ix_list (pv 2) pe_int (fun _ _ => rfl))) (pss_one (ps_ret (pe_tup (pa_cons pe_str (pa_cons (pe_xf (TX.xf (i := 15) (by decide)) TX.n3 hz hfs (pv 1)) pa_nil))))) pss_nil)
      (pss_one (ps_ret (pe_tup (pa_cons pe_str (pa_cons (pe_bmK (K := X.K) (r := rIndex X.K) PySem.F.plainAttrs_list PySem.F.slot_list_index PySem.F.type_list_index mt_index (pv 2) (pa_cons pe_bl pa_nil)) pa_nil))))))))))), ?_⟩
  · refine ⟨fun pins s' σ H' D I h' => ?_⟩
    obtain ⟨Ech, hW, h1, h2, h3⟩ := h'
    refine run_ex (X := (cxOf C8.CX0 X.prog X.w X.K X.mg X.base ["_law_call", "_law_e", "_law_some"] "_law_met" (defScope s__law_met) g cdv X.A X.stack s H C8.E0).tr pn xe) ⟨_, pss_one (ps_ret (pe_tup (pa_cons pe_str (pa_cons (act _ pn xe Ech _ _ (takes_len tk) (fun cls d σ' H' he hl => hW cls d σ' H' hl he)) pa_nil)))), ?_⟩ I
    exact ⟨h1, h2, h3⟩
  · refine ⟨EMet c Q, fun cls d σ' H' hl hE => ?_, rfl, hc, h⟩
    obtain ⟨i, hi, rfl, hx, h13, hM, hL⟩ := hE
    obtain ⟨x0, x1, x2, rfl⟩ : ∃ x0 x1 x2, σ' = [x0, x1, x2] := by
      match σ', hl with
      | [a, b, c], _ => exact ⟨a, b, c, rfl⟩
    refine ⟨true, TX.ex i hi, fun _ a na => ?_, fun z => Bool.noConfusion z⟩
    refine ⟨_, rfl, i, hi, rfl, rfl, hx, fun H1 p1 s1 n1 e1 => ?_⟩
    have hx1 := hx.sm s1
    refine ⟨_, rfl, i, hi, rfl, _, _, _, rfl, fun u z => z, TX.kv i hi, hx1, true, rfl, iteF ?_⟩
    refine ⟨_, rfl, .inl ⟨rfl, _, .inl (.inl e1)⟩, p1, bits i, rfl, rfl, .inl (.inl e1), ?_⟩
    rw [bits_count i hi]
    refine ⟨rfl, _, rfl, iteF ?_⟩
    refine ⟨_, rfl, p1, _, 14, _, rfl, rfl, .inl (.inl e1), bits_at i 14 (by decide), _, rfl, ite2 (fun e => ?_) (fun e14 => ?_)⟩
    · obtain ⟨dd, fs, m, n, rfl, hd, lm, ln, hq⟩ := hM (of_decide_eq_true e)
      have ec : c i = c 14 := by rw [of_decide_eq_true e]
      have hd1 := s1 _ _ hd
      refine ⟨_, rfl, rfl, by rw [ec], dd, fs, m, rfl, hd1, lm, _, rfl, rfl, by rw [ec], dd, fs, n, rfl, hd1, ln, (by show 2 ≤ sizeLine; decide), fun q2 n2 => ?_⟩
      refine ⟨(by show 2 ≤ sizeLine; decide), fun p3 n3 => ?_⟩
      obtain ⟨s2, e2⟩ := new_at (.tup [m, n]) n2
      exact hq _ p3 q2 ((s1.trans s2).trans (same_upd n3)) ((s1.trans s2).free n3) ((same_upd n3) _ _ e2) upd_same
    refine ⟨_, rfl, p1, _, 15, _, rfl, rfl, .inl (.inl e1), bits_at i 15 (by decide), _, rfl, ite2 (fun e => ?_) (fun e15 => ?_)⟩
    · obtain ⟨dd, fs, m, rfl, hd, lm, hq⟩ := hL (of_decide_eq_true e)
      have ec : c i = c 15 := by rw [of_decide_eq_true e]
      refine ⟨_, rfl, rfl, by rw [ec], dd, fs, m, rfl, s1 _ _ hd, lm, (by show 2 ≤ sizeLine; decide), fun p3 n3 => ?_⟩
      exact hq _ p3 (s1.trans (same_upd n3)) (s1.free n3) upd_same
    have i14 : i < 14 := by
      have a1 : ¬ i = 14 := fun z => e14 (decide_eq_true z)
      have a2 : ¬ i = 15 := fun z => e15 (decide_eq_true z)
      omega
    refine ⟨_, rfl, .inl ⟨rfl, _, .inl (.inl e1)⟩, p1, _, .bl true, i, .bl true, rfl, rfl, .inl (.inl e1), rfl, bl_flat _, ?_, rfl, fun m z hm hz => ?_, ?_⟩
    · rw [bits_at i i hi, decide_eq_true rfl]
    · rw [bits_at i m (by omega), decide_eq_false (by omega)] at hz
      cases hz
      rfl
    · refine ⟨(by show 2 ≤ sizeLine; decide), fun p3 n3 => ?_⟩
      exact h13 i14 _ p3 (s1.trans (same_upd n3)) (s1.free n3) upd_same
end

section
variable {P : Program} {w : World} {K : PySem.W.Frag} {mg : Str → Option Value} {base : Heap}
def sp__law_cell_at (K : PySem.W.Frag) : Sp := fun vs H Q _ => ∃ (a : Addr) (ns : List Int) (k : Int), vs = [.ref a, .int k] ∧ SqL K H a (ns.map V.int) ∧ 0 ≤ k ∧ ∀ c, Q (.int c) H
theorem ok__law_cell_at {f : Addr} {fd : FuncData} (F : Fun K "_law_cell_at" "_law_cell_at" s__law_cell_at f fd) (T : Txt K mg) : FnOk P w K mg base CX0 1 f fd ["_law_script", "_law_k"] (sp__law_cell_at K) := by
  refine F.ok sc__law_cell_at (fun vs H Q E h => ?_) (fun cdv A outer s H vs Q E hr h => ?_)
  · obtain ⟨a, ns, k, rfl, _⟩ := h
    rfl
  · obtain ⟨a, ns, k, rfl, hS, hk, q⟩ := h
    refine ⟨_, (pss_cons (ps_if (pt_cmpR op_lt (pv 1) (pe_callB call_len_seq (by rfl) T.b_len (by decide +kernel) (pa_cons (pv 0) pa_nil)) (nomark _)) (pss_one (ps_ret (pe_ix ix_list (pv 0) (pv 1) (fun _ _ => rfl)))) pss_nil)
      (pss_one (ps_ret pe_int))), ?_⟩
    refine ⟨_, rfl, _, rfl, a, _, rfl, .inl hS, k, _, rfl, rfl, _, rfl, ite2 (fun e => ?_) (fun _ => q 0)⟩
    have e1 : k < ((ns.map V.int).length : Int) := of_decide_eq_true e
    rw [List.length_map] at e1
    have hj : k.toNat < ns.length := by omega
    have g : (ns.map V.int)[k.toNat]? = some (.int ns[k.toNat]) := by
      rw [List.getElem?_map, List.getElem?_eq_getElem hj]
      rfl
    exact ⟨_, rfl, _, rfl, a, _, k, _, rfl, rfl, hS, at_of (j := k.toNat) (by omega) g, q _⟩
def sp__law_state (K : PySem.W.Frag) : Sp := fun vs H Q _ => ∃ (a : Addr) (ns : List Int) (k : Int), vs = [.ref a, .int k] ∧ SqL K H a (ns.map V.int) ∧ 0 ≤ k ∧ ∀ H' p, Same H H' → H p = none → IsSx H' p → Q (.ref p) H'
theorem ok__law_state {f : Addr} {fd : FuncData} (F : Fun K "_law_state" "_law_state" s__law_state f fd) (T : Txt K mg) (D__law_cell_at : Cl P w K mg base 1 "_law_cell_at" ["_law_script", "_law_k"] (sp__law_cell_at K)) : FnOk P w K mg base CX0 2 f fd ["_law_script", "_law_k"] (sp__law_state K) := by
  refine F.ok sc__law_state (fun vs H Q E h => ?_) (fun cdv A outer s H vs Q E hr h => ?_)
  · obtain ⟨a, ns, k, rfl, _⟩ := h
    rfl
  · obtain ⟨a, ns, k, rfl, hS, hk, q⟩ := h
    refine ⟨_, (pss_cons (ps_set (i := 2) sc__law_state.nd rfl (Or.inl rfl) (pe_own D__law_cell_at (hr.mono (by omega)) (by rfl) (pa_cons (pv 0) (pa_cons (pv 1) pa_nil))))
      (pss_cons (ps_if (pt_cmpR op_ge (pv 2) (pe_op op_pow pe_int pe_int) (nomark _)) (pss_one (ps_ret (pe_lst (pa_cons (pe_op op_sub (pv 2) (pe_op op_pow pe_int pe_int)) (pa_cons pe_bl pa_nil))))) pss_nil)
      (pss_one (ps_ret (pe_lst (pa_cons (pe_op op_modN (pv 2) pe_int) (pa_cons pe_bl pa_nil))))))), ?_⟩
    refine ⟨_, rfl, _, rfl, a, ns, k, rfl, hS, hk, fun c => ?_⟩
    refine ⟨_, rfl, 10, 18, rfl, rfl, ⟨by decide, by decide, by decide⟩, _, _, rfl, rfl, _, rfl, ite2 (fun e => ?_) (fun e => ?_)⟩
    · have e1 := of_decide_eq_true e
      refine ⟨_, rfl, 10, 18, rfl, rfl, ⟨by decide, by decide, by decide⟩, _, _, rfl, rfl, (by show 2 ≤ sizeLine; decide), fun p np => ?_⟩
      exact q _ p (same_upd np) np ⟨_, _, upd_same, by omega, fun z => Bool.noConfusion z⟩
    · refine ⟨_, rfl, _, _, rfl, rfl, (by show (2147483647 : Int) ≠ 0; decide), (by show 2 ≤ sizeLine; decide), fun p np => ?_⟩
      exact q _ p (same_upd np) np ⟨_, _, upd_same, (fm (by decide)).1, fun _ => (fm (by decide)).2⟩
def sp__law_take (K : PySem.W.Frag) : Sp := fun vs H Q _ => ∃ (st : Addr) (n : Int), vs = [.ref st, .int n] ∧ IsSx H st ∧ 0 < n ∧ n < 1073741824 ∧ ∀ r H', 0 ≤ r → r < n → Gx st H H' → Q (.int r) H'
theorem ok__law_take {f : Addr} {fd : FuncData} (F : Fun K "_law_take" "_law_take" s__law_take f fd) (T : Txt K mg) : FnOk P w K mg base CX0 1 f fd ["_law_state_here", "_law_many"] (sp__law_take K) := by
  refine F.ok sc__law_take (fun vs H Q E h => ?_) (fun cdv A outer s H vs Q E hr h => ?_)
  · obtain ⟨st, n, rfl, _⟩ := h
    rfl
  · obtain ⟨st, n, rfl, ⟨a, b, hs, ha, hb⟩, n0, n1, q⟩ := h
    refine ⟨_, (pss_cons (ps_if (pt_val (pe_ix ix_list (pv 0) pe_int (fun _ _ => rfl))) (pss_cons (ps_set (i := 2) sc__law_take.nd rfl (Or.inl rfl) (pe_op op_modN (pe_ix ix_list (pv 0) pe_int (fun _ _ => rfl)) (pv 1)))
      (pss_cons (ps_asg (pe_op op_fdivN (pe_ix ix_list (pv 0) pe_int (fun _ _ => rfl)) (pv 1)) (pg_sub (pv 0) pe_int set_list))
      (pss_one (ps_ret (pv 2))))) pss_nil)
      (pss_cons (ps_asg (pe_op op_modN (pe_op op_add (pe_op op_mul (pe_ix ix_list (pv 0) pe_int (fun _ _ => rfl)) pe_int) pe_int) pe_int) (pg_sub (pv 0) pe_int set_list))
      (pss_cons (ps_set (i := 3) sc__law_take.nd rfl (Or.inl rfl) (pe_op op_modN (pe_op op_add (pe_op op_add (pe_op op_mul (pe_ix ix_list (pv 0) pe_int (fun _ _ => rfl)) (pe_ix ix_list (pv 0) pe_int (fun _ _ => rfl))) (pe_op op_mul pe_int (pe_ix ix_list (pv 0) pe_int (fun _ _ => rfl)))) pe_int) pe_int))
      (pss_cons (ps_set (i := 3) sc__law_take.nd rfl (Or.inl rfl) (pe_op op_modN (pe_op op_add (pe_op op_mul (pv 3) (pv 3)) (pe_op op_mul pe_int (pv 3))) pe_int))
      (pss_one (ps_ret (pe_op op_modN (pe_op op_fdivN (pv 3) pe_int) (pv 1)))))))), ?_⟩
    refine ⟨_, rfl, st, _, 1, _, rfl, rfl, .inl (.inl hs), rfl, b, rfl, ?_⟩
    cases b with
    | true =>
      refine iteT ?_
      refine ⟨_, rfl, st, _, 0, _, rfl, rfl, .inl (.inl hs), rfl, _, rfl, a, n, rfl, rfl, by omega, ?_⟩
      refine ⟨_, rfl, st, _, 0, _, rfl, rfl, .inl (.inl hs), rfl, _, rfl, a, n, rfl, rfl, ⟨by omega, by omega⟩, _, rfl, st, _, 0, 0, rfl, rfl, hs, rfl, ?_⟩
      refine ⟨_, rfl, q _ _ (fm n0).1 (fm n0).2 (gx_set hs ?_ (fun z => Bool.noConfusion z))⟩
      rw [Int.fdiv_eq_ediv_of_nonneg _ (by omega)]
      exact Int.ediv_nonneg ha (by omega)
    | false =>
      have hb1 := hb rfl
      refine iteF ?_
      refine ⟨_, rfl, st, _, 0, _, rfl, rfl, .inl (.inl hs), rfl, a, 48271, rfl, rfl, .inl ⟨by omega, by omega⟩, _, _, rfl, rfl, _, _, rfl, rfl, (by show (2147483647 : Int) ≠ 0; decide), _, rfl, st, _, 0, 0, rfl, rfl, hs, rfl, ?_⟩
      dsimp only
      have f1 := fm (x := a * 48271 + 29) (m := 2147483647) (by decide)
      generalize (a * 48271 + 29).fmod 2147483647 = b1 at f1 ⊢
      obtain ⟨f1a, f1b⟩ := f1
      have hs1 : (upd H st (.lst [.int b1, .bl false])) st = some (.lst [.int b1, .bl false]) := upd_same
      refine ⟨_, rfl, st, _, 0, _, rfl, rfl, .inl (.inl hs1), rfl, _, rfl, st, _, 0, _, rfl, rfl, .inl (.inl hs1), rfl, b1, b1, rfl, rfl, .inl ⟨by omega, by omega⟩, _, rfl, st, _, 0, _, rfl, rfl, .inl (.inl hs1), rfl, 39373, b1, rfl, rfl, .inl ⟨by decide, by decide⟩, _, _, rfl, rfl, _, _, rfl, rfl, _, _, rfl, rfl, (by show (2147483629 : Int) ≠ 0; decide), ?_⟩
      dsimp only
      have f2 := fm (x := b1 * b1 + 39373 * b1 + 7) (m := 2147483629) (by decide)
      generalize (b1 * b1 + 39373 * b1 + 7).fmod 2147483629 = b2 at f2 ⊢
      obtain ⟨f2a, f2b⟩ := f2
      refine ⟨_, rfl, _, rfl, b2, b2, rfl, rfl, .inl ⟨by omega, by omega⟩, _, rfl, 16807, b2, rfl, rfl, .inl ⟨by decide, by decide⟩, _, _, rfl, rfl, _, _, rfl, rfl, (by show (2147483587 : Int) ≠ 0; decide), ?_⟩
      dsimp only
      generalize (b2 * b2 + 16807 * b2).fmod 2147483587 = b3
      refine ⟨_, rfl, b3, 8, rfl, rfl, ⟨by decide, by decide⟩, _, rfl, _, n, rfl, rfl, by omega, ?_⟩
      exact q _ _ (fm n0).1 (fm n0).2 (gx_set hs f1a (fun _ => f1b))
end

/-! ### the classes as the top has made them -/
def partsOf (z : Str) : Option (List Str) :=
  if z = "layer" then some [] else if z = "row" then some ["layer", "drawing", "hold"] else if z = "draw" then some ["row", "drawing"] else if z = "hold" then some ["row", "hold"] else if z = "drop" then some ["row"] else
  if z = "round" then some ["row"] else if z = "straight" then some ["layer"] else if z = "move" then some ["way", "way", "many"] else none
def nbOf (w : Str) : Option Int := if w = "undo" then some 1 else if w = "sheet" then some 0 else if w = "length" then some 0 else if w = "at" then some 1 else if w = "leans" then some 1 else none
def ansOf (z : Str) : Option Str := if z = "undo" then some "undone" else if z = "sheet" then some "written_sheet" else if z = "length" then some "written_length" else if z = "at" then some "written_picture" else if z = "leans" then some "written_leaning" else none
structure ClT (K : PySem.W.Frag) (w : World) (mg : Str → Option Value) (CT : Nat → Addr) : Prop where
  cM : Cls K (CT 0)
  cR : Cls K (CT 1)
  cD : Cls K (CT 2)
  n1 : NoAttr K (CT 0) "layers"
  n2 : NoAttr K (CT 0) "rows"
  n3 : NoAttr K (CT 0) "backs"
  n4 : NoAttr K (CT 0) "moves"
  r1 : NoAttr K (CT 1) "deeds"
  r2 : NoAttr K (CT 1) "made"
  r3 : NoAttr K (CT 1) "numbered"
  d1 : NoAttr K (CT 2) "roll"
  gP : mg "PARTS" = some (.ref (CT 9))
  pk : ∃ es n, KDict K w (CT 9) es n
  p0 : ∀ z, partsOf z = none → PySem.W.nsIn K (CT 9) z = some none
  p1 : ∀ z ps, partsOf z = some ps → ∃ t, PySem.W.nsIn K (CT 9) z = some (some (.ref t)) ∧ ∀ H, SqT K H t (ps.map V.str)
  gA : mg "ANSWERS" = some (.ref (CT 8))
  kA : ∃ es n, KDict K w (CT 8) es n
  a1 : ∀ z x, ansOf z = some x → ∃ f, PySem.W.nsIn K (CT 8) z = some (some (.ref f)) ∧ mg x = some (.ref f)
  gN : mg "NUMBERS_BEHIND" = some (.ref (CT 7))
  kN : ∃ es n, KDict K w (CT 7) es n
  n0 : ∀ z, nbOf z = none → PySem.W.nsIn K (CT 7) z = some none
  n1' : ∀ z n, nbOf z = some n → ∃ t, PySem.W.nsIn K (CT 7) z = some (some (.int n t))
  gY : ∃ t, mg "NONE_YET" = some (.str "-" t)
/-- a Made at p that holds what S tells -/
structure MadeC (K : PySem.W.Frag) (C : Addr) (H : Hp) (p L R B M : Addr) (S : MS) : Prop where
  ob : ∃ dx, H p = some (.ins C dx (fM L R B M))
  ly : H L = some (.lst (S.layers.map V.int))
  rw : ∃ kvs, H R = some (.dK kvs) ∧ AsP (T3At K H) kvs S.rows
  bk : ∃ kvs, H B = some (.dK kvs) ∧ AsP (fun v o => v = bkV o) kvs S.backs
  mv : ∃ ms, H M = some (.lst ms) ∧ Paired (MoveAt K H) ms S.moves
  nLM : L ≠ M
  nRB : R ≠ B
theorem MadeC.nn {K : PySem.W.Frag} {C : Addr} {H : Hp} {p L R B M : Addr} {S : MS} (h : MadeC K C H p L R B M S) : p ≠ L ∧ p ≠ R ∧ p ≠ B ∧ p ≠ M ∧ L ≠ R ∧ L ≠ B ∧ R ≠ M ∧ B ≠ M := by
  obtain ⟨dx, h1⟩ := h.ob
  obtain ⟨kr, h3, _⟩ := h.rw
  obtain ⟨kb, h4, _⟩ := h.bk
  obtain ⟨ms, h5, _⟩ := h.mv
  have h2 := h.ly
  refine ⟨ne_of h1 h2 ?_, ne_of h1 h3 ?_, ne_of h1 h4 ?_, ne_of h1 h5 ?_, ne_of h2 h3 ?_, ne_of h2 h4 ?_, ne_of h3 h5 ?_, ne_of h4 h5 ?_⟩ <;> (intro z; cases z)
/-- what a heap must keep of another, that a Made stands in it -/
theorem MadeC.keep {K : PySem.W.Frag} {C : Addr} {H H' : Hp} {p L R B M : Addr} {S : MS} (h : MadeC K C H p L R B M S) (t : TKeep K H H') (kp : ∀ o, H p = some o → H' p = some o) (kL : ∀ o, H L = some o → H' L = some o) (kR : ∀ o, H R = some o → H' R = some o) (kB : ∀ o, H B = some o → H' B = some o) (kM : ∀ o, H M = some o → H' M = some o) : MadeC K C H' p L R B M S := by
  obtain ⟨⟨dx, h1⟩, h2, ⟨kr, h3, h3'⟩, ⟨kb, h4, h4'⟩, ⟨ms, h5, h5'⟩, a, b⟩ := h
  exact ⟨⟨dx, kp _ h1⟩, kL _ h2, ⟨kr, kR _ h3, AsP.mono (fun _ _ => T3At.keep t) h3'⟩, ⟨kb, kB _ h4, h4'⟩, ⟨ms, kM _ h5, Paired.mono h5' fun _ _ => MoveAt.keep t⟩, a, b⟩
theorem MadeC.same {K : PySem.W.Frag} {C : Addr} {H H' : Hp} {p L R B M : Addr} {S : MS} (h : MadeC K C H p L R B M S) (s : Same H H') : MadeC K C H' p L R B M S :=
  h.keep (Same.tk s) (fun o => s _ o) (fun o => s _ o) (fun o => s _ o) (fun o => s _ o) (fun o => s _ o)
/-- a Made none of whose parts stood in H0 -/
structure MadeN (K : PySem.W.Frag) (C : Addr) (H0 H : Hp) (p L R B M : Addr) (S : MS) : Prop where
  s : Same H0 H
  c : MadeC K C H p L R B M S
  np : H0 p = none
  nL : H0 L = none
  nR : H0 R = none
  nB : H0 B = none
  nM : H0 M = none
theorem same_n {H0 H : Hp} {D : Addr} (s : Same H0 H) (n : H0 D = none) (o : HO) : Same H0 (upd H D o) := fun b u e => by
  rw [upd_ne (ne_of_none e n)]
  exact s _ _ e
theorem tk_at {K : PySem.W.Frag} {H : Hp} {D : Addr} {o : HO} (n : ∀ xs, ¬ Rd H D (.tup xs)) : TKeep K H (upd H D o) := fun a xs h => by
  rcases h with (h | ⟨u, h⟩) | h
  · refine .inl (.inl ?_)
    rw [upd_ne fun z => n xs (.inl (by rw [← z]; exact h))]
    exact h
  · refine .inl (.inr ⟨u, ?_⟩)
    rw [upd_ne fun z => n xs (.inr ⟨u, by rw [← z]; exact h⟩)]
    exact h
  · exact .inr h
theorem no_tup {H : Hp} {D : Addr} {o : HO} (e : H D = some o) (h1 : ∀ xs, o ≠ .tup xs) (h2 : ∀ u xs, o ≠ .frz u (.tup xs)) : ∀ xs, ¬ Rd H D (.tup xs) := fun xs h => by
  rcases h with h | ⟨u, h⟩
  · rw [e] at h
    exact h1 _ (Option.some.inj h)
  · rw [e] at h
    exact h2 _ _ (Option.some.inj h)
theorem tk_d {K : PySem.W.Frag} {H : Hp} {D : Addr} {kvs : List (Key × V)} {o : HO} (e : H D = some (.dK kvs)) : TKeep K H (upd H D o) := tk_at (no_tup e (fun _ z => by cases z) (fun _ _ z => by cases z))
theorem tk_i {K : PySem.W.Frag} {H : Hp} {D C dx : Addr} {fs : List (Str × V)} {o : HO} (e : H D = some (.ins C dx fs)) : TKeep K H (upd H D o) := tk_at (no_tup e (fun _ z => by cases z) (fun _ _ z => by cases z))
section
variable {P : Program} {w : World} {K : PySem.W.Frag} {mg : Str → Option Value} {base : Heap}
def sp_Made__init (K : PySem.W.Frag) (CT : Nat → Addr) : Sp := fun vs H Q _ => ∃ (H0 : Hp) (p dx : Addr), vs = [.ref p] ∧ H p = some (.ins (CT 0) dx []) ∧ Same H0 H ∧ H0 p = none ∧ ∀ (H' : Hp) (L R B M : Addr), MadeN K (CT 0) H0 H' p L R B M MS.nil → Q .non H'
theorem ok_Made__init {f : Addr} {fd : FuncData} (F : Fun K "__init__" "Made.__init__" s_Made__init f fd) (T : Txt K mg) {CT : Nat → Addr} (TC : ClT K w mg CT) : FnOk P w K mg base CX0 1 f fd ["self"] (sp_Made__init K CT) := by
  refine F.ok sc_Made__init (fun vs H Q E h => ?_) (fun cdv A outer s H vs Q E hr h => ?_)
  · obtain ⟨H0, p, dx, rfl, _⟩ := h
    rfl
  · obtain ⟨H0, p, dx, rfl, hp, s0, n0, q⟩ := h
    refine ⟨_, (pss_cons (ps_fld (pv 0) (pe_lst pa_nil) rfl)
      (pss_cons (ps_fld (pv 0) pe_dnewK rfl)
      (pss_cons (ps_fld (pv 0) pe_dnewK rfl)
      (pss_one (ps_fld (pv 0) (pe_lst pa_nil) rfl))))), ?_⟩
    refine ⟨Nat.zero_le _, fun L nL => ?_⟩
    obtain ⟨s1, e1⟩ := new_at (.lst []) nL
    generalize upd H L (.lst []) = H1 at s1 e1 ⊢
    have p1 := s1 _ _ hp
    refine ⟨_, rfl, p, _, dx, _, rfl, p1, TC.cM, TC.n1, (by show 0 < 1000; decide), ?_⟩
    have L0 : H0 L = none := s0.free nL
    have s2 := same_n (s0.trans s1) n0 (.ins (CT 0) dx (putF "layers" (.ref L) []))
    have e2 : upd H1 p (.ins (CT 0) dx (putF "layers" (.ref L) [])) L = some (.lst []) := by rw [upd_ne (ne_of e1 p1 (by intro z; cases z))]; exact e1
    have p2 : upd H1 p (.ins (CT 0) dx (putF "layers" (.ref L) [])) p = some (.ins (CT 0) dx (putF "layers" (.ref L) [])) := upd_same
    generalize upd H1 p (.ins (CT 0) dx (putF "layers" (.ref L) [])) = H2 at s2 e2 p2 ⊢
    refine fun R nR => ?_
    obtain ⟨s3, e3⟩ := new_at (.dK []) nR
    generalize upd H2 R (.dK []) = H3 at s3 e3 ⊢
    have R0 : H0 R = none := s2.free nR
    have p3 := s3 _ _ p2
    refine ⟨_, rfl, p, _, dx, _, rfl, p3, TC.cM, TC.n2, (by show 1 < 1000; decide), ?_⟩
    have s4 := same_n (s2.trans s3) n0 (.ins (CT 0) dx (putF "rows" (.ref R) (putF "layers" (.ref L) [])))
    have e4 : upd H3 p (.ins (CT 0) dx (putF "rows" (.ref R) (putF "layers" (.ref L) []))) L = some (.lst []) := by rw [upd_ne (ne_of (s3 _ _ e2) p3 (by intro z; cases z))]; exact s3 _ _ e2
    have d4 : upd H3 p (.ins (CT 0) dx (putF "rows" (.ref R) (putF "layers" (.ref L) []))) R = some (.dK []) := by rw [upd_ne (ne_of e3 p3 (by intro z; cases z))]; exact e3
    have p4 : upd H3 p (.ins (CT 0) dx (putF "rows" (.ref R) (putF "layers" (.ref L) []))) p = some (.ins (CT 0) dx (putF "rows" (.ref R) (putF "layers" (.ref L) []))) := upd_same
    generalize upd H3 p (.ins (CT 0) dx (putF "rows" (.ref R) (putF "layers" (.ref L) []))) = H4 at s4 e4 d4 p4 ⊢
    refine fun B nB => ?_
    obtain ⟨s5, e5⟩ := new_at (.dK []) nB
    generalize upd H4 B (.dK []) = H5 at s5 e5 ⊢
    have B0 : H0 B = none := s4.free nB
    have p5 := s5 _ _ p4
    have nRB : R ≠ B := ne_of_none d4 nB
    refine ⟨_, rfl, p, _, dx, _, rfl, p5, TC.cM, TC.n3, (by show 2 < 1000; decide), ?_⟩
    have s6 := same_n (s4.trans s5) n0 (.ins (CT 0) dx (putF "backs" (.ref B) (putF "rows" (.ref R) (putF "layers" (.ref L) []))))
    have e6 : upd H5 p (.ins (CT 0) dx (putF "backs" (.ref B) (putF "rows" (.ref R) (putF "layers" (.ref L) [])))) L = some (.lst []) := by rw [upd_ne (ne_of (s5 _ _ e4) p5 (by intro z; cases z))]; exact s5 _ _ e4
    have d6 : upd H5 p (.ins (CT 0) dx (putF "backs" (.ref B) (putF "rows" (.ref R) (putF "layers" (.ref L) [])))) R = some (.dK []) := by rw [upd_ne (ne_of (s5 _ _ d4) p5 (by intro z; cases z))]; exact s5 _ _ d4
    have b6 : upd H5 p (.ins (CT 0) dx (putF "backs" (.ref B) (putF "rows" (.ref R) (putF "layers" (.ref L) [])))) B = some (.dK []) := by rw [upd_ne (ne_of e5 p5 (by intro z; cases z))]; exact e5
    have p6 : upd H5 p (.ins (CT 0) dx (putF "backs" (.ref B) (putF "rows" (.ref R) (putF "layers" (.ref L) [])))) p = some (.ins (CT 0) dx (putF "backs" (.ref B) (putF "rows" (.ref R) (putF "layers" (.ref L) [])))) := upd_same
    generalize upd H5 p (.ins (CT 0) dx (putF "backs" (.ref B) (putF "rows" (.ref R) (putF "layers" (.ref L) [])))) = H6 at s6 e6 d6 b6 p6 ⊢
    refine ⟨Nat.zero_le _, fun M nM => ?_⟩
    obtain ⟨s7, e7⟩ := new_at (.lst []) nM
    generalize upd H6 M (.lst []) = H7 at s7 e7 ⊢
    have M0 : H0 M = none := s6.free nM
    have p7 := s7 _ _ p6
    have nLM : L ≠ M := ne_of_none e6 nM
    refine ⟨_, rfl, p, _, dx, _, rfl, p7, TC.cM, TC.n4, (by show 3 < 1000; decide), ?_⟩
    have s8 := same_n (s6.trans s7) n0 (.ins (CT 0) dx (putF "moves" (.ref M) (putF "backs" (.ref B) (putF "rows" (.ref R) (putF "layers" (.ref L) [])))))
    refine q _ L R B M ⟨s8, ⟨⟨dx, upd_same⟩, ?_, ⟨[], ?_, .nil⟩, ⟨[], ?_, .nil⟩, ⟨[], ?_, .nil⟩, nLM, nRB⟩, n0, L0, R0, B0, M0⟩
    · rw [upd_ne (ne_of (s7 _ _ e6) p7 (by intro z; cases z))]; exact s7 _ _ e6
    · rw [upd_ne (ne_of (s7 _ _ d6) p7 (by intro z; cases z))]; exact s7 _ _ d6
    · rw [upd_ne (ne_of (s7 _ _ b6) p7 (by intro z; cases z))]; exact s7 _ _ b6
    · rw [upd_ne (ne_of e7 p7 (by intro z; cases z))]; exact e7
end

theorem made_ob {K : PySem.W.Frag} {C : Addr} {H : Hp} {x dx0 dx L R B M : Addr} {fs : List (Str × V)} {S : MS} (hx : H x = some (.ins C dx0 fs)) (ly : H L = some (.lst (S.layers.map V.int))) (rw' : ∃ kvs, H R = some (.dK kvs) ∧ AsP (T3At K H) kvs S.rows)
    (bk : ∃ kvs, H B = some (.dK kvs) ∧ AsP (fun v o => v = bkV o) kvs S.backs) (mv : ∃ ms, H M = some (.lst ms) ∧ Paired (MoveAt K H) ms S.moves) (nLM : L ≠ M) (nRB : R ≠ B) : MadeC K C (upd H x (.ins C dx (fM L R B M))) x L R B M S := by
  obtain ⟨kr, h3, h3'⟩ := rw'
  obtain ⟨kb, h4, h4'⟩ := bk
  obtain ⟨ms, h5, h5'⟩ := mv
  have t : TKeep K H (upd H x (.ins C dx (fM L R B M))) := tk_i hx
  refine ⟨⟨dx, upd_same⟩, ?_, ⟨kr, ?_, AsP.mono (fun _ _ => T3At.keep t) h3'⟩, ⟨kb, ?_, h4'⟩, ⟨ms, ?_, Paired.mono h5' fun _ _ => MoveAt.keep t⟩, nLM, nRB⟩
  · rw [upd_ne (ne_of ly hx (by intro z; cases z))]; exact ly
  · rw [upd_ne (ne_of h3 hx (by intro z; cases z))]; exact h3
  · rw [upd_ne (ne_of h4 hx (by intro z; cases z))]; exact h4
  · rw [upd_ne (ne_of h5 hx (by intro z; cases z))]; exact h5
section
variable {P : Program} {w : World} {K : PySem.W.Frag} {mg : Str → Option Value} {base : Heap}
def sp_Made__twin (K : PySem.W.Frag) (CT : Nat → Addr) : Sp := fun vs H Q _ => ∃ (p L R B M : Addr) (S : MS), vs = [.ref p] ∧ MadeC K (CT 0) H p L R B M S ∧ ∀ (H' : Hp) (p' L' R' B' M' : Addr), MadeN K (CT 0) H H' p' L' R' B' M' S → Q (.ref p') H'
theorem ok_Made__twin {f : Addr} {fd : FuncData} (F : Fun K "twin" "Made.twin" s_Made__twin f fd) (T : Txt K mg) {CT : Nat → Addr} (TC : ClT K w mg CT) (D_Made__init : Mi P w K mg base 1 (CT 0) "Made" ["self"] (sp_Made__init K CT)) : FnOk P w K mg base CX0 3 f fd ["self"] (sp_Made__twin K CT) := by
  refine F.ok sc_Made__twin (fun vs H Q E h => ?_) (fun cdv A outer s H vs Q E hr h => ?_)
  · obtain ⟨p, L, R, B, M, S, rfl, _⟩ := h
    rfl
  · obtain ⟨p, L, R, B, M, S, rfl, c, q⟩ := h
    refine ⟨_, (pss_cons (ps_set (i := 1) sc_Made__twin.nd rfl (Or.inl rfl) (pe_new D_Made__init (hr.mono (by omega)) (by rfl)))
      (pss_cons (ps_fld (pv 1) (pe_callTy call_list_of (by rfl) T.b_list (by decide +kernel) (pa_cons (pe_fld (pv 0) rfl) pa_nil)) rfl)
      (pss_cons (ps_fld (pv 1) (pe_callTy call_dictC (by rfl) T.b_dict (by decide +kernel) (pa_cons (pe_fld (pv 0) rfl) pa_nil)) rfl)
      (pss_cons (ps_fld (pv 1) (pe_callTy call_dictC (by rfl) T.b_dict (by decide +kernel) (pa_cons (pe_fld (pv 0) rfl) pa_nil)) rfl)
      (pss_cons (ps_fld (pv 1) (pe_callTy call_list_of (by rfl) T.b_list (by decide +kernel) (pa_cons (pe_fld (pv 0) rfl) pa_nil)) rfl)
      (pss_one (ps_ret (pv 1)))))))), ?_⟩
    intro x dx nx ndx nex
    have s0 : Same H (upd (upd H dx (.own x)) x (.ins (CT 0) dx [])) := fun b o e => by
      rw [upd_ne (ne_of_none e nx), upd_ne (ne_of_none e ndx)]
      exact e
    refine ⟨H, x, dx, rfl, upd_same, s0, nx, fun H1 L1 R1 B1 M1 m1 => ⟨rfl, ?_⟩⟩
    have st := m1.s
    have c1 := c.same st
    obtain ⟨dp, cob⟩ := c1.ob
    obtain ⟨⟨d1, ob1⟩, ly1, ⟨kr1, er1, hr1⟩, ⟨kb1, eb1, hb1⟩, ⟨ms1, em1, hm1⟩, nl1, nr1⟩ := m1.c
    have nR := m1.nR
    have nB := m1.nB
    have nM := m1.nM
    -- layers
    refine ⟨_, rfl, p, _, dp, _, _, rfl, cob, TC.cM, TC.n1, fM_layers, L, _, rfl, .inl (.inl (.inl c1.ly)), fun X nX => ?_⟩
    obtain ⟨s2, e2⟩ := new_at (.lst (S.layers.map V.int)) nX
    generalize upd H1 X (.lst (S.layers.map V.int)) = H2 at s2 e2 ⊢
    have ob2 := s2 _ _ ob1
    refine ⟨_, rfl, x, _, d1, _, rfl, ob2, TC.cM, TC.n1, (by show 4 < 1000; decide), ?_⟩
    have X0 : H X = none := st.free nX
    have nXM : X ≠ M1 := fun z => by rw [z, em1] at nX; cases nX
    have c3 : MadeC K (CT 0) (upd H2 x (.ins (CT 0) d1 (putF "layers" (.ref X) (fM L1 R1 B1 M1)))) x X R1 B1 M1 ⟨S.layers, [], [], []⟩ := by
      rw [fM_p1]
      exact made_ob ob2 e2 ⟨kr1, s2 _ _ er1, AsP.mono (fun _ _ => T3At.keep (Same.tk s2)) hr1⟩ ⟨kb1, s2 _ _ eb1, hb1⟩ ⟨ms1, s2 _ _ em1, Paired.mono hm1 fun _ _ => MoveAt.keep (Same.tk s2)⟩ nXM nr1
    have st3 : Same H (upd H2 x (.ins (CT 0) d1 (putF "layers" (.ref X) (fM L1 R1 B1 M1)))) := same_n (st.trans s2) nx _
    generalize upd H2 x (.ins (CT 0) d1 (putF "layers" (.ref X) (fM L1 R1 B1 M1))) = H3 at c3 st3 ⊢
    clear ob1 er1 hr1 eb1 hb1 em1 hm1 s2 e2 ob2 cob c1 kr1 kb1 ms1
    -- rows
    have c1 := c.same st3
    obtain ⟨dp, cob⟩ := c1.ob
    obtain ⟨⟨d1, ob1⟩, ly1, ⟨kr1, er1, hr1⟩, ⟨kb1, eb1, hb1⟩, ⟨ms1, em1, hm1⟩, nl1, nr1⟩ := c3
    obtain ⟨kv, ekv, hkv⟩ := c1.rw
    refine ⟨_, rfl, p, _, dp, _, _, rfl, cob, TC.cM, TC.n2, fM_rows, R, kv, rfl, ekv, fun Y nY => ?_⟩
    obtain ⟨s2, e2⟩ := new_at (.dK kv) nY
    generalize upd H3 Y (.dK kv) = H2 at s2 e2 ⊢
    have ob2 := s2 _ _ ob1
    refine ⟨_, rfl, x, _, d1, _, rfl, ob2, TC.cM, TC.n2, (by show 4 < 1000; decide), ?_⟩
    have Y0 : H Y = none := st3.free nY
    have nYB : Y ≠ B1 := fun z => by rw [z, eb1] at nY; cases nY
    have c3 : MadeC K (CT 0) (upd H2 x (.ins (CT 0) d1 (putF "rows" (.ref Y) (fM X R1 B1 M1)))) x X Y B1 M1 ⟨S.layers, S.rows, [], []⟩ := by
      rw [fM_p2]
      exact made_ob ob2 (s2 _ _ ly1) ⟨kv, e2, AsP.mono (fun _ _ => T3At.keep (Same.tk s2)) hkv⟩ ⟨kb1, s2 _ _ eb1, hb1⟩ ⟨ms1, s2 _ _ em1, Paired.mono hm1 fun _ _ => MoveAt.keep (Same.tk s2)⟩ nXM nYB
    have st4 : Same H (upd H2 x (.ins (CT 0) d1 (putF "rows" (.ref Y) (fM X R1 B1 M1)))) := same_n (st3.trans s2) nx _
    generalize upd H2 x (.ins (CT 0) d1 (putF "rows" (.ref Y) (fM X R1 B1 M1))) = H4 at c3 st4 ⊢
    clear ob1 er1 hr1 eb1 hb1 em1 hm1 s2 e2 ob2 cob c1 kr1 kb1 ms1 ekv hkv kv ly1
    -- backs
    have c1 := c.same st4
    obtain ⟨dp, cob⟩ := c1.ob
    obtain ⟨⟨d1, ob1⟩, ly1, ⟨kr1, er1, hr1⟩, ⟨kb1, eb1, hb1⟩, ⟨ms1, em1, hm1⟩, nl1, nr1⟩ := c3
    obtain ⟨kv, ekv, hkv⟩ := c1.bk
    refine ⟨_, rfl, p, _, dp, _, _, rfl, cob, TC.cM, TC.n3, fM_backs, B, kv, rfl, ekv, fun Z nZ => ?_⟩
    obtain ⟨s2, e2⟩ := new_at (.dK kv) nZ
    generalize upd H4 Z (.dK kv) = H2 at s2 e2 ⊢
    have ob2 := s2 _ _ ob1
    refine ⟨_, rfl, x, _, d1, _, rfl, ob2, TC.cM, TC.n3, (by show 4 < 1000; decide), ?_⟩
    have Z0 : H Z = none := st4.free nZ
    have nYZ : Y ≠ Z := fun z => by rw [← z, er1] at nZ; cases nZ
    have c3 : MadeC K (CT 0) (upd H2 x (.ins (CT 0) d1 (putF "backs" (.ref Z) (fM X Y B1 M1)))) x X Y Z M1 ⟨S.layers, S.rows, S.backs, []⟩ := by
      rw [fM_p3]
      exact made_ob ob2 (s2 _ _ ly1) ⟨kr1, s2 _ _ er1, AsP.mono (fun _ _ => T3At.keep (Same.tk s2)) hr1⟩ ⟨kv, e2, hkv⟩ ⟨ms1, s2 _ _ em1, Paired.mono hm1 fun _ _ => MoveAt.keep (Same.tk s2)⟩ nXM nYZ
    have st5 : Same H (upd H2 x (.ins (CT 0) d1 (putF "backs" (.ref Z) (fM X Y B1 M1)))) := same_n (st4.trans s2) nx _
    generalize upd H2 x (.ins (CT 0) d1 (putF "backs" (.ref Z) (fM X Y B1 M1))) = H5 at c3 st5 ⊢
    clear ob1 er1 hr1 eb1 hb1 em1 hm1 s2 e2 ob2 cob c1 kr1 kb1 ms1 ekv hkv kv ly1
    -- moves
    have c1 := c.same st5
    obtain ⟨dp, cob⟩ := c1.ob
    obtain ⟨⟨d1, ob1⟩, ly1, ⟨kr1, er1, hr1⟩, ⟨kb1, eb1, hb1⟩, ⟨ms1, em1, hm1⟩, nl1, nr1⟩ := c3
    obtain ⟨mv, emv, hmv⟩ := c1.mv
    refine ⟨_, rfl, p, _, dp, _, _, rfl, cob, TC.cM, TC.n4, fM_moves, M, _, rfl, .inl (.inl (.inl emv)), fun W nW => ?_⟩
    obtain ⟨s2, e2⟩ := new_at (.lst mv) nW
    generalize upd H5 W (.lst mv) = H2 at s2 e2 ⊢
    have ob2 := s2 _ _ ob1
    refine ⟨_, rfl, x, _, d1, _, rfl, ob2, TC.cM, TC.n4, (by show 4 < 1000; decide), ?_⟩
    have W0 : H W = none := st5.free nW
    have nXW : X ≠ W := fun z => by rw [← z, ly1] at nW; cases nW
    have c3 : MadeC K (CT 0) (upd H2 x (.ins (CT 0) d1 (putF "moves" (.ref W) (fM X Y Z M1)))) x X Y Z W S := by
      rw [fM_p4]
      exact made_ob ob2 (s2 _ _ ly1) ⟨kr1, s2 _ _ er1, AsP.mono (fun _ _ => T3At.keep (Same.tk s2)) hr1⟩ ⟨kb1, s2 _ _ eb1, hb1⟩ ⟨mv, e2, Paired.mono hmv fun _ _ => MoveAt.keep (Same.tk s2)⟩ nXW nr1
    exact ⟨_, rfl, q _ x X Y Z W ⟨same_n (st5.trans s2) nx _, c3, nx, X0, Y0, Z0, W0⟩⟩
end

section
variable {K : PySem.W.Frag} {C : Addr} {H0 H : Hp} {p L R B M : Addr} {S : MS}
theorem MadeN.rows (h : MadeN K C H0 H p L R B M S) {rows : List (Int × T3)} {kvs : List (Key × V)} (hk : AsP (T3At K H) kvs rows) : MadeN K C H0 (upd H R (.dK kvs)) p L R B M { S with rows := rows } := by
  obtain ⟨s, c, np, nL, nR, nB, nM⟩ := h
  obtain ⟨a1, a2, a3, a4, a5, a6, a7, a8⟩ := c.nn
  obtain ⟨⟨dx, h1⟩, h2, ⟨kr, h3, h3'⟩, ⟨kb, h4, h4'⟩, ⟨ms, h5, h5'⟩, nl, nr⟩ := c
  have t : TKeep K H (upd H R (.dK kvs)) := tk_d h3
  exact ⟨same_n s nR _, ⟨⟨dx, by rw [upd_ne a2]; exact h1⟩, by rw [upd_ne a5]; exact h2, ⟨kvs, upd_same, AsP.mono (fun _ _ => T3At.keep t) hk⟩, ⟨kb, by rw [upd_ne (Ne.symm nr)]; exact h4, h4'⟩, ⟨ms, by rw [upd_ne (Ne.symm a7)]; exact h5, Paired.mono h5' fun _ _ => MoveAt.keep t⟩, nl, nr⟩, np, nL, nR, nB, nM⟩
theorem MadeN.backs (h : MadeN K C H0 H p L R B M S) {bs : List (Int × Option Int)} {kvs : List (Key × V)} (hk : AsP (fun v o => v = bkV o) kvs bs) : MadeN K C H0 (upd H B (.dK kvs)) p L R B M { S with backs := bs } := by
  obtain ⟨s, c, np, nL, nR, nB, nM⟩ := h
  obtain ⟨a1, a2, a3, a4, a5, a6, a7, a8⟩ := c.nn
  obtain ⟨⟨dx, h1⟩, h2, ⟨kr, h3, h3'⟩, ⟨kb, h4, h4'⟩, ⟨ms, h5, h5'⟩, nl, nr⟩ := c
  have t : TKeep K H (upd H B (.dK kvs)) := tk_d h4
  exact ⟨same_n s nB _, ⟨⟨dx, by rw [upd_ne a3]; exact h1⟩, by rw [upd_ne a6]; exact h2, ⟨kr, by rw [upd_ne nr]; exact h3, AsP.mono (fun _ _ => T3At.keep t) h3'⟩, ⟨kvs, upd_same, hk⟩, ⟨ms, by rw [upd_ne (Ne.symm a8)]; exact h5, Paired.mono h5' fun _ _ => MoveAt.keep t⟩, nl, nr⟩, np, nL, nR, nB, nM⟩
theorem MadeN.layers (h : MadeN K C H0 H p L R B M S) (ns : List Int) : MadeN K C H0 (upd H L (.lst (ns.map V.int))) p L R B M { S with layers := ns } := by
  obtain ⟨s, c, np, nL, nR, nB, nM⟩ := h
  obtain ⟨a1, a2, a3, a4, a5, a6, a7, a8⟩ := c.nn
  obtain ⟨⟨dx, h1⟩, h2, ⟨kr, h3, h3'⟩, ⟨kb, h4, h4'⟩, ⟨ms, h5, h5'⟩, nl, nr⟩ := c
  have t : TKeep K H (upd H L (.lst (ns.map V.int))) := fun a zs h => tk_updL h2 _ _ h
  exact ⟨same_n s nL _, ⟨⟨dx, by rw [upd_ne a1]; exact h1⟩, upd_same, ⟨kr, by rw [upd_ne (Ne.symm a5)]; exact h3, AsP.mono (fun _ _ => T3At.keep t) h3'⟩, ⟨kb, by rw [upd_ne (Ne.symm a6)]; exact h4, h4'⟩, ⟨ms, by rw [upd_ne (Ne.symm nl)]; exact h5, Paired.mono h5' fun _ _ => MoveAt.keep t⟩, nl, nr⟩, np, nL, nR, nB, nM⟩
theorem MadeN.moves (h : MadeN K C H0 H p L R B M S) {ms' : List V} {mv : List MV} (hm : Paired (MoveAt K H) ms' mv) : MadeN K C H0 (upd H M (.lst ms')) p L R B M { S with moves := mv } := by
  obtain ⟨s, c, np, nL, nR, nB, nM⟩ := h
  obtain ⟨a1, a2, a3, a4, a5, a6, a7, a8⟩ := c.nn
  obtain ⟨⟨dx, h1⟩, h2, ⟨kr, h3, h3'⟩, ⟨kb, h4, h4'⟩, ⟨ms, h5, h5'⟩, nl, nr⟩ := c
  have t : TKeep K H (upd H M (.lst ms')) := fun a zs h => tk_updL h5 _ _ h
  exact ⟨same_n s nM _, ⟨⟨dx, by rw [upd_ne a4]; exact h1⟩, by rw [upd_ne nl]; exact h2, ⟨kr, by rw [upd_ne a7]; exact h3, AsP.mono (fun _ _ => T3At.keep t) h3'⟩, ⟨kb, by rw [upd_ne a8]; exact h4, h4'⟩, ⟨ms', upd_same, Paired.mono hm fun _ _ => MoveAt.keep t⟩, nl, nr⟩, np, nL, nR, nB, nM⟩
theorem MadeN.same (h : MadeN K C H0 H p L R B M S) {H' : Hp} (s' : Same H H') : MadeN K C H0 H' p L R B M S := ⟨h.s.trans s', h.c.same s', h.np, h.nL, h.nR, h.nB, h.nM⟩
end
/-- a deed of a row: its word, the row, what comes -/
inductive RowDeed : Dd → Int → Int → Prop
  | draw (r d : Int) : RowDeed (.draw r d) r d
  | hold (r h : Int) : RowDeed (.hold r h) r h
  | drop (r : Int) : RowDeed (.drop r) r r
  | round (r : Int) : RowDeed (.round r) r r
theorem ifY {b : Bool} {A B : Prop} (e : b = true) (h : A) : if b = true then A else B := by rw [if_pos e]; exact h
theorem ifN {b : Bool} {A B : Prop} (e : b = false) (h : B) : if b = true then A else B := by rw [if_neg (by rw [e]; decide)]; exact h
theorem sv_no {a b : Str} (h : a ≠ b) : decide (V.str a = .str b) = false := decide_eq_false fun z => h (V.str.inj z)
theorem sv_ne {a b : Str} (h : a ≠ b) : ¬ decide (V.str a = .str b) = true := fun z => h (V.str.inj (of_decide_eq_true z))
section
variable {P : Program} {w : World} {K : PySem.W.Frag} {mg : Str → Option Value} {base : Heap}
def sp_Made__follow_row (K : PySem.W.Frag) (CT : Nat → Addr) : Sp := fun vs H Q _ => ∃ (H0 : Hp) (p L R B M : Addr) (S : MS) (δ : Dd) (r nw n : Int), vs = [.ref p, .str δ.word, .int r, .int nw] ∧ RowDeed δ r nw ∧ rowOk S δ ∧ S.small 500 ∧ MadeN K (CT 0) H0 H p L R B M S ∧ ∀ H', MadeN K (CT 0) H0 H' p L R B M (fol S n δ) → Q .non H'
theorem ok_Made__follow_row {f : Addr} {fd : FuncData} (F : Fun K "follow_row" "Made.follow_row" s_Made__follow_row f fd) (T : Txt K mg) {CT : Nat → Addr} (TC : ClT K w mg CT) : FnOk P w K mg base CX0 1 f fd ["self", "word", "row", "new"] (sp_Made__follow_row K CT) := by
  refine F.ok sc_Made__follow_row (fun vs H Q E h => ?_) (fun cdv A outer s H vs Q E hr h => ?_)
  · obtain ⟨H0, p, L, R, B, M, S, δ, r, nw, n, rfl, _⟩ := h
    rfl
  · obtain ⟨H0, p, L, R, B, M, S, δ, r, nw, n, rfl, hd, hok, sm, m, q⟩ := h
    obtain ⟨dx, hob⟩ := m.c.ob
    obtain ⟨kvs, hR, hA⟩ := m.c.rw
    obtain ⟨kb, hB, hBk⟩ := m.c.bk
    have lk : kvs.length ≤ 500 := by rw [AsP.len hA]; exact sm.2.1
    have lb : kb.length ≤ 500 := by rw [AsP.len hBk]; exact sm.2.2.1
    obtain ⟨x, hx⟩ : ∃ x, asV S.rows r = some x := by
      cases hd <;> exact Option.isSome_iff_exists.mp hok
    obtain ⟨v, hv, px, rfl, hpx⟩ : ∃ v, valV kvs (Sum.inl r) = some v ∧ T3At K H v x := by
      rcases AsP.val hA r with ⟨e, _⟩ | ⟨x', v, e1, e2, e3⟩
      · rw [hx] at e; cases e
      · rw [hx] at e1; cases e1; exact ⟨v, e2, e3⟩
    refine ⟨_, (pss_cons (ps_asg (pe_dget (Nat.lt_of_le_of_lt (Nat.add_le_add_left (show 1 ≤ 64 by decide) _) hr.units) (pe_fld (pv 0) rfl) (pv 2) (fun _ _ => rfl)) (pg_tup (by rfl) (pgs_cons (pg_name (i := 4) sc_Made__follow_row.nd rfl (Or.inl rfl)) (pgs_cons (pg_name (i := 5) sc_Made__follow_row.nd rfl (Or.inl rfl)) (pgs_cons (pg_name (i := 6) sc_Made__follow_row.nd rfl (Or.inl rfl)) pgs_nil)))))
      (pss_one (ps_if (pt_cmpR op_eq (pv 1) pe_str (nomark _)) (pss_one (ps_dput (Nat.lt_of_le_of_lt (Nat.add_le_add_left (show 1 ≤ 64 by decide) _) hr.units) (pe_fld (pv 0) rfl) (pv 2) (pe_tup (pa_cons (pv 4) (pa_cons (pv 3) (pa_cons (pv 6) pa_nil)))) rfl)) (pss_one (ps_if (pt_cmpR op_eq (pv 1) pe_str (nomark _)) (pss_one (ps_dput (Nat.lt_of_le_of_lt (Nat.add_le_add_left (show 1 ≤ 64 by decide) _) hr.units) (pe_fld (pv 0) rfl) (pv 2) (pe_tup (pa_cons (pv 4) (pa_cons (pv 5) (pa_cons (pv 3) pa_nil)))) rfl)) (pss_one (ps_if (pt_cmpR op_eq (pv 1) pe_str (nomark _)) (pss_one (ps_dput (Nat.lt_of_le_of_lt (Nat.add_le_add_left (show 1 ≤ 64 by decide) _) hr.units) (pe_fld (pv 0) rfl) (pv 4) (pv 2) rfl)) (pss_one (ps_ddel (pe_fld (pv 0) rfl) (pv 2)))))))))), ?_⟩
    have hg : DGet H R (.int r) (some (.ref px)) := by rw [← hv]; exact DGet.k (k := Sum.inl r) hR
    refine ⟨_, rfl, p, _, dx, _, _, rfl, hob, TC.cM, TC.n2, fM_rows, _, rfl, R, _, rfl, hg, px, _, rfl, hpx, rfl, _, _, rfl, _, _, rfl, _, _, rfl, rfl, ?_⟩
    cases hd with
    | draw =>
      refine ⟨_, rfl, rfl, _, rfl, ifY (decide_eq_true rfl) ?_⟩
      refine ⟨_, rfl, _, rfl, _, rfl, (by show 3 ≤ sizeLine; decide), fun y ny => ?_⟩
      obtain ⟨s1, e1⟩ := new_at (.tup [.int x.1, .int nw, .int x.2.2]) ny
      generalize upd H y (.tup [.int x.1, .int nw, .int x.2.2]) = H1 at s1 e1 ⊢
      refine ⟨_, rfl, p, _, dx, _, _, rfl, s1 _ _ hob, TC.cM, TC.n2, fM_rows, _, rfl, R, _, rfl, DPut.k (k := Sum.inl r) (s1 _ _ hR) (small1000 (by omega)), ?_⟩
      refine q _ ?_
      rw [fol_draw hx]
      exact (m.same s1).rows (AsP.put (AsP.mono (fun _ _ => T3At.keep (Same.tk s1)) hA) ⟨y, rfl, .inl (.inl e1)⟩)
    | hold =>
      refine ⟨_, rfl, rfl, _, rfl, ifN (sv_no (a := "hold") (b := "draw") (by decide +kernel)) ?_⟩
      refine ⟨_, rfl, rfl, _, rfl, ifY (decide_eq_true rfl) ?_⟩
      refine ⟨_, rfl, _, rfl, _, rfl, (by show 3 ≤ sizeLine; decide), fun y ny => ?_⟩
      obtain ⟨s1, e1⟩ := new_at (.tup [.int x.1, .int x.2.1, .int nw]) ny
      generalize upd H y (.tup [.int x.1, .int x.2.1, .int nw]) = H1 at s1 e1 ⊢
      refine ⟨_, rfl, p, _, dx, _, _, rfl, s1 _ _ hob, TC.cM, TC.n2, fM_rows, _, rfl, R, _, rfl, DPut.k (k := Sum.inl r) (s1 _ _ hR) (small1000 (by omega)), ?_⟩
      refine q _ ?_
      rw [fol_hold hx]
      exact (m.same s1).rows (AsP.put (AsP.mono (fun _ _ => T3At.keep (Same.tk s1)) hA) ⟨y, rfl, .inl (.inl e1)⟩)
    | drop =>
      refine ⟨_, rfl, rfl, _, rfl, ifN (sv_no (a := "drop") (b := "draw") (by decide +kernel)) ?_⟩
      refine ⟨_, rfl, rfl, _, rfl, ifN (sv_no (a := "drop") (b := "hold") (by decide +kernel)) ?_⟩
      refine ⟨_, rfl, rfl, _, rfl, ifN (sv_no (a := "drop") (b := "round") (by decide +kernel)) ?_⟩
      refine ⟨_, rfl, p, _, dx, _, _, rfl, hob, TC.cM, TC.n2, fM_rows, _, rfl, R, kvs, Sum.inl r, rfl, hR, rfl, (by rw [hv]; rfl), ?_⟩
      exact q _ (m.rows (AsP.drop hA r))
    | round =>
      refine ⟨_, rfl, rfl, _, rfl, ifN (sv_no (a := "round") (b := "draw") (by decide +kernel)) ?_⟩
      refine ⟨_, rfl, rfl, _, rfl, ifN (sv_no (a := "round") (b := "hold") (by decide +kernel)) ?_⟩
      refine ⟨_, rfl, rfl, _, rfl, ifY (decide_eq_true rfl) ?_⟩
      refine ⟨_, rfl, _, rfl, p, _, dx, _, _, rfl, hob, TC.cM, TC.n3, fM_backs, _, rfl, B, _, rfl, DPut.k (k := Sum.inl x.1) hB (small1000 (by omega)), ?_⟩
      refine q _ ?_
      rw [fol_round hx]
      exact m.backs (AsP.put hBk rfl)
def sp_Made__follow (K : PySem.W.Frag) (CT : Nat → Addr) : Sp := fun vs H Q _ => ∃ (H0 : Hp) (p L R B M : Addr) (S : MS) (δ : Dd) (v : V) (n : Int), vs = [.ref p, .int n, v] ∧ DeedAt K H v δ ∧ rowOk S δ ∧ S.small 500 ∧ MadeN K (CT 0) H0 H p L R B M S ∧ ∀ H', MadeN K (CT 0) H0 H' p L R B M (fol S n δ) → Q .non H'
theorem ok_Made__follow {f : Addr} {fd : FuncData} (F : Fun K "follow" "Made.follow" s_Made__follow f fd) (T : Txt K mg) {CT : Nat → Addr} (TC : ClT K w mg CT) (D_Made__follow_row : Ml P w K mg base 1 (CT 0) "follow_row" ["self", "word", "row", "new"] (sp_Made__follow_row K CT)) : FnOk P w K mg base CX0 2 f fd ["self", "number", "deed"] (sp_Made__follow K CT) := by
  refine F.ok sc_Made__follow (fun vs H Q E h => ?_) (fun cdv A outer s H vs Q E hr h => ?_)
  · obtain ⟨H0, p, L, R, B, M, S, δ, v, n, rfl, _⟩ := h
    rfl
  · obtain ⟨H0, p, L, R, B, M, S, δ, v, n, rfl, ⟨y, rfl, hy⟩, hok, sm, m, q⟩ := h
    obtain ⟨dx, hob⟩ := m.c.ob
    obtain ⟨kvs, hR, hA⟩ := m.c.rw
    obtain ⟨kb, hB, hBk⟩ := m.c.bk
    obtain ⟨ms, hM, hMs⟩ := m.c.mv
    have hL := m.c.ly
    have lk : kvs.length ≤ 500 := by rw [AsP.len hA]; exact sm.2.1
    have lb : kb.length ≤ 500 := by rw [AsP.len hBk]; exact sm.2.2.1
    have ll : S.layers.length ≤ 500 := sm.1
    have lm : ms.length ≤ 500 := by rw [Paired.length hMs]; exact sm.2.2.2
    have noF : (fM L R B M).lookup ("follow_row" : Str) = none := rfl
    refine ⟨_, (pss_cons (ps_set (i := 3) sc_Made__follow.nd rfl (Or.inl rfl) (pe_ix ix_tup (pv 2) pe_int (fun _ _ => rfl)))
      (pss_one (ps_if (pt_cmpR op_eq (pv 3) pe_str (nomark _)) (pss_one (ps_expr (pe_bm PySem.F.plainAttrs_list PySem.F.slot_list_append PySem.F.type_list_append mt_append (pe_fld (pv 0) rfl) (pa_cons (pv 1) pa_nil)))) (pss_one (ps_if (pt_cmpR op_eq (pv 3) pe_str (nomark _)) (pss_one (ps_dput (Nat.lt_of_le_of_lt (Nat.add_le_add_left (show 1 ≤ 64 by decide) _) hr.units) (pe_fld (pv 0) rfl) (pv 1) (pe_slice sl_tupA (pv 2) (po_some pe_int) po_none) rfl)) (pss_one (ps_if (pt_cmpR op_eq (pv 3) pe_str (nomark _)) (pss_one (ps_dput (Nat.lt_of_le_of_lt (Nat.add_le_add_left (show 1 ≤ 64 by decide) _) hr.units) (pe_fld (pv 0) rfl) (pe_ix ix_tup (pv 2) pe_int (fun _ _ => rfl)) pe_non rfl)) (pss_one (ps_if (pt_cmpR op_eq (pv 3) pe_str (nomark _)) (pss_one (ps_expr (pe_bm PySem.F.plainAttrs_list PySem.F.slot_list_append PySem.F.type_list_append mt_append (pe_fld (pv 0) rfl) (pa_cons (pe_slice sl_tupA (pv 2) (po_some pe_int) po_none) pa_nil)))) (pss_one (ps_expr (pe_mth D_Made__follow_row TC.cM (hr.mono (by omega)) (pv 0) (pa_cons (pv 3) (pa_cons (pe_ix ix_tup (pv 2) pe_int (fun _ _ => rfl)) (pa_cons (pe_ix ix_tup (pv 2) (pe_un un_neg pe_int) (fun _ _ => rfl)) pa_nil))))))))))))))), ?_⟩
    refine ⟨_, rfl, y, _, 0, .str δ.word, rfl, rfl, hy, at0, ?_⟩
    cases δ with
    | layer =>
      refine ⟨_, rfl, rfl, _, rfl, ifY (decide_eq_true rfl) ?_⟩
      refine ⟨_, rfl, p, _, dx, _, _, rfl, hob, TC.cM, TC.n1, fM_layers, .inl ⟨rfl, _, .inl (.inl hL)⟩, _, rfl, L, _, _, rfl, rfl, hL, small1000 (by rw [List.length_map]; omega), ?_⟩
      rw [show S.layers.map V.int ++ [V.int n] = (S.layers ++ [n]).map V.int by rw [List.map_append]; rfl]
      exact q _ (m.layers _)
    | row l d h =>
      refine ⟨_, rfl, rfl, _, rfl, ifN (sv_no (a := "row") (b := "layer") (by decide +kernel)) ?_⟩
      refine ⟨_, rfl, rfl, _, rfl, ifY (decide_eq_true rfl) ?_⟩
      refine ⟨_, rfl, 1, rfl, y, _, rfl, hy, fun z => absurd z.1 (by show ¬ (1 : Nat) = 0; decide), fun _ t nt => ?_⟩
      obtain ⟨s1, e1⟩ := new_at (.tup [.int l, .int d, .int h]) nt
      have e1' : upd H t (.tup (cutV (ddV (.row l d h)) (some 1) none)) t = some (.tup [.int l, .int d, .int h]) := e1
      have s1' : Same H (upd H t (.tup (cutV (ddV (.row l d h)) (some 1) none))) := s1
      generalize upd H t (.tup (cutV (ddV (.row l d h)) (some 1) none)) = H1 at s1' e1' ⊢
      refine ⟨_, rfl, p, _, dx, _, _, rfl, s1' _ _ hob, TC.cM, TC.n2, fM_rows, _, rfl, R, _, rfl, DPut.k (k := Sum.inl n) (s1' _ _ hR) (small1000 (by omega)), ?_⟩
      exact q _ ((m.same s1').rows (AsP.put (AsP.mono (fun _ _ => T3At.keep (Same.tk s1')) hA) ⟨t, rfl, .inl (.inl e1')⟩))
    | straight l =>
      refine ⟨_, rfl, rfl, _, rfl, ifN (sv_no (a := "straight") (b := "layer") (by decide +kernel)) ?_⟩
      refine ⟨_, rfl, rfl, _, rfl, ifN (sv_no (a := "straight") (b := "row") (by decide +kernel)) ?_⟩
      refine ⟨_, rfl, rfl, _, rfl, ifY (decide_eq_true rfl) ?_⟩
      refine ⟨_, rfl, p, _, dx, _, _, rfl, hob, TC.cM, TC.n3, fM_backs, _, rfl, y, _, 1, .int l, rfl, rfl, hy, at_n 1 rfl, B, _, rfl, DPut.k (k := Sum.inl l) hB (small1000 (by omega)), ?_⟩
      exact q _ (m.backs (AsP.put hBk rfl))
    | move a b c =>
      refine ⟨_, rfl, rfl, _, rfl, ifN (sv_no (a := "move") (b := "layer") (by decide +kernel)) ?_⟩
      refine ⟨_, rfl, rfl, _, rfl, ifN (sv_no (a := "move") (b := "row") (by decide +kernel)) ?_⟩
      refine ⟨_, rfl, rfl, _, rfl, ifN (sv_no (a := "move") (b := "straight") (by decide +kernel)) ?_⟩
      refine ⟨_, rfl, rfl, _, rfl, ifY (decide_eq_true rfl) ?_⟩
      refine ⟨_, rfl, p, _, dx, _, _, rfl, hob, TC.cM, TC.n4, fM_moves, .inl ⟨rfl, _, .inl (.inl hM)⟩, ?_⟩
      refine ⟨_, rfl, 1, rfl, y, _, rfl, hy, fun z => absurd z.1 (by show ¬ (1 : Nat) = 0; decide), fun _ t nt => ?_⟩
      obtain ⟨s1, e1⟩ := new_at (.tup [.int a, .int b, .int c]) nt
      have e1' : upd H t (.tup (cutV (ddV (.move a b c)) (some 1) none)) t = some (.tup [.int a, .int b, .int c]) := e1
      have s1' : Same H (upd H t (.tup (cutV (ddV (.move a b c)) (some 1) none))) := s1
      generalize upd H t (.tup (cutV (ddV (.move a b c)) (some 1) none)) = H1 at s1' e1' ⊢
      refine ⟨M, _, _, rfl, rfl, s1' _ _ hM, small1000 (by omega), ?_⟩
      exact q _ ((m.same s1').moves (Paired.snocP (Paired.mono hMs fun _ _ => MoveAt.keep (Same.tk s1')) ⟨t, rfl, .inl (.inl e1')⟩))
    | draw r d =>
      refine ⟨_, rfl, rfl, _, rfl, ifN (sv_no (a := "draw") (b := "layer") (by decide +kernel)) ⟨_, rfl, rfl, _, rfl, ifN (sv_no (a := "draw") (b := "row") (by decide +kernel)) ⟨_, rfl, rfl, _, rfl, ifN (sv_no (a := "draw") (b := "straight") (by decide +kernel)) ⟨_, rfl, rfl, _, rfl, ifN (sv_no (a := "draw") (b := "move") (by decide +kernel)) ?_⟩⟩⟩⟩
      exact ⟨_, rfl, p, dx, _, rfl, hob, noF, _, rfl, _, rfl, y, _, 1, .int r, rfl, rfl, hy, at_n 1 rfl, _, rfl, 1, rfl, y, _, -1, .int d, rfl, rfl, hy, at_last rfl, H0, p, L, R, B, M, S, .draw r d, r, d, n, rfl, .draw r d, hok, sm, m, q⟩
    | hold r d =>
      refine ⟨_, rfl, rfl, _, rfl, ifN (sv_no (a := "hold") (b := "layer") (by decide +kernel)) ⟨_, rfl, rfl, _, rfl, ifN (sv_no (a := "hold") (b := "row") (by decide +kernel)) ⟨_, rfl, rfl, _, rfl, ifN (sv_no (a := "hold") (b := "straight") (by decide +kernel)) ⟨_, rfl, rfl, _, rfl, ifN (sv_no (a := "hold") (b := "move") (by decide +kernel)) ?_⟩⟩⟩⟩
      exact ⟨_, rfl, p, dx, _, rfl, hob, noF, _, rfl, _, rfl, y, _, 1, .int r, rfl, rfl, hy, at_n 1 rfl, _, rfl, 1, rfl, y, _, -1, .int d, rfl, rfl, hy, at_last rfl, H0, p, L, R, B, M, S, .hold r d, r, d, n, rfl, .hold r d, hok, sm, m, q⟩
    | drop r =>
      refine ⟨_, rfl, rfl, _, rfl, ifN (sv_no (a := "drop") (b := "layer") (by decide +kernel)) ⟨_, rfl, rfl, _, rfl, ifN (sv_no (a := "drop") (b := "row") (by decide +kernel)) ⟨_, rfl, rfl, _, rfl, ifN (sv_no (a := "drop") (b := "straight") (by decide +kernel)) ⟨_, rfl, rfl, _, rfl, ifN (sv_no (a := "drop") (b := "move") (by decide +kernel)) ?_⟩⟩⟩⟩
      exact ⟨_, rfl, p, dx, _, rfl, hob, noF, _, rfl, _, rfl, y, _, 1, .int r, rfl, rfl, hy, at_n 1 rfl, _, rfl, 1, rfl, y, _, -1, .int r, rfl, rfl, hy, at_last rfl, H0, p, L, R, B, M, S, .drop r, r, r, n, rfl, .drop r, hok, sm, m, q⟩
    | round r =>
      refine ⟨_, rfl, rfl, _, rfl, ifN (sv_no (a := "round") (b := "layer") (by decide +kernel)) ⟨_, rfl, rfl, _, rfl, ifN (sv_no (a := "round") (b := "row") (by decide +kernel)) ⟨_, rfl, rfl, _, rfl, ifN (sv_no (a := "round") (b := "straight") (by decide +kernel)) ⟨_, rfl, rfl, _, rfl, ifN (sv_no (a := "round") (b := "move") (by decide +kernel)) ?_⟩⟩⟩⟩
      exact ⟨_, rfl, p, dx, _, rfl, hob, noF, _, rfl, _, rfl, y, _, 1, .int r, rfl, rfl, hy, at_n 1 rfl, _, rfl, 1, rfl, y, _, -1, .int r, rfl, rfl, hy, at_last rfl, H0, p, L, R, B, M, S, .round r, r, r, n, rfl, .round r, hok, sm, m, q⟩
end

section
variable {P : Program} {w : World} {K : PySem.W.Frag} {mg : Str → Option Value} {base : Heap}
theorem isW_of {d : PyData} {l m : Int} (h : isB d = true ∨ isI d = false) : isW d l m = false := by
  cases d <;> first | rfl | (rcases h with h | h <;> cases h)
def isWf (d : PyData) (l : Int) : Bool := match d with
  | .int n => decide (l ≤ n)
  | _ => false
theorem isWf_of {d : PyData} {l : Int} (h : isB d = true ∨ isI d = false) : isWf d l = false := by
  cases d <;> first | rfl | (rcases h with h | h <;> cases h)
theorem isWf_int {d : PyData} {l : Int} (h : isWf d l = true) : ∃ n, d = .int n ∧ l ≤ n := by
  cases d with
  | int n => exact ⟨n, rfl, of_decide_eq_true h⟩
  | _ => cases h
theorem isWf_no {d : PyData} {l m : Int} (h : isWf d l = false) : isW d l m = false := by
  cases d with
  | int n =>
    have e : ¬ l ≤ n := of_decide_eq_false h
    simp [isW, e]
  | _ => rfl
def sp_is_whole_from (K : PySem.W.Frag) : Sp := fun vs H Q _ => ∃ (fx : Hp) (b : Bool) (v : V) (d : PyData) (l : Int), vs = [v, .int l] ∧ Dg K fx H b v d ∧ Q (.bl (isWf d l)) H
theorem ok_is_whole_from {f : Addr} {fd : FuncData} (F : Fun K "is_whole_from" "is_whole_from" s_is_whole_from f fd) (T : Txt K mg) : FnOk P w K mg base CX0 1 f fd ["thing", "least"] (sp_is_whole_from K) := by
  refine F.ok sc_is_whole_from (fun vs H Q E h => ?_) (fun cdv A outer s H vs Q E hr h => ?_)
  · obtain ⟨fx, b, v, d, l, rfl, q⟩ := h
    rfl
  · obtain ⟨fx, b, v, d, l, rfl, hd, q⟩ := h
    refine ⟨_, (pss_cons (ps_if (PW.pt (pw_or (pt_val (pe_callB call_isi (by rfl) T.b_isinstance (by decide +kernel) (pa_cons (pv 0) (pa_cons (pe_bltn (v := .ty "bool") (by rfl) T.b_bool (by decide +kernel) rfl) pa_nil)))) (pw_or1 (pt_not (pt_val (pe_callB call_isi (by rfl) T.b_isinstance (by decide +kernel) (pa_cons (pv 0) (pa_cons (pe_bltn (v := .ty "int") (by rfl) T.b_int (by decide +kernel) rfl) pa_nil)))))))) (pss_one (ps_ret pe_bl)) pss_nil)
      (pss_one (ps_ret (pe_cmpR op_le (pv 1) (pv 0) (nomark _))))), ?_⟩
    refine ⟨_, rfl, _, _, _, _, _, rfl, .ty _, hd.ty, kit_ty (kB d), _, rfl, ite2 (fun e => ?_) (fun e => ?_)⟩
    · rw [isWf_of (.inl e)] at q
      exact iteT q
    · refine ⟨_, rfl, _, _, _, _, _, rfl, .ty _, hd.ty, kit_ty (kI d), _, rfl, ?_⟩
      cases hi : isI d with
      | false =>
        rw [isWf_of (.inr hi)] at q
        exact iteT q
      | true =>
        refine iteF ?_
        cases hd with
        | bl x => exact absurd rfl e
        | int n => exact ⟨_, rfl, _, rfl, l, n, rfl, rfl, q⟩
        | non => cases hi
        | str x => cases hi
        | tup h q => cases hi
        | lst n h q => cases hi
        | dic0 n h => cases hi
        | dic1 n h => cases hi
theorem dg_int {K : PySem.W.Frag} {fx H : Hp} {b : Bool} {v : V} {n : Int} (h : Dg K fx H b v (.int n)) : v = .int n := by
  cases h
  rfl
def sp_is_whole (K : PySem.W.Frag) : Sp := fun vs H Q _ => ∃ (fx : Hp) (b : Bool) (v : V) (d : PyData) (l m : Int), vs = [v, .int l, .int m] ∧ Dg K fx H b v d ∧ Q (.bl (isW d l m)) H
theorem ok_is_whole {f : Addr} {fd : FuncData} (F : Fun K "is_whole" "is_whole" s_is_whole f fd) (T : Txt K mg) (D_is_whole_from : Cl P w K mg base 1 "is_whole_from" ["thing", "least"] (sp_is_whole_from K)) : FnOk P w K mg base CX0 2 f fd ["thing", "least", "most"] (sp_is_whole K) := by
  refine F.ok sc_is_whole (fun vs H Q E h => ?_) (fun cdv A outer s H vs Q E hr h => ?_)
  · obtain ⟨fx, b, v, d, l, m, rfl, q⟩ := h
    rfl
  · obtain ⟨fx, b, v, d, l, m, rfl, hd, q⟩ := h
    refine ⟨_, (pss_one (ps_ret (pe_and (pe_own D_is_whole_from (hr.mono (by omega)) (by rfl) (pa_cons (pv 0) (pa_cons (pv 1) pa_nil))) (pe_one (pe_cmpR op_le (pv 0) (pv 2) (nomark _)))))), ?_⟩
    refine ⟨_, rfl, _, rfl, fx, b, v, d, l, rfl, hd, _, rfl, ?_⟩
    cases e : isWf d l with
    | false =>
      rw [isWf_no e] at q
      exact iteF q
    | true =>
      obtain ⟨n, rfl, e1⟩ := isWf_int e
      have ev := dg_int hd
      subst ev
      refine iteT ⟨_, rfl, _, rfl, n, m, rfl, rfl, ?_⟩
      rw [show isW (.int n) l m = decide (n ≤ m) by simp [isW, e1]] at q
      exact q
def sp_is_tuple (K : PySem.W.Frag) : Sp := fun vs H Q _ => ∃ (fx : Hp) (b : Bool) (v : V) (d : PyData) (l m : Int), vs = [v, .int l, .int m] ∧ Dg K fx H b v d ∧ Q (.bl (isTup d l m)) H
theorem ok_is_tuple {f : Addr} {fd : FuncData} (F : Fun K "is_tuple" "is_tuple" s_is_tuple f fd) (T : Txt K mg) : FnOk P w K mg base CX0 1 f fd ["thing", "least", "most"] (sp_is_tuple K) := by
  refine F.ok sc_is_tuple (fun vs H Q E h => ?_) (fun cdv A outer s H vs Q E hr h => ?_)
  · obtain ⟨fx, b, v, d, l, m, rfl, q⟩ := h
    rfl
  · obtain ⟨fx, b, v, d, l, m, rfl, hd, q⟩ := h
    refine ⟨_, (pss_one (ps_ret (pe_and (pe_callB call_isi (by rfl) T.b_isinstance (by decide +kernel) (pa_cons (pv 0) (pa_cons (pe_bltn (v := .ty "tuple") (by rfl) T.b_tuple (by decide +kernel) rfl) pa_nil))) (pe_one (pe_chain op_le op_le (pv 1) (pe_callB call_len_seq (by rfl) T.b_len (by decide +kernel) (pa_cons (pv 0) pa_nil)) (pv 2)))))), ?_⟩
    refine ⟨_, rfl, _, _, _, _, _, rfl, .ty _, hd.ty, kit_ty (kT d), _, rfl, ?_⟩
    cases hd with
    | @tup b a xs ds ha hall =>
      have hl := DgAll.len hall
      refine iteT ⟨_, rfl, _, rfl, a, xs, rfl, .inr ha, l, _, rfl, rfl, _, rfl, ite2 (fun e => ?_) (fun e => ?_)⟩
      · refine ⟨_, rfl, _, m, rfl, rfl, ?_⟩
        have e1 : l ≤ (xs.length : Int) := of_decide_eq_true e
        rw [show isTup (.tuple ds) l m = decide ((xs.length : Int) ≤ m) by simp [isTup, ← hl, e1]] at q
        exact q
      · have e1 : ¬ l ≤ (xs.length : Int) := fun z => e (decide_eq_true z)
        rw [show isTup (.tuple ds) l m = false by simp [isTup, ← hl, e1]] at q
        exact q
    | non => exact iteF q
    | bl x => exact iteF q
    | int i => exact iteF q
    | str x => exact iteF q
    | lst n h q' => exact iteF q
    | dic0 n h => exact iteF q
    | dic1 n h => exact iteF q
theorem tup_of {K : PySem.W.Frag} {fx : Hp} {H : Hp} {b : Bool} {v : V} {d : PyData} {l m : Int} (h : Dg K fx H b v d) (e : isTup d l m = true) : ∃ a xs ds, v = .ref a ∧ d = .tuple ds ∧ SqT K H a xs ∧ DgAll K fx H b xs ds ∧ l ≤ (ds.length : Int) ∧ (ds.length : Int) ≤ m := by
  cases h with
  | @tup b a xs ds ha hall =>
    have := of_decide_eq_true (show decide (l ≤ (ds.length : Int) ∧ (ds.length : Int) ≤ m) = true from e)
    exact ⟨a, xs, ds, rfl, rfl, ha, hall, this.1, this.2⟩
  | non => cases e
  | bl x => cases e
  | int i => cases e
  | str x => cases e
  | lst n h q' => cases e
  | dic0 n h => cases e
  | dic1 n h => cases e
theorem two_of {α : Type} {xs : List α} (h : xs.length = 2) : ∃ a b, xs = [a, b] := by
  match xs, h with
  | [a, b], _ => exact ⟨a, b, rfl⟩
theorem isRow_no {d : PyData} (h : isTup d 2 2 = false) : isRowD d = false := by
  unfold isRowD
  split
  · simp [isTup] at h
  · rfl
def sp_is_drawing (K : PySem.W.Frag) : Sp := fun vs H Q _ => ∃ (fx : Hp) (b : Bool) (v : V) (d : PyData), vs = [v] ∧ Dg K fx H b v d ∧ Q (.bl (isW d 0 9)) H
theorem ok_is_drawing {f : Addr} {fd : FuncData} (F : Fun K "is_drawing" "is_drawing" s_is_drawing f fd) (T : Txt K mg) (D_is_whole : Cl P w K mg base 2 "is_whole" ["thing", "least", "most"] (sp_is_whole K)) : FnOk P w K mg base CX0 3 f fd ["thing"] (sp_is_drawing K) := by
  refine F.ok sc_is_drawing (fun vs H Q E h => ?_) (fun cdv A outer s H vs Q E hr h => ?_)
  · obtain ⟨fx, b, v, d, rfl, q⟩ := h
    rfl
  · obtain ⟨fx, b, v, d, rfl, hd, q⟩ := h
    refine ⟨_, (pss_one (ps_ret (pe_own D_is_whole (hr.mono (by omega)) (by rfl) (pa_cons (pv 0) (pa_cons pe_int (pa_cons (pe_gint (by rfl) T.c_MOST_DRAWING) pa_nil)))))), ?_⟩
    exact ⟨_, rfl, fx, b, v, d, 0, 9, rfl, hd, q⟩
def sp_is_hold (K : PySem.W.Frag) : Sp := fun vs H Q _ => ∃ (fx : Hp) (b : Bool) (v : V) (d : PyData), vs = [v] ∧ Dg K fx H b v d ∧ Q (.bl (isW d 1 24)) H
theorem ok_is_hold {f : Addr} {fd : FuncData} (F : Fun K "is_hold" "is_hold" s_is_hold f fd) (T : Txt K mg) (D_is_whole : Cl P w K mg base 2 "is_whole" ["thing", "least", "most"] (sp_is_whole K)) : FnOk P w K mg base CX0 3 f fd ["thing"] (sp_is_hold K) := by
  refine F.ok sc_is_hold (fun vs H Q E h => ?_) (fun cdv A outer s H vs Q E hr h => ?_)
  · obtain ⟨fx, b, v, d, rfl, q⟩ := h
    rfl
  · obtain ⟨fx, b, v, d, rfl, hd, q⟩ := h
    refine ⟨_, (pss_one (ps_ret (pe_own D_is_whole (hr.mono (by omega)) (by rfl) (pa_cons (pv 0) (pa_cons pe_int (pa_cons (pe_gint (by rfl) T.c_MOST_HOLD) pa_nil)))))), ?_⟩
    exact ⟨_, rfl, fx, b, v, d, 1, 24, rfl, hd, q⟩
def sp_is_row (K : PySem.W.Frag) : Sp := fun vs H Q _ => ∃ (fx : Hp) (b : Bool) (v : V) (d : PyData), vs = [v] ∧ Dg K fx H b v d ∧ Q (.bl (isRowD d)) H
theorem ok_is_row {f : Addr} {fd : FuncData} (F : Fun K "is_row" "is_row" s_is_row f fd) (T : Txt K mg) (D_is_tuple : Cl P w K mg base 1 "is_tuple" ["thing", "least", "most"] (sp_is_tuple K)) (D_is_drawing : Cl P w K mg base 3 "is_drawing" ["thing"] (sp_is_drawing K)) (D_is_hold : Cl P w K mg base 3 "is_hold" ["thing"] (sp_is_hold K)) : FnOk P w K mg base CX0 4 f fd ["thing"] (sp_is_row K) := by
  refine F.ok sc_is_row (fun vs H Q E h => ?_) (fun cdv A outer s H vs Q E hr h => ?_)
  · obtain ⟨fx, b, v, d, rfl, q⟩ := h
    rfl
  · obtain ⟨fx, b, v, d, rfl, hd, q⟩ := h
    refine ⟨_, (pss_cons (ps_if (pt_not (pt_val (pe_own D_is_tuple (hr.mono (by omega)) (by rfl) (pa_cons (pv 0) (pa_cons pe_int (pa_cons pe_int pa_nil)))))) (pss_one (ps_ret pe_bl)) pss_nil)
      (pss_cons (ps_asg (pv 0) (pg_tup (by rfl) (pgs_cons (pg_name (i := 1) sc_is_row.nd rfl (Or.inl rfl)) (pgs_cons (pg_name (i := 2) sc_is_row.nd rfl (Or.inl rfl)) pgs_nil))))
      (pss_one (ps_ret (pe_and (pe_own D_is_drawing (hr.mono (by omega)) (by rfl) (pa_cons (pv 1) pa_nil)) (pe_one (pe_own D_is_hold (hr.mono (by omega)) (by rfl) (pa_cons (pv 2) pa_nil)))))))), ?_⟩
    refine ⟨_, rfl, fx, b, v, d, 2, 2, rfl, hd, _, rfl, ?_⟩
    cases et : isTup d 2 2 with
    | false =>
      rw [isRow_no et] at q
      exact iteT q
    | true =>
      obtain ⟨a, xs, ds, rfl, rfl, ha, hall, l1, l2⟩ := tup_of hd et
      obtain ⟨d1, d2, rfl⟩ := two_of (show ds.length = 2 by omega)
      cases hall with | @cons _ v1 _ _ _ h1 hr =>
      cases hr with | @cons _ v2 _ _ _ h2 hn =>
      cases hn
      refine iteF ?_
      refine ⟨_, rfl, a, _, rfl, ha, rfl, _, _, rfl, _, _, rfl, rfl, ?_⟩
      refine ⟨_, rfl, fx, b, v1, d1, rfl, h1, _, rfl, ?_⟩
      cases e1 : isW d1 0 9 with
      | false =>
        rw [show isRowD (.tuple [d1, d2]) = false by simp [isRowD, e1]] at q
        exact iteF q
      | true =>
        refine iteT ⟨_, rfl, fx, b, v2, d2, rfl, h2, ?_⟩
        rw [show isRowD (.tuple [d1, d2]) = isW d2 1 24 by simp [isRowD, e1]] at q
        exact q
def sp_is_layer (K : PySem.W.Frag) : Sp := fun vs H Q _ => ∃ (fx : Hp) (b : Bool) (v : V) (d : PyData), vs = [v] ∧ Dg K fx H b v d ∧ ∀ H', Same H H' → Q (.bl (isLayD d)) H'
theorem isLay_no {d : PyData} (h : isTup d 2 2 = false) : isLayD d = false := by
  unfold isLayD
  split
  · simp [isTup] at h
  · rfl
theorem isLay_no2 {r b : PyData} (h : isTup r 0 8 = false) : isLayD (.tuple [r, b]) = false := by
  unfold isLayD
  split
  · rename_i rs b' e
    cases e
    have : ¬ rs.length ≤ 8 := by
      intro z
      have : isTup (.tuple rs) 0 8 = true := decide_eq_true ⟨by omega, by omega⟩
      rw [this] at h
      cases h
    simp [this]
  · rfl
theorem ok_is_layer {f : Addr} {fd : FuncData} (F : Fun K "is_layer" "is_layer" s_is_layer f fd) (T : Txt K mg) (D_is_tuple : Cl P w K mg base 1 "is_tuple" ["thing", "least", "most"] (sp_is_tuple K)) (D_is_row : Cl P w K mg base 4 "is_row" ["thing"] (sp_is_row K)) (D_is_whole : Cl P w K mg base 2 "is_whole" ["thing", "least", "most"] (sp_is_whole K)) : FnOk P w K mg base CX0 5 f fd ["thing"] (sp_is_layer K) := by
  refine F.ok sc_is_layer (fun vs H Q E h => ?_) (fun cdv A outer s H vs Q E hr h => ?_)
  · obtain ⟨fx, b, v, d, rfl, q⟩ := h
    rfl
  · obtain ⟨fx, b, v, d, rfl, hd, q⟩ := h
    refine ⟨_, (pss_cons (ps_if (pt_not (pt_val (pe_own D_is_tuple (hr.mono (by omega)) (by rfl) (pa_cons (pv 0) (pa_cons pe_int (pa_cons pe_int pa_nil)))))) (pss_one (ps_ret pe_bl)) pss_nil)
      (pss_cons (ps_asg (pv 0) (pg_tup (by rfl) (pgs_cons (pg_name (i := 1) sc_is_layer.nd rfl (Or.inl rfl)) (pgs_cons (pg_name (i := 2) sc_is_layer.nd rfl (Or.inl rfl)) pgs_nil))))
      (pss_cons (ps_if (PW.pt (pw_or (pt_not (pt_val (pe_own D_is_tuple (hr.mono (by omega)) (by rfl) (pa_cons (pv 1) (pa_cons pe_int (pa_cons (pe_gint (by rfl) T.c_MOST_ROWS) pa_nil)))))) (pw_or1 (pt_not (pt_val (pe_callB (cr_all rfl) (by rfl) T.b_all (by decide +kernel) (pa_cons (pe_lc (own := [("row", 3)]) (g := (gName 3)) (tt := tYes) (by rfl) sc_is_layer.nd (pi_tup (pv 1)) (blkOk_by (own := [("row", 3)]) (N := ["thing", "rows", "back", "row"]) (sc := defScope s_is_layer) (by decide +kernel)) (fun _ _ _ _ _ => (pg_name (i := 3) sc_is_layer.nd rfl (Or.inl rfl))) (fun _ _ _ _ _ => pts_nil) (fun _ _ _ _ _ => (pe_own D_is_row (hr.mono (by omega)) (by rfl) (pa_cons (pv 3) pa_nil)))) pa_nil))))))) (pss_one (ps_ret pe_bl)) pss_nil)
      (pss_one (ps_ret (pe_or (pe_cmpR op_isN (pv 2) pe_non (nomark _)) (pe_one (pe_own D_is_whole (hr.mono (by omega)) (by rfl) (pa_cons (pv 2) (pa_cons pe_int (pa_cons (pe_op op_sub (pe_callB call_len_seq (by rfl) T.b_len (by decide +kernel) (pa_cons (pv 1) pa_nil)) pe_int) pa_nil))))))))))), ?_⟩
    refine ⟨_, rfl, fx, b, v, d, 2, 2, rfl, hd, _, rfl, ?_⟩
    cases et : isTup d 2 2 with
    | false =>
      rw [isLay_no et] at q
      exact iteT (q _ (Same.refl _))
    | true =>
      obtain ⟨a, xs, ds, rfl, rfl, ha, hall, l1, l2⟩ := tup_of hd et
      obtain ⟨d1, d2, rfl⟩ := two_of (show ds.length = 2 by omega)
      cases hall with | @cons _ v1 _ _ _ h1 hr =>
      cases hr with | @cons _ v2 _ _ _ h2 hn =>
      cases hn
      refine iteF ?_
      refine ⟨_, rfl, a, _, rfl, ha, rfl, _, _, rfl, _, _, rfl, rfl, ?_⟩
      refine ⟨_, rfl, fx, b, v1, d1, 0, 8, rfl, h1, _, rfl, ?_⟩
      cases e8 : isTup d1 0 8 with
      | false =>
        rw [isLay_no2 e8] at q
        exact iteT (iteT (q _ (Same.refl _)))
      | true =>
        obtain ⟨pr, vs, rs, rfl, rfl, hq, pd, _, l8⟩ := tup_of h1 e8
        have hl := DgAll.len pd
        refine iteF ?_
        refine ⟨_, rfl, pr, rfl, ⟨_, hq⟩, fun D hD => ?_⟩
        refine lcmap_tup ((rs.map isRowD).map V.bl) (by simp [hl]) (by omega) hq hD (fun i x y H2 R Z hx hy s2 hR => ?_) (fun H2 s2 hL => ?_)
        · obtain ⟨r, hr1, hrow⟩ := DgAll.at pd hx
          have ey : y = .bl (isRowD r) := by
            rw [List.map_map, List.getElem?_map, hr1] at hy
            exact (Option.some.inj hy).symm
          subst ey
          exact ⟨rfl, yes_ok ⟨_, rfl, fx, b, x, r, rfl, hrow.sm s2, hR _ (Same.refl _)⟩⟩
        · refine ⟨D, _, rfl, .inl (.inl hL), _, rfl, ?_⟩
          have hdef : isLayD (.tuple [.tuple rs, d2]) = ((rs.map isRowD).all id && bkOk d2 ((rs.length : Int) - 1)) := by
            have z : decide (rs.length ≤ 8) = true := decide_eq_true (by omega)
            show (decide (rs.length ≤ 8) && rs.all isRowD && bkOk d2 ((rs.length : Int) - 1)) = _
            rw [z, List.all_map]
            rfl
          cases ea : (rs.map isRowD).all id with
          | false =>
            rw [ea] at hdef
            rw [show isLayD (.tuple [.tuple rs, d2]) = false from hdef] at q
            exact iteT (q _ s2)
          | true =>
            rw [ea, Bool.true_and] at hdef
            refine iteF ?_
            refine ⟨_, rfl, rfl, _, rfl, ?_⟩
            cases h2 with
            | non =>
              rw [hdef] at q
              exact ite2 (fun _ => q _ s2) (fun e => absurd (decide_eq_true rfl) e)
            | bl x =>
              rw [hdef] at q
              exact ite2 (fun e => nomatch (of_decide_eq_true e)) (fun _ => ⟨_, rfl, _, rfl, pr, vs, rfl, .inr (Same.sqT s2 hq), _, _, rfl, rfl, fx, b, _, _, 0, _, rfl, .bl x, q _ s2⟩)
            | int n =>
              rw [hdef, ← hl] at q
              exact ite2 (fun e => nomatch (of_decide_eq_true e)) (fun _ => ⟨_, rfl, _, rfl, pr, vs, rfl, .inr (Same.sqT s2 hq), _, _, rfl, rfl, fx, b, _, _, 0, _, rfl, .int n, q _ s2⟩)
            | str x =>
              rw [hdef] at q
              exact ite2 (fun e => nomatch (of_decide_eq_true e)) (fun _ => ⟨_, rfl, _, rfl, pr, vs, rfl, .inr (Same.sqT s2 hq), _, _, rfl, rfl, fx, b, _, _, 0, _, rfl, .str x, q _ s2⟩)
            | @tup _ a' xs' ds' h' q' =>
              rw [hdef] at q
              exact ite2 (fun e => nomatch (of_decide_eq_true e)) (fun _ => ⟨_, rfl, _, rfl, pr, vs, rfl, .inr (Same.sqT s2 hq), _, _, rfl, rfl, fx, b, _, _, 0, _, rfl, (Dg.tup h' q').sm s2, q _ s2⟩)
            | @lst a' xs' ds' n' h' q' =>
              rw [hdef] at q
              exact ite2 (fun e => nomatch (of_decide_eq_true e)) (fun _ => ⟨_, rfl, _, rfl, pr, vs, rfl, .inr (Same.sqT s2 hq), _, _, rfl, rfl, fx, true, _, _, 0, _, rfl, (Dg.lst n' h' q').sm s2, q _ s2⟩)
            | @dic0 a' n' h' =>
              rw [hdef] at q
              exact ite2 (fun e => nomatch (of_decide_eq_true e)) (fun _ => ⟨_, rfl, _, rfl, pr, vs, rfl, .inr (Same.sqT s2 hq), _, _, rfl, rfl, fx, false, _, _, 0, _, rfl, (Dg.dic0 n' h').sm s2, q _ s2⟩)
            | @dic1 a' k' i' n' h' =>
              rw [hdef] at q
              exact ite2 (fun e => nomatch (of_decide_eq_true e)) (fun _ => ⟨_, rfl, _, rfl, pr, vs, rfl, .inr (Same.sqT s2 hq), _, _, rfl, rfl, fx, false, _, _, 0, _, rfl, (Dg.dic1 n' h').sm s2, q _ s2⟩)
end

section
variable {P : Program} {w : World} {K : PySem.W.Frag} {mg : Str → Option Value} {base : Heap}
def sp_is_way (K : PySem.W.Frag) : Sp := fun vs H Q _ => ∃ (fx : Hp) (b : Bool) (v : V) (d : PyData), vs = [v] ∧ Dg K fx H b v d ∧ Q (.bl (isW d (-20) 20)) H
theorem ok_is_way {f : Addr} {fd : FuncData} (F : Fun K "is_way" "is_way" s_is_way f fd) (T : Txt K mg) (D_is_whole : Cl P w K mg base 2 "is_whole" ["thing", "least", "most"] (sp_is_whole K)) : FnOk P w K mg base CX0 3 f fd ["thing"] (sp_is_way K) := by
  refine F.ok sc_is_way (fun vs H Q E h => ?_) (fun cdv A outer s H vs Q E hr h => ?_)
  · obtain ⟨fx, b, v, d, rfl, q⟩ := h
    rfl
  · obtain ⟨fx, b, v, d, rfl, hd, q⟩ := h
    refine ⟨_, (pss_one (ps_ret (pe_own D_is_whole (hr.mono (by omega)) (by rfl) (pa_cons (pv 0) (pa_cons (pe_un un_neg (pe_gint (by rfl) T.c_MOST_WAY)) (pa_cons (pe_gint (by rfl) T.c_MOST_WAY) pa_nil)))))), ?_⟩
    exact ⟨_, rfl, 20, rfl, fx, b, v, d, -20, 20, rfl, hd, q⟩
def sp_is_many (K : PySem.W.Frag) : Sp := fun vs H Q _ => ∃ (fx : Hp) (b : Bool) (v : V) (d : PyData), vs = [v] ∧ Dg K fx H b v d ∧ Q (.bl (isW d 0 24)) H
theorem ok_is_many {f : Addr} {fd : FuncData} (F : Fun K "is_many" "is_many" s_is_many f fd) (T : Txt K mg) (D_is_whole : Cl P w K mg base 2 "is_whole" ["thing", "least", "most"] (sp_is_whole K)) : FnOk P w K mg base CX0 3 f fd ["thing"] (sp_is_many K) := by
  refine F.ok sc_is_many (fun vs H Q E h => ?_) (fun cdv A outer s H vs Q E hr h => ?_)
  · obtain ⟨fx, b, v, d, rfl, q⟩ := h
    rfl
  · obtain ⟨fx, b, v, d, rfl, hd, q⟩ := h
    refine ⟨_, (pss_one (ps_ret (pe_own D_is_whole (hr.mono (by omega)) (by rfl) (pa_cons (pv 0) (pa_cons pe_int (pa_cons (pe_gint (by rfl) T.c_MOST_MANY) pa_nil)))))), ?_⟩
    exact ⟨_, rfl, fx, b, v, d, 0, 24, rfl, hd, q⟩
def sp_is_move (K : PySem.W.Frag) : Sp := fun vs H Q _ => ∃ (fx : Hp) (b : Bool) (v : V) (d : PyData), vs = [v] ∧ Dg K fx H b v d ∧ Q (.bl (isMoveD d)) H
theorem ok_is_move {f : Addr} {fd : FuncData} (F : Fun K "is_move" "is_move" s_is_move f fd) (T : Txt K mg) (D_is_tuple : Cl P w K mg base 1 "is_tuple" ["thing", "least", "most"] (sp_is_tuple K)) (D_is_way : Cl P w K mg base 3 "is_way" ["thing"] (sp_is_way K)) (D_is_many : Cl P w K mg base 3 "is_many" ["thing"] (sp_is_many K)) : FnOk P w K mg base CX0 4 f fd ["thing"] (sp_is_move K) := by
  refine F.ok sc_is_move (fun vs H Q E h => ?_) (fun cdv A outer s H vs Q E hr h => ?_)
  · obtain ⟨fx, b, v, d, rfl, _⟩ := h
    rfl
  · obtain ⟨fx, b, v, d, rfl, hd, q⟩ := h
    refine ⟨_, (pss_cons (ps_if (pt_not (pt_val (pe_own D_is_tuple (hr.mono (by omega)) (by rfl) (pa_cons (pv 0) (pa_cons pe_int (pa_cons pe_int pa_nil)))))) (pss_one (ps_ret pe_bl)) pss_nil)
      (pss_cons (ps_asg (pv 0) (pg_tup (by rfl) (pgs_cons (pg_name (i := 1) sc_is_move.nd rfl (Or.inl rfl)) (pgs_cons (pg_name (i := 2) sc_is_move.nd rfl (Or.inl rfl)) (pgs_cons (pg_name (i := 3) sc_is_move.nd rfl (Or.inl rfl)) pgs_nil)))))
      (pss_one (ps_ret (pe_and (pe_own D_is_way (hr.mono (by omega)) (by rfl) (pa_cons (pv 1) pa_nil)) (pe_and (pe_own D_is_way (hr.mono (by omega)) (by rfl) (pa_cons (pv 2) pa_nil)) (pe_one (pe_own D_is_many (hr.mono (by omega)) (by rfl) (pa_cons (pv 3) pa_nil))))))))), ?_⟩
    refine ⟨_, rfl, fx, b, v, d, 3, 3, rfl, hd, _, rfl, ?_⟩
    cases et : isTup d 3 3 with
    | false =>
      rw [mv_no et] at q
      exact iteT q
    | true =>
      obtain ⟨a, xs, ds, rfl, rfl, ha, hall, l1, l2⟩ := tup_of hd et
      obtain ⟨d1, d2, d3, rfl⟩ := three_of (show ds.length = 3 by omega)
      cases hall with | @cons _ v1 _ _ _ h1 hr =>
      cases hr with | @cons _ v2 _ _ _ h2 hr =>
      cases hr with | @cons _ v3 _ _ _ h3 hn =>
      cases hn
      have q' : Q (.bl ((isW d1 (-20) 20 && isW d2 (-20) 20) && isW d3 0 24)) H := q
      refine iteF ?_
      refine ⟨_, rfl, a, _, rfl, ha, rfl, _, _, rfl, _, _, rfl, _, _, rfl, rfl, ?_⟩
      refine ⟨_, rfl, fx, b, v1, d1, rfl, h1, _, rfl, ?_⟩
      cases e1 : isW d1 (-20) 20 with
      | false =>
        rw [e1] at q'
        exact iteF q'
      | true =>
        rw [e1, Bool.true_and] at q'
        refine iteT ⟨_, rfl, fx, b, v2, d2, rfl, h2, _, rfl, ?_⟩
        cases e2 : isW d2 (-20) 20 with
        | false =>
          rw [e2] at q'
          exact iteF q'
        | true =>
          rw [e2, Bool.true_and] at q'
          exact iteT ⟨_, rfl, fx, b, v3, d3, rfl, h3, q'⟩
def sp_is_window (K : PySem.W.Frag) : Sp := fun vs H Q _ => ∃ (fx : Hp) (b : Bool) (v : V) (d : PyData), vs = [v] ∧ Dg K fx H b v d ∧ ∀ H', Same H H' → Q (.bl (isWinD d)) H'
theorem ok_is_window {f : Addr} {fd : FuncData} (F : Fun K "is_window" "is_window" s_is_window f fd) (T : Txt K mg) (D_is_tuple : Cl P w K mg base 1 "is_tuple" ["thing", "least", "most"] (sp_is_tuple K)) (D_is_way : Cl P w K mg base 3 "is_way" ["thing"] (sp_is_way K)) (D_is_move : Cl P w K mg base 4 "is_move" ["thing"] (sp_is_move K)) : FnOk P w K mg base CX0 5 f fd ["thing"] (sp_is_window K) := by
  refine F.ok sc_is_window (fun vs H Q E h => ?_) (fun cdv A outer s H vs Q E hr h => ?_)
  · obtain ⟨fx, b, v, d, rfl, _⟩ := h
    rfl
  · obtain ⟨fx, b, v, d, rfl, hd, q⟩ := h
    refine ⟨_, (pss_cons (ps_if (pt_not (pt_val (pe_own D_is_tuple (hr.mono (by omega)) (by rfl) (pa_cons (pv 0) (pa_cons pe_int (pa_cons pe_int pa_nil)))))) (pss_one (ps_ret pe_bl)) pss_nil)
      (pss_cons (ps_asg (pv 0) (pg_tup (by rfl) (pgs_cons (pg_name (i := 1) sc_is_window.nd rfl (Or.inl rfl)) (pgs_cons (pg_name (i := 2) sc_is_window.nd rfl (Or.inl rfl)) (pgs_cons (pg_name (i := 3) sc_is_window.nd rfl (Or.inl rfl)) pgs_nil)))))
      (pss_cons (ps_if (PW.pt (pw_or (pt_not (pt_val (pe_own D_is_way (hr.mono (by omega)) (by rfl) (pa_cons (pv 1) pa_nil)))) (pw_or (pt_not (pt_val (pe_own D_is_way (hr.mono (by omega)) (by rfl) (pa_cons (pv 2) pa_nil)))) (pw_or1 (pt_not (pt_val (pe_own D_is_tuple (hr.mono (by omega)) (by rfl) (pa_cons (pv 3) (pa_cons pe_int (pa_cons (pe_gint (by rfl) T.c_MOST_MOVES) pa_nil)))))))))) (pss_one (ps_ret pe_bl)) pss_nil)
      (pss_one (ps_ret (pe_callB (cr_all rfl) (by rfl) T.b_all (by decide +kernel) (pa_cons (pe_lc (own := [("move", 4)]) (g := (gName 4)) (tt := tYes) (by rfl) sc_is_window.nd (pi_tup (pv 3)) (blkOk_by (own := [("move", 4)]) (N := ["thing", "x", "y", "moves", "move"]) (sc := defScope s_is_window) (by decide +kernel)) (fun _ _ _ _ _ => (pg_name (i := 4) sc_is_window.nd rfl (Or.inl rfl))) (fun _ _ _ _ _ => pts_nil) (fun _ _ _ _ _ => (pe_own D_is_move (hr.mono (by omega)) (by rfl) (pa_cons (pv 4) pa_nil)))) pa_nil))))))), ?_⟩
    refine ⟨_, rfl, fx, b, v, d, 3, 3, rfl, hd, _, rfl, ?_⟩
    cases et : isTup d 3 3 with
    | false =>
      rw [win_no et] at q
      exact iteT (q _ (Same.refl _))
    | true =>
      obtain ⟨a, xs, ds, rfl, rfl, ha, hall, l1, l2⟩ := tup_of hd et
      obtain ⟨d1, d2, d3, rfl⟩ := three_of (show ds.length = 3 by omega)
      cases hall with | @cons _ v1 _ _ _ h1 hr =>
      cases hr with | @cons _ v2 _ _ _ h2 hr =>
      cases hr with | @cons _ v3 _ _ _ h3 hn =>
      cases hn
      refine iteF ?_
      refine ⟨_, rfl, a, _, rfl, ha, rfl, _, _, rfl, _, _, rfl, _, _, rfl, rfl, ?_⟩
      have nsp : isSpotD d1 d2 = false → isWinD (.tuple [d1, d2, d3]) = false := fun e1 => by
        cases d3 with
        | tuple ms =>
          show (isSpotD d1 d2 && decide (ms.length ≤ 8) && ms.all isMoveD) = false
          rw [e1]
          rfl
        | _ => rfl
      refine ⟨_, rfl, fx, b, v1, d1, rfl, h1, _, rfl, ?_⟩
      cases x1 : isW d1 (-20) 20 with
      | false =>
        rw [nsp (by simp [isSpotD, x1])] at q
        exact iteT (iteT (q _ (Same.refl _)))
      | true =>
       refine iteF ?_
       refine ⟨_, rfl, fx, b, v2, d2, rfl, h2, _, rfl, ?_⟩
       cases x2 : isW d2 (-20) 20 with
       | false =>
        rw [nsp (by simp [isSpotD, x2])] at q
        exact iteT (iteT (q _ (Same.refl _)))
       | true =>
        have e1 : isSpotD d1 d2 = true := by simp [isSpotD, x1, x2]
        refine iteF ?_
        refine ⟨_, rfl, fx, b, v3, d3, 0, 8, rfl, h3, _, rfl, ?_⟩
        cases e8 : isTup d3 0 8 with
        | false =>
          rw [win_no2 e8] at q
          exact iteT (q _ (Same.refl _))
        | true =>
          obtain ⟨pm, vs, ms, rfl, rfl, hq, pd, _, l8⟩ := tup_of h3 e8
          have hl := DgAll.len pd
          rw [win_eq (by omega), e1, Bool.true_and] at q
          refine iteF ?_
          refine ⟨_, rfl, pm, rfl, ⟨_, hq⟩, fun D hD => ?_⟩
          refine lcmap_tup ((ms.map isMoveD).map V.bl) (by simp [hl]) (by omega) hq hD (fun i x y H2 R Z hx hy s2 hR => ?_) (fun H2 s2 hL => ?_)
          · obtain ⟨r, hr1, hrow⟩ := DgAll.at pd hx
            have ey : y = .bl (isMoveD r) := by
              rw [List.map_map, List.getElem?_map, hr1] at hy
              exact (Option.some.inj hy).symm
            subst ey
            exact ⟨rfl, yes_ok ⟨_, rfl, fx, b, x, r, rfl, hrow.sm s2, hR _ (Same.refl _)⟩⟩
          · refine ⟨D, _, rfl, .inl (.inl hL), ?_⟩
            rw [List.all_map]
            exact q _ s2
def sp_is_sheet (K : PySem.W.Frag) : Sp := fun vs H Q _ => ∃ (fx : Hp) (b : Bool) (v : V) (d : PyData), vs = [v] ∧ Dg K fx H b v d ∧ ∀ H', Same H H' → Q (.bl (isShD d)) H'
theorem ok_is_sheet {f : Addr} {fd : FuncData} (F : Fun K "is_sheet" "is_sheet" s_is_sheet f fd) (T : Txt K mg) (D_is_tuple : Cl P w K mg base 1 "is_tuple" ["thing", "least", "most"] (sp_is_tuple K)) (D_is_window : Cl P w K mg base 5 "is_window" ["thing"] (sp_is_window K)) (D_is_layer : Cl P w K mg base 5 "is_layer" ["thing"] (sp_is_layer K)) : FnOk P w K mg base CX0 6 f fd ["thing"] (sp_is_sheet K) := by
  refine F.ok sc_is_sheet (fun vs H Q E h => ?_) (fun cdv A outer s H vs Q E hr h => ?_)
  · obtain ⟨fx, b, v, d, rfl, _⟩ := h
    rfl
  · obtain ⟨fx, b, v, d, rfl, hd, q⟩ := h
    refine ⟨_, (pss_cons (ps_if (pt_not (pt_val (pe_own D_is_tuple (hr.mono (by omega)) (by rfl) (pa_cons (pv 0) (pa_cons pe_int (pa_cons pe_int pa_nil)))))) (pss_one (ps_ret pe_bl)) pss_nil)
      (pss_cons (ps_asg (pv 0) (pg_tup (by rfl) (pgs_cons (pg_name (i := 1) sc_is_sheet.nd rfl (Or.inl rfl)) (pgs_cons (pg_name (i := 2) sc_is_sheet.nd rfl (Or.inl rfl)) pgs_nil))))
      (pss_cons (ps_if (pt_not (pt_val (pe_own D_is_tuple (hr.mono (by omega)) (by rfl) (pa_cons (pv 1) (pa_cons pe_int (pa_cons (pe_gint (by rfl) T.c_MOST_LAYERS) pa_nil)))))) (pss_one (ps_ret pe_bl)) pss_nil)
      (pss_one (ps_ret (pe_and (pe_callB (cr_all rfl) (by rfl) T.b_all (by decide +kernel) (pa_cons (pe_lc (own := [("layer", 3)]) (g := (gName 3)) (tt := tYes) (by rfl) sc_is_sheet.nd (pi_tup (pv 1)) (blkOk_by (own := [("layer", 3)]) (N := ["thing", "layers", "window", "layer"]) (sc := defScope s_is_sheet) (by decide +kernel)) (fun _ _ _ _ _ => (pg_name (i := 3) sc_is_sheet.nd rfl (Or.inl rfl))) (fun _ _ _ _ _ => pts_nil) (fun _ _ _ _ _ => (pe_own D_is_layer (hr.mono (by omega)) (by rfl) (pa_cons (pv 3) pa_nil)))) pa_nil)) (pe_one (pe_own D_is_window (hr.mono (by omega)) (by rfl) (pa_cons (pv 2) pa_nil))))))))), ?_⟩
    refine ⟨_, rfl, fx, b, v, d, 2, 2, rfl, hd, _, rfl, ?_⟩
    cases et : isTup d 2 2 with
    | false =>
      rw [sh_no et] at q
      exact iteT (q _ (Same.refl _))
    | true =>
      obtain ⟨a, xs, ds, rfl, rfl, ha, hall, l1, l2⟩ := tup_of hd et
      obtain ⟨d1, d2, rfl⟩ := two_of (show ds.length = 2 by omega)
      cases hall with | @cons _ v1 _ _ _ h1 hr =>
      cases hr with | @cons _ v2 _ _ _ h2 hn =>
      cases hn
      refine iteF ?_
      refine ⟨_, rfl, a, _, rfl, ha, rfl, _, _, rfl, _, _, rfl, rfl, ?_⟩
      refine ⟨_, rfl, fx, b, v1, d1, 1, 4, rfl, h1, _, rfl, ?_⟩
      cases e4 : isTup d1 1 4 with
      | false =>
        rw [sh_no2 e4] at q
        exact iteT (q _ (Same.refl _))
      | true =>
        obtain ⟨pl, vs, ls, rfl, rfl, hq, pd, l1', l4⟩ := tup_of h1 e4
        have hl := DgAll.len pd
        rw [sh_eq ⟨by omega, by omega⟩] at q
        refine iteF ?_
        refine ⟨_, rfl, pl, rfl, ⟨_, hq⟩, fun D hD => ?_⟩
        refine lcmap_tup ((ls.map isLayD).map V.bl) (by simp [hl]) (by omega) hq hD (fun i x y H2 R Z hx hy s2 hR => ?_) (fun H2 s2 hL => ?_)
        · obtain ⟨r, hr1, hrow⟩ := DgAll.at pd hx
          have ey : y = .bl (isLayD r) := by
            rw [List.map_map, List.getElem?_map, hr1] at hy
            exact (Option.some.inj hy).symm
          subst ey
          exact ⟨rfl, yes_ok ⟨_, rfl, fx, b, x, r, rfl, hrow.sm s2, hR⟩⟩
        · refine ⟨D, _, rfl, .inl (.inl hL), _, rfl, ?_⟩
          rw [List.all_map]
          show if (ls.all isLayD) = true then _ else _
          cases ea : ls.all isLayD with
          | false =>
            rw [ea] at q
            exact iteF (q _ s2)
          | true =>
            rw [ea, Bool.true_and] at q
            exact iteT ⟨_, rfl, fx, b, v2, d2, rfl, h2.sm s2, fun H3 s3 => q _ (s2.trans s3)⟩
end

def plainD (part : Str) (d : PyData) : Bool := if part = "drawing" then isW d 0 9 else if part = "hold" then isW d 1 24 else if part = "way" then isW d (-20) 20 else isW d 0 24
def memI (d : PyData) (l : List Int) : Bool := match d with
  | .int n => decide (n ∈ l)
  | _ => false
def keyI (d : PyData) (l : List (Int × T3)) : Bool := match d with
  | .int n => (asV l n).isSome
  | _ => false
def fitD (S : MS) (part : Str) (d : PyData) : Bool := if part = "layer" then isWf d 0 && memI d S.layers else if part = "row" then isWf d 0 && keyI d S.rows else plainD part d
/-- whether a thing is a deed that names what is here -/
def takD (S : MS) (d : PyData) : Bool := match d with
  | .tuple (.str z :: ds) => match partsOf z with
    | some ps => decide (ds.length = ps.length) && ((ps.zip ds).all fun q => fitD S q.1 q.2)
    | none => false
  | _ => false
theorem inV_ints (n : Int) : ∀ l : List Int, inV (.int n) (l.map V.int) = decide (n ∈ l)
  | [] => rfl
  | a :: l => by
    have ih := inV_ints n l
    show (eqV (V.int a) (.int n) || inV (.int n) (l.map V.int)) = decide (n ∈ a :: l)
    rw [ih]
    have e : eqV (V.int a) (.int n) = decide (a = n) := by
      show (a == n) = decide (a = n)
      rw [Bool.eq_iff_iff]
      simp
    rw [e]
    by_cases h : a = n
    · subst h
      simp
    · have h' : ¬ n = a := fun z => h z.symm
      simp [h, h']
theorem flat_ints : ∀ l : List Int, (l.map V.int).all flatV = true
  | [] => rfl
  | _ :: l => flat_ints l
theorem wf_int {K : PySem.W.Frag} {fx H : Hp} {b : Bool} {v : V} {d : PyData} (h : Dg K fx H b v d) {l : Int} (e : isWf d l = true) : ∃ n : Int, v = .int n ∧ d = .int n := by
  cases h with
  | int i => exact ⟨i, rfl, rfl⟩
  | non => cases e
  | bl x => cases e
  | str x => cases e
  | tup h q => cases e
  | lst n h q => cases e
  | dic0 n h => cases e
  | dic1 n h => cases e
section
variable {P : Program} {w : World} {K : PySem.W.Frag} {mg : Str → Option Value} {base : Heap}
def sp_is_plain_part (K : PySem.W.Frag) : Sp := fun vs H Q _ => ∃ (fx : Hp) (b : Bool) (part : Str) (v : V) (d : PyData), vs = [.str part, v] ∧ Dg K fx H b v d ∧ Q (.bl (plainD part d)) H
theorem ok_is_plain_part {f : Addr} {fd : FuncData} (F : Fun K "is_plain_part" "is_plain_part" s_is_plain_part f fd) (T : Txt K mg) (D_is_drawing : Cl P w K mg base 3 "is_drawing" ["thing"] (sp_is_drawing K)) (D_is_hold : Cl P w K mg base 3 "is_hold" ["thing"] (sp_is_hold K)) (D_is_way : Cl P w K mg base 3 "is_way" ["thing"] (sp_is_way K)) (D_is_many : Cl P w K mg base 3 "is_many" ["thing"] (sp_is_many K)) : FnOk P w K mg base CX0 4 f fd ["part", "thing"] (sp_is_plain_part K) := by
  refine F.ok sc_is_plain_part (fun vs H Q E h => ?_) (fun cdv A outer s H vs Q E hr h => ?_)
  · obtain ⟨fx, b, part, v, d, rfl, _⟩ := h
    rfl
  · obtain ⟨fx, b, part, v, d, rfl, hd, q⟩ := h
    unfold plainD at q
    refine ⟨_, (pss_cons (ps_if (pt_cmpR op_eq (pv 0) pe_str (nomark _)) (pss_one (ps_ret (pe_own D_is_drawing (hr.mono (by omega)) (by rfl) (pa_cons (pv 1) pa_nil)))) pss_nil)
      (pss_cons (ps_if (pt_cmpR op_eq (pv 0) pe_str (nomark _)) (pss_one (ps_ret (pe_own D_is_hold (hr.mono (by omega)) (by rfl) (pa_cons (pv 1) pa_nil)))) pss_nil)
      (pss_cons (ps_if (pt_cmpR op_eq (pv 0) pe_str (nomark _)) (pss_one (ps_ret (pe_own D_is_way (hr.mono (by omega)) (by rfl) (pa_cons (pv 1) pa_nil)))) pss_nil)
      (pss_one (ps_ret (pe_own D_is_many (hr.mono (by omega)) (by rfl) (pa_cons (pv 1) pa_nil))))))), ?_⟩
    refine ⟨_, rfl, rfl, _, rfl, ite2 (fun e => ?_) (fun e => ?_)⟩
    · rw [if_pos (V.str.inj (of_decide_eq_true e))] at q
      exact ⟨_, rfl, fx, b, v, d, rfl, hd, q⟩
    rw [if_neg fun h => e (decide_eq_true (by rw [h]))] at q
    refine ⟨_, rfl, rfl, _, rfl, ite2 (fun e => ?_) (fun e => ?_)⟩
    · rw [if_pos (V.str.inj (of_decide_eq_true e))] at q
      exact ⟨_, rfl, fx, b, v, d, rfl, hd, q⟩
    rw [if_neg fun h => e (decide_eq_true (by rw [h]))] at q
    refine ⟨_, rfl, rfl, _, rfl, ite2 (fun e => ?_) (fun e => ?_)⟩
    · rw [if_pos (V.str.inj (of_decide_eq_true e))] at q
      exact ⟨_, rfl, fx, b, v, d, rfl, hd, q⟩
    rw [if_neg fun h => e (decide_eq_true (by rw [h]))] at q
    exact ⟨_, rfl, fx, b, v, d, rfl, hd, q⟩
def sp_Made__fits (K : PySem.W.Frag) (CT : Nat → Addr) : Sp := fun vs H Q _ => ∃ (p L R B M : Addr) (S : MS) (fx : Hp) (b : Bool) (part : Str) (v : V) (d : PyData), vs = [.ref p, .str part, v] ∧ MadeC K (CT 0) H p L R B M S ∧ Dg K fx H b v d ∧ Q (.bl (fitD S part d)) H
theorem ok_Made__fits {f : Addr} {fd : FuncData} (F : Fun K "fits" "Made.fits" s_Made__fits f fd) (T : Txt K mg) {CT : Nat → Addr} (TC : ClT K w mg CT) (D_is_whole_from : Cl P w K mg base 1 "is_whole_from" ["thing", "least"] (sp_is_whole_from K)) (D_is_plain_part : Cl P w K mg base 4 "is_plain_part" ["part", "thing"] (sp_is_plain_part K)) : FnOk P w K mg base CX0 5 f fd ["self", "part", "thing"] (sp_Made__fits K CT) := by
  refine F.ok sc_Made__fits (fun vs H Q E h => ?_) (fun cdv A outer s H vs Q E hr h => ?_)
  · obtain ⟨p, L, R, B, M, S, fx, b, part, v, d, rfl, _⟩ := h
    rfl
  · obtain ⟨p, L, R, B, M, S, fx, b, part, v, d, rfl, c, hd, q⟩ := h
    obtain ⟨dx, hob⟩ := c.ob
    obtain ⟨kvs, hR, hA⟩ := c.rw
    have hL := c.ly
    unfold fitD at q
    refine ⟨_, (pss_cons (ps_if (pt_cmpR op_eq (pv 1) pe_str (nomark _)) (pss_one (ps_ret (pe_and (pe_own D_is_whole_from (hr.mono (by omega)) (by rfl) (pa_cons (pv 2) (pa_cons pe_int pa_nil))) (pe_one (pe_cmpR op_in_seq (pv 2) (pe_fld (pv 0) rfl) (by rfl)))))) pss_nil)
      (pss_cons (ps_if (pt_cmpR op_eq (pv 1) pe_str (nomark _)) (pss_one (ps_ret (pe_and (pe_own D_is_whole_from (hr.mono (by omega)) (by rfl) (pa_cons (pv 2) (pa_cons pe_int pa_nil))) (pe_one (pe_cmp (pc_din (Nat.lt_of_le_of_lt (Nat.add_le_add_left (show 1 ≤ 64 by decide) _) hr.units) (pv 2) (pe_fld (pv 0) rfl))))))) pss_nil)
      (pss_one (ps_ret (pe_own D_is_plain_part (hr.mono (by omega)) (by rfl) (pa_cons (pv 1) (pa_cons (pv 2) pa_nil))))))), ?_⟩
    refine ⟨_, rfl, rfl, _, rfl, ite2 (fun e => ?_) (fun e => ?_)⟩
    · rw [if_pos (V.str.inj (of_decide_eq_true e))] at q
      refine ⟨_, rfl, fx, b, v, d, 0, rfl, hd, _, rfl, ?_⟩
      cases ew : isWf d 0 with
      | false => rw [ew] at q; exact iteF q
      | true =>
        obtain ⟨n, rfl, rfl⟩ := wf_int hd ew
        rw [ew, Bool.true_and] at q
        refine iteT ⟨_, rfl, _, rfl, p, _, dx, _, _, rfl, hob, TC.cM, TC.n1, fM_layers, L, _, rfl, .inl (.inl (.inl hL)), rfl, flat_ints _, ?_⟩
        show Q (.bl (inV (.int n) (S.layers.map V.int))) H
        rw [inV_ints]
        exact q
    rw [if_neg fun h => e (decide_eq_true (by rw [h]))] at q
    refine ⟨_, rfl, rfl, _, rfl, ite2 (fun e => ?_) (fun e => ?_)⟩
    · rw [if_pos (V.str.inj (of_decide_eq_true e))] at q
      refine ⟨_, rfl, fx, b, v, d, 0, rfl, hd, _, rfl, ?_⟩
      cases ew : isWf d 0 with
      | false => rw [ew] at q; exact iteF q
      | true =>
        obtain ⟨n, rfl, rfl⟩ := wf_int hd ew
        rw [ew, Bool.true_and] at q
        refine iteT ⟨_, rfl, _, rfl, p, _, dx, _, _, rfl, hob, TC.cM, TC.n2, fM_rows, R, _, rfl, DGet.k (k := Sum.inl n) hR, ?_⟩
        have ee : (valV kvs (Sum.inl n)).isSome = (asV S.rows n).isSome := by
          rcases AsP.val hA n with ⟨e1, e2⟩ | ⟨x, v', e1, e2, _⟩ <;> rw [e1, e2] <;> rfl
        rw [ee]
        exact q
    rw [if_neg fun h => e (decide_eq_true (by rw [h]))] at q
    exact ⟨_, rfl, _, rfl, fx, b, part, v, d, rfl, hd, q⟩
end

theorem tak_no {S : MS} {d : PyData} (h : ∀ z ds, d ≠ .tuple (.str z :: ds)) : takD S d = false := by
  unfold takD
  split
  · rename_i z ds
    exact absurd rfl (h z ds)
  · rfl
theorem tak_some {S : MS} {z : Str} {ds : List PyData} {ps : List Str} (h : partsOf z = some ps) : takD S (.tuple (.str z :: ds)) = (decide (ds.length = ps.length) && ((ps.zip ds).all fun q => fitD S q.1 q.2)) := by
  show (match partsOf z with | some ps => decide (ds.length = ps.length) && ((ps.zip ds).all fun q => fitD S q.1 q.2) | none => false) = _
  rw [h]
theorem tak_none {S : MS} {z : Str} {ds : List PyData} (h : partsOf z = none) : takD S (.tuple (.str z :: ds)) = false := by
  show (match partsOf z with | some ps => decide (ds.length = ps.length) && ((ps.zip ds).all fun q => fitD S q.1 q.2) | none => false) = _
  rw [h]
theorem parts_len {z : Str} {ps : List Str} (h : partsOf z = some ps) : ps.length ≤ 3 := by
  unfold partsOf at h
  repeat' split at h
  all_goals first | cases h; decide | cases h
theorem strOf {K : PySem.W.Frag} {fx H : Hp} {b : Bool} {v : V} {d : PyData} (h : Dg K fx H b v d) : (∃ z, v = .str z ∧ d = .str z) ∨ ∀ z, d ≠ .str z := by
  cases h with
  | str x => exact .inl ⟨x, rfl, rfl⟩
  | int i => exact .inr fun z => nofun
  | non => exact .inr fun z => nofun
  | bl x => exact .inr fun z => nofun
  | tup h q => exact .inr fun z => nofun
  | lst n h q => exact .inr fun z => nofun
  | dic0 n h => exact .inr fun z => nofun
  | dic1 n h => exact .inr fun z => nofun
def isS : PyData → Bool
  | .str _ => true
  | _ => false
theorem kS (d : PyData) : kitB (tyn d) "str" = some (isS d) := by cases d <;> simp only [tyn, isS] <;> decide +kernel
section
variable {P : Program} {w : World} {K : PySem.W.Frag} {mg : Str → Option Value} {base : Heap}
def sp_Made__takes (K : PySem.W.Frag) (CT : Nat → Addr) : Sp := fun vs H Q _ => ∃ (p L R B M : Addr) (S : MS) (fx : Hp) (b : Bool) (v : V) (d : PyData), vs = [.ref p, v] ∧ MadeC K (CT 0) H p L R B M S ∧ Dg K fx H b v d ∧ (∀ ds, d = .tuple ds → ds.length ≤ 1000) ∧ ∀ H', Same H H' → Q (.bl (takD S d)) H'
theorem ok_Made__takes {f : Addr} {fd : FuncData} (F : Fun K "takes" "Made.takes" s_Made__takes f fd) (T : Txt K mg) {CT : Nat → Addr} (TC : ClT K w mg CT) (D_Made__fits : Ml P w K mg base 5 (CT 0) "fits" ["self", "part", "thing"] (sp_Made__fits K CT)) : FnOk P w K mg base CX0 6 f fd ["self", "thing"] (sp_Made__takes K CT) := by
  refine F.ok sc_Made__takes (fun vs H Q E h => ?_) (fun cdv A outer s H vs Q E hr h => ?_)
  · obtain ⟨p, L, R, B, M, S, fx, b, v, d, rfl, _⟩ := h
    rfl
  · obtain ⟨p, L, R, B, M, S, fx, b, v, d, rfl, c, hd, hlen, q⟩ := h
    refine ⟨_, (pss_cons (ps_if (PW.pt (pw_or (pt_not (pt_val (pe_callB call_isi (by rfl) T.b_isinstance (by decide +kernel) (pa_cons (pv 1) (pa_cons (pe_bltn (v := .ty "tuple") (by rfl) T.b_tuple (by decide +kernel) rfl) pa_nil))))) (pw_or (pt_not (pt_truth (pv 1) (by intro _; rfl))) (pw_or1 (pt_not (pt_val (pe_callB call_isi (by rfl) T.b_isinstance (by decide +kernel) (pa_cons (pe_ix ix_tup (pv 1) pe_int (fun _ _ => rfl)) (pa_cons (pe_bltn (v := .ty "str") (by rfl) T.b_str (by decide +kernel) rfl) pa_nil))))))))) (pss_one (ps_ret pe_bl)) pss_nil)
      (pss_cons (ps_asg (pv 1) (pg_star (by rfl) (pg_name (i := 2) sc_Made__takes.nd rfl (Or.inl rfl)) (pg_name (i := 3) sc_Made__takes.nd rfl (Or.inl rfl))))
      (pss_cons (ps_if (PW.pt (pw_or (pt_cmpR (kd_notIn TC.pk) (pv 2) (pe_gref (by rfl) TC.gP) (by rfl)) (pw_or1 (pt_cmpR op_ne (pe_callB call_len_seq (by rfl) T.b_len (by decide +kernel) (pa_cons (pv 3) pa_nil)) (pe_callB call_len_seq (by rfl) T.b_len (by decide +kernel) (pa_cons (pe_ix (kd_item TC.pk) (pe_gref (by rfl) TC.gP) (pv 2) (fun _ _ => rfl)) pa_nil)) (nomark _))))) (pss_one (ps_ret pe_bl)) pss_nil)
      (pss_one (ps_ret (pe_callB (cr_all rfl) (by rfl) T.b_all (by decide +kernel) (pa_cons (pe_lc (own := [("part", 4), ("given", 5)]) (g := (gTup _ 2 (gCons (gName 4) (gCons (gName 5) gNil)))) (tt := tYes) (by rfl) sc_Made__takes.nd (pi_zipM (by rfl) T.b_zip (pa_cons (pe_ix (kd_item TC.pk) (pe_gref (by rfl) TC.gP) (pv 2) (fun _ _ => rfl)) (pa_cons (pv 3) pa_nil))) (blkOk_by (own := [("part", 4), ("given", 5)]) (N := ["self", "thing", "word", "told", "part", "given"]) (sc := defScope s_Made__takes) (by decide +kernel)) (fun _ _ _ _ _ => (pg_tup (by rfl) (pgs_cons (pg_name (i := 4) sc_Made__takes.nd rfl (Or.inl rfl)) (pgs_cons (pg_name (i := 5) sc_Made__takes.nd rfl (Or.inl rfl)) pgs_nil)))) (fun _ _ _ _ _ => pts_nil) (fun _ _ _ _ _ => (pe_mth D_Made__fits TC.cM (hr.mono (by omega)) (pv 0) (pa_cons (pv 4) (pa_cons (pv 5) pa_nil))))) pa_nil))))))), ?_⟩
    refine ⟨_, rfl, _, _, _, _, isT d, rfl, .ty _, Dg.ty hd, kit_ty (kT d), _, rfl, ?_⟩
    have no : (∀ z ds, d ≠ .tuple (.str z :: ds)) → Q (.bl false) H := fun h => by have := q H (Same.refl _); rw [tak_no h] at this; exact this
    cases eT : isT d with
    | false =>
      refine iteT (no fun z ds e => ?_)
      rw [e] at eT
      cases eT
    | true =>
    refine iteF ?_
    obtain ⟨a, xs, ds, rfl, rfl, hq, hD⟩ : ∃ a xs ds, v = .ref a ∧ d = .tuple ds ∧ SqT K H a xs ∧ DgAll K fx H b xs ds := by
      cases hd with
      | tup h qq => exact ⟨_, _, _, rfl, rfl, h, qq⟩
      | int i => cases eT
      | non => cases eT
      | bl x => cases eT
      | str x => cases eT
      | lst n h q => cases eT
      | dic0 n h => cases eT
      | dic1 n h => cases eT
    refine ⟨_, rfl, _, .inr (.inl ⟨xs, hq, rfl⟩), ?_⟩
    cases hD with
    | nil => exact iteT (no fun z ds e => by injection e with e; cases e)
    | @cons _ x xs d0 ds h0 hD =>
    refine iteF ?_
    refine ⟨_, rfl, a, _, 0, x, rfl, rfl, hq, at0, _, _, _, _, isS d0, rfl, .ty _, Dg.ty h0, kit_ty (kS d0), _, rfl, ?_⟩
    rcases strOf h0 with ⟨z, rfl, rfl⟩ | hn
    rotate_left 1
    · have : isS d0 = false := by
        cases e : isS d0 with
        | false => rfl
        | true =>
          cases d0 with
          | str y => exact absurd rfl (hn y)
          | none => cases e
          | bool _ => cases e
          | int _ => cases e
          | list _ => cases e
          | tuple _ => cases e
          | dict _ => cases e
      rw [this]
      exact iteT (no fun z ds e => by injection e with e; injection e with e1 e2; exact hn z e1)
    refine iteF ?_
    have hl := hlen _ rfl
    have lx : xs.length = ds.length := DgAll.len hD
    refine ⟨_, rfl, a, _, xs, rfl, hq, by simp only [List.length_cons] at hl; omega, fun t nt => ?_⟩
    obtain ⟨s1, e1⟩ := new_at (.lst xs) nt
    generalize upd H t (.lst xs) = H1 at s1 e1 ⊢
    cases hp : partsOf z with
    | none =>
      refine ⟨_, rfl, z, none, rfl, rfl, TC.p0 z hp, _, rfl, iteT ?_⟩
      have := q H1 s1
      rw [tak_none hp] at this
      exact this
    | some ps =>
    obtain ⟨tp, hns, hsq⟩ := TC.p1 z ps hp
    refine ⟨_, rfl, z, some (.ref tp), rfl, rfl, hns, _, rfl, iteF ?_⟩
    refine ⟨_, rfl, t, _, rfl, .inl (.inl (.inl e1)), _, rfl, z, .ref tp, .ref tp, rfl, rfl, hns, rfl, tp, _, rfl, .inr (hsq H1), rfl, _, rfl, ite2 (fun e => ?_) (fun e => ?_)⟩
    · have ne : ¬ ds.length = ps.length := fun h => by
        rw [decide_eq_true (show V.int (xs.length : Int) = V.int ((ps.map V.str).length : Int) by rw [List.length_map, lx, h])] at e
        cases e
      have := q H1 s1
      rw [tak_some hp, decide_eq_false ne] at this
      exact this
    have hln : ds.length = ps.length := by
      refine Classical.byContradiction fun h => e ?_
      rw [decide_eq_false (fun y => h (by have := V.int.inj y; rw [List.length_map] at this; omega))]
      rfl
    have l3 := parts_len hp
    refine ⟨_, rfl, z, .ref tp, .ref tp, rfl, rfl, hns, rfl, _, rfl, tp, t, ps.map V.str, xs, rfl, hsq H1, .inl (.inl e1), fun D hD' => ?_⟩
    refine lc_pairs (J := ItzM K tp t) (xs := ps.map V.str) (ys := xs) (fun i H' => Same H1 H' ∧ ∃ bs : List Bool, H' D = some (.lst (bs.map V.bl)) ∧ bs = (((ps.zip ds).map fun q => fitD S q.1 q.2)).take i)
      ⟨same_upd hD', [], upd_same, rfl⟩
      (fun i H' y hi => ⟨_, xs, _, xs[i]'(by rw [List.length_map] at hi; omega), hsq H', .inl (.inl (y.1 _ _ e1)), List.getElem?_eq_getElem hi, List.getElem?_eq_getElem _⟩)
      (fun H' y => ⟨_, xs, hsq H', .inl (.inl (y.1 _ _ e1)), by rw [List.length_map]; omega⟩)
      (fun i H' v H'' y ⟨T, x, y', f1, f2, f3, f4, f5⟩ => ⟨T, x, y', f1, f2, f3, f4 _ (hsq H'), f5 _ (.inl (.inl (y.1 _ _ e1)))⟩) (fun i x y T H4 hx hy p4 nT => ?_) (fun H4 p4 => ?_)
    · obtain ⟨s4, bs, eD, eb⟩ := p4
      obtain ⟨pn, hpn, rfl⟩ : ∃ pn, ps[i]? = some pn ∧ x = .str pn := by
        rw [List.getElem?_map] at hx
        cases e : ps[i]? with
        | none => rw [e] at hx; cases hx
        | some pn => rw [e] at hx; exact ⟨pn, rfl, (Option.some.inj hx).symm⟩
      obtain ⟨dy, hdy, hgy⟩ := DgAll.at hD hy
      obtain ⟨sT, eT⟩ := new_at (.tup [.str pn, y]) nT
      generalize upd H4 T (.tup [.str pn, y]) = H5 at sT eT ⊢
      have s5 := s4.trans sT
      have s05 := s1.trans s5
      have c5 := c.same s05
      obtain ⟨dx, hob⟩ := c5.ob
      refine ⟨T, _, rfl, .inl (.inl eT), rfl, _, _, rfl, _, _, rfl, rfl, rfl, yes_ok ⟨_, rfl, p, dx, _, rfl, hob, rfl, _, rfl, _, rfl, p, L, R, B, M, S, fx, b, pn, y, dy, rfl, c5, hgy.sm s05, ?_⟩⟩
      have hzip : ((ps.zip ds).map fun q => fitD S q.1 q.2)[i]? = some (fitD S pn dy) := by
        rw [List.getElem?_map, List.getElem?_zip_eq_some (z := (pn, dy)) |>.mpr ⟨hpn, hdy⟩]
        rfl
      refine ⟨bs.map V.bl, sT _ _ eD, small1000 ?_, ?_, bs ++ [fitD S pn dy], ?_, ?_⟩
      · rw [List.length_map, eb, List.length_take]
        have hi : i < ps.length := (List.getElem?_eq_some_iff.mp hpn).1
        omega
      · intro b' o e
        rw [upd_ne (ne_of_none e hD')]
        exact s5 _ _ e
      · rw [upd_same, List.map_append]
        rfl
      · rw [eb, List.take_add_one, hzip]
        rfl
    · obtain ⟨s4, bs, eD, eb⟩ := p4
      rw [List.length_map, List.take_of_length_le (by rw [List.length_map, List.length_zip]; omega)] at eb
      refine ⟨D, bs, rfl, .inl (.inl eD), ?_⟩
      have := q H4 (s1.trans s4)
      rw [tak_some hp, decide_eq_true hln, Bool.true_and] at this
      rw [eb, List.all_map]
      exact this
end

theorem asV_at {α : Type} : ∀ {l : List (Int × α)} {i : Nat} {n : Int} {x : α}, (l.map (·.1)).Nodup → l[i]? = some (n, x) → asV l n = some x
  | [], i, n, x, _, h => by cases h
  | r :: l, 0, n, x, _, h => by
    cases h
    unfold asV
    rw [List.find?_cons_of_pos (by simp)]
    rfl
  | r :: l, i + 1, n, x, nd, h => by
    have nd' := List.nodup_cons.mp nd
    have hm : n ∈ l.map (·.1) := List.mem_map.mpr ⟨(n, x), List.mem_of_getElem? h, rfl⟩
    have ne : ¬ r.1 = n := fun e => nd'.1 (by show r.1 ∈ _; rw [e]; exact hm)
    have : asV (r :: l) n = asV l n := by
      unfold asV
      rw [List.find?_cons_of_neg (by simp [ne])]
    rw [this]
    exact asV_at nd'.2 h
def rowsIn (S : MS) (l : Int) : List Int := (S.rows.filter fun r => decide (r.2.1 = l)).map (·.1)
def MS.nd (S : MS) : Prop := (S.rows.map (·.1)).Nodup
theorem lock_same {H H' : Hp} {R : Addr} {u : HO} {od : Obj} (e : H R = some u) (s : ∀ b o, b ≠ R → H b = some o → H' b = some o) : Same H (upd H' R u) := fun b o h => by
  by_cases hb : b = R
  · rw [hb, upd_same]
    rw [hb, e] at h
    exact h
  · rw [upd_ne hb]
    exact s b o hb h
section
variable {P : Program} {w : World} {K : PySem.W.Frag} {mg : Str → Option Value} {base : Heap}
def sp_Made__rows_in (K : PySem.W.Frag) (CT : Nat → Addr) : Sp := fun vs H Q _ => ∃ (p L R B M : Addr) (S : MS) (l : Int), vs = [.ref p, .int l] ∧ MadeC K (CT 0) H p L R B M S ∧ S.small 900 ∧ S.nd ∧ ∀ H' X, Same H H' → H X = none → H' X = some (.lst ((rowsIn S l).map V.int)) → Q (.ref X) H'
theorem ok_Made__rows_in {f : Addr} {fd : FuncData} (F : Fun K "rows_in" "Made.rows_in" s_Made__rows_in f fd) (T : Txt K mg) {CT : Nat → Addr} (TC : ClT K w mg CT) : FnOk P w K mg base CX0 1 f fd ["self", "layer"] (sp_Made__rows_in K CT) := by
  refine F.ok sc_Made__rows_in (fun vs H Q E h => ?_) (fun cdv A outer s H vs Q E hr h => ?_)
  · obtain ⟨p, L, R, B, M, S, l, rfl, _⟩ := h
    rfl
  · obtain ⟨p, L, R, B, M, S, l, rfl, c, sm, nd, q⟩ := h
    obtain ⟨dx, hob⟩ := c.ob
    obtain ⟨kvs, hR, hA⟩ := c.rw
    have nn := c.nn
    refine ⟨_, (pss_one (ps_ret (pe_lock (pe_lc (own := [("row", 2)]) (g := (gName 2)) (by rfl) sc_Made__rows_in.nd (pi_keys (pe_fld (pv 0) rfl)) (blkOk_by (own := [("row", 2)]) (N := ["self", "layer", "row"]) (sc := defScope s_Made__rows_in) (by decide +kernel)) (fun _ _ _ _ _ => (pg_name (i := 2) sc_Made__rows_in.nd rfl (Or.inl rfl))) (fun _ _ _ _ _ => (pts_one (pt_cmpR op_eq (pe_ix (r := rIxT K) ix_tup (pe_dget (Nat.lt_of_le_of_lt (Nat.add_le_add_left (show 1 ≤ 64 by decide) _) hr.units) (pe_fldK (K := K) (pv 0) rfl) (pv 2) (fun _ _ => rfl)) pe_int (fun _ _ => rfl)) (pv 1) (nomark _)))) (fun _ _ _ _ _ => (pv 2)))))), ?_⟩
    refine ⟨R, _, hR, trivial, fun od => ?_⟩
    have k1 : ∀ b o, b ≠ R → H b = some o → upd H R (.frz od (.dK kvs)) b = some o := fun b o hb e => by rw [upd_ne hb]; exact e
    have e1 : upd H R (.frz od (.dK kvs)) R = some (.frz od (.dK kvs)) := upd_same
    have t1 : TKeep K H (upd H R (.frz od (.dK kvs))) := tk_d hR
    have f1 : ∀ X, upd H R (.frz od (.dK kvs)) X = none → H X = none := fun X h => by
      by_cases hX : X = R
      · rw [hX, e1] at h; cases h
      · rw [upd_ne hX] at h; exact h
    generalize upd H R (.frz od (.dK kvs)) = H1 at k1 e1 t1 f1 ⊢
    refine ⟨_, rfl, p, _, dx, _, _, rfl, k1 _ _ nn.2.1 hob, TC.cM, TC.n2, fM_rows, R, od, rfl, .inl ⟨kvs, e1, fun D hD => ?_⟩⟩
    refine lc_it (walk_keys (d := R) (o := od) (kvs := kvs)) (fun i H' => Same H1 H' ∧ H' D = some (.lst ((((S.rows.take i).filter fun r => decide (r.2.1 = l)).map (·.1)).map V.int))) ⟨same_upd hD, upd_same⟩ (fun _ _ _ z => z.1 _ _ e1) (fun i x Ha Hb hi pa yx => ?_) (fun Ha pa => ?_)
    · obtain ⟨rfl, k, v, hkv, rfl⟩ := yx
      obtain ⟨sa, ea⟩ := pa
      obtain ⟨r, hr1, hk, _⟩ := Paired.at hA hkv
      dsimp only at hk
      subst hk
      have hi' : i < S.rows.length := (List.getElem?_eq_some_iff.mp hr1).1
      have has := asV_at nd (show S.rows[i]? = some (r.1, r.2) from hr1)
      obtain ⟨v', hv', pr, rfl, hpr⟩ : ∃ v', valV kvs (Sum.inl r.1) = some v' ∧ T3At K H v' r.2 := by
        rcases AsP.val hA r.1 with ⟨e, _⟩ | ⟨x', v', e1, e2, e3⟩
        · rw [has] at e; cases e
        · rw [has] at e1; cases e1; exact ⟨v', e2, e3⟩
      have hg : DGet Hb R (.int r.1) (some (.ref pr)) := by
        rw [← hv']
        exact .inl ⟨kvs, Sum.inl r.1, .inr ⟨od, sa _ _ e1⟩, rfl, rfl⟩
      have et : ((S.rows.take (i + 1)).filter fun r => decide (r.2.1 = l)).map (·.1) = ((S.rows.take i).filter fun r => decide (r.2.1 = l)).map (·.1) ++ (if r.2.1 = l then [r.1] else []) := by
        rw [List.take_add_one, hr1, List.filter_append, List.map_append]
        congr 1
        show (List.filter (fun r => decide (r.2.1 = l)) [r]).map (·.1) = _
        by_cases h : r.2.1 = l
        · rw [List.filter_cons_of_pos (by simp [h]), if_pos h]
          rfl
        · rw [List.filter_cons_of_neg (by simp [h]), if_neg h]
          rfl
      refine ⟨rfl, _, rfl, p, _, dx, _, _, rfl, sa _ _ (k1 _ _ nn.2.1 hob), TC.cM, TC.n2, fM_rows, _, rfl, R, _, rfl, hg, pr, _, 0, .int r.2.1, rfl, rfl, Same.sqT sa (t1 _ _ hpr), at0, _, rfl, rfl, _, rfl, ite2 (fun e => ?_) (fun e => ?_)⟩
      · have e' : r.2.1 = l := V.int.inj (of_decide_eq_true e)
        refine ⟨_, rfl, _, ea, small1000 ?_, ?_, ?_⟩
        · rw [List.length_map, List.length_map]
          refine Nat.le_trans (List.length_filter_le _ _) ?_
          rw [List.length_take]
          have := sm.2.1
          omega
        · intro b o eb
          rw [upd_ne (ne_of_none eb hD)]
          exact sa _ _ eb
        · rw [upd_same, et, if_pos e', List.map_append]
          rfl
      · have e' : ¬ r.2.1 = l := fun h => e (decide_eq_true (by rw [h]))
        refine ⟨sa, ?_⟩
        rw [et, if_neg e', List.append_nil]
        exact ea
    · obtain ⟨sa, ea⟩ := pa
      rw [AsP.len hA, List.take_length] at ea
      have nDR : D ≠ R := fun z => by rw [z, e1] at hD; cases hD
      refine ⟨sa _ _ e1, q _ D (lock_same (od := od) hR fun b o hb e => sa _ _ (k1 b o hb e)) (f1 D hD) ?_⟩
      rw [upd_ne nDR]
      exact ea
end

section
variable {P : Program} {w : World} {K : PySem.W.Frag} {mg : Str → Option Value} {base : Heap}
def sp_TooMany_init (c : Nat → Addr) (K : PySem.W.Frag) : Sp := fun vs H Q _ => ∃ (a : Addr) (m n : V), vs = [.ref a, m, n] ∧ OexC K (c 14) ∧ PySem.W.findIn K (.ref (c 14)) "many" = some none ∧ PySem.W.findIn K (.ref (c 14)) "most" = some none ∧ H a = some (exo a (c 14) none) ∧
  ∀ H' d, H' a = some (exo a (c 14) (some d)) → H' d = some (exd d [("most", n), ("many", m)]) → H d = none → (∀ b o, b ≠ a → H b = some o → H' b = some o) → Q .non H'
theorem ok_TooMany_init {f : Addr} {fd : FuncData} {c : Nat → Addr} (F : Fun K "__init__" "TooMany.__init__" s_TooMany_init f fd) : FnOk P w K mg base CX0 1 f fd ["self", "many", "most"] (sp_TooMany_init c K) := by
  refine F.ok sc_TooMany_init (fun vs H Q E h => ?_) (fun cdv A outer s H vs Q E hr h => ?_)
  · obtain ⟨a, m, n, rfl, _⟩ := h
    rfl
  · obtain ⟨a, m, n, rfl, o, f1, f2, ha, q⟩ := h
    refine ⟨_, (pss_cons (ps_ost (pv 0) (pv 1))
      (pss_one (ps_ost (pv 0) (pv 2)))), ?_⟩
    refine ⟨_, rfl, _, rfl, a, c 14, rfl, o, f1, .inl ⟨ha, fun d nd da => ?_⟩⟩
    refine ⟨_, rfl, _, rfl, a, c 14, rfl, o, f2, .inr ⟨d, [("many", m)], upd_same, ?_, (by show 1 ≤ 900; decide), ?_⟩⟩
    · rw [upd_ne da, upd_same]
    · refine q _ d ?_ upd_same nd fun b o' hb e => ?_
      · rw [upd_ne (Ne.symm da), upd_same]
      · rw [upd_ne (ne_of_none e nd), upd_ne hb, upd_ne (ne_of_none e nd)]
        exact e
def sp_need_at_most (K : PySem.W.Frag) (c : Nat → Addr) : Sp := fun vs H Q E => ∃ m n : Int, vs = [.int m, .int n] ∧ (m ≤ n → Q .non H) ∧ (n < m → ∀ H' d, Same H H' → H d = none → H' d = some (.xd [("most", .int n), ("many", .int m)]) → E (.ref (c 14)) (some d) H')
theorem ok_need_at_most {f : Addr} {fd : FuncData} {c : Nat → Addr} {LE : Addr} (F : Fun K "need_at_most" "need_at_most" s_need_at_most f fd) (T : Txt K mg) (TX : ExcN K mg c LE) (TI : IniT P w K mg base (c 14) 3 (sp_TooMany_init c K)) : FnOk P w K mg base (L2.CX P w) 3 f fd ["many", "most"] (sp_need_at_most K c) := by
  refine F.okX sc_need_at_most (fun vs H Q E h => ?_) (fun cdv A outer s H vs Q E hr h => ?_)
  · obtain ⟨m, n, rfl, _⟩ := h
    rfl
  · obtain ⟨m, n, rfl, q1, q2⟩ := h
    refine ⟨_, (pss_one (ps_if (pt_cmpR op_gt (pv 0) (pv 1) (nomark _)) (pss_one (ps_raise rfl (takes_of rfl rfl rfl rfl) (pmk_init TI (hr.mono (by omega)) (by rfl) (TX.g 14 "TooMany" rfl) (pa_cons (pv 0) (pa_cons (pv 1) pa_nil))))) pss_nil)), ?_⟩
    refine ⟨_, rfl, _, rfl, m, n, rfl, rfl, _, rfl, ite2 (fun e => ?_) (fun e => ?_)⟩
    · have e1 : n < m := of_decide_eq_true e
      obtain ⟨_, _, _, ox, _⟩ := TI.ex
      refine ⟨_, rfl, _, rfl, (by show 2 ≤ 1000; decide), fun a na => ⟨a, _, _, rfl, ox, TX.n1, TX.n2, upd_same, fun H' d e1' e2' nd hk => ⟨rfl, d, _, e1', e2', ?_, ?_⟩⟩⟩
      · have : d ≠ a := fun z => by rw [z, upd_same] at nd; cases nd
        rw [upd_ne this] at nd
        exact nd
      · have da : d ≠ a := fun z => by rw [z, upd_same] at nd; cases nd
        have nd' : H d = none := by rw [upd_ne da] at nd; exact nd
        refine q2 e1 _ d (fun b o hb => ?_) nd' upd_same
        have ba : b ≠ a := ne_of_none hb na
        rw [upd_ne (ne_of_none hb nd'), del_ne ba]
        exact hk b o ba (by rw [upd_ne ba]; exact hb)
    · exact q1 (by have := of_decide_eq_false (Bool.eq_false_iff.mpr e); omega)
end

def roomL (S : MS) : List Int → Option (Int × Int)
  | [] => none
  | l :: ls => if 8 < (rowsIn S l).length then some (((rowsIn S l).length : Int), 8) else roomL S ls
/-- how many there are where there are too many -/
def roomS (S : MS) : Option (Int × Int) := if 4 < S.layers.length then some ((S.layers.length : Int), 4) else match roomL S S.layers with
  | some x => some x
  | none => if 8 < S.moves.length then some ((S.moves.length : Int), 8) else none
theorem roomL_at {S : MS} : ∀ {ls : List Int} {i : Nat} {l : Int}, (∀ j l', j < i → ls[j]? = some l' → ¬ 8 < (rowsIn S l').length) → ls[i]? = some l → 8 < (rowsIn S l).length → roomL S ls = some (((rowsIn S l).length : Int), 8)
  | [], _, _, _, h, _ => by cases h
  | a :: ls, 0, l, _, h, h8 => by
    cases h
    exact if_pos h8
  | a :: ls, i + 1, l, hb, h, h8 => by
    show (if 8 < (rowsIn S a).length then _ else roomL S ls) = _
    rw [if_neg (hb 0 a (Nat.succ_pos _) rfl)]
    exact roomL_at (fun j l' hj e => hb (j + 1) l' (Nat.succ_lt_succ hj) e) h h8
theorem roomL_none {S : MS} : ∀ {ls : List Int}, (∀ (j : Nat) l', ls[j]? = some l' → ¬ 8 < (rowsIn S l').length) → roomL S ls = none
  | [], _ => rfl
  | a :: ls, hb => by
    show (if 8 < (rowsIn S a).length then _ else roomL S ls) = _
    rw [if_neg (hb 0 a rfl)]
    exact roomL_none fun j l' e => hb (j + 1) l' e
section
variable {P : Program} {w : World} {K : PySem.W.Frag} {mg : Str → Option Value} {base : Heap}
def sp_Made__need_room (K : PySem.W.Frag) (c : Nat → Addr) (CT : Nat → Addr) : Sp := fun vs H Q E => ∃ (p L R B M : Addr) (S : MS), vs = [.ref p] ∧ MadeC K (CT 0) H p L R B M S ∧ S.small 900 ∧ S.nd ∧ (roomS S = none → ∀ H', Same H H' → Q .non H') ∧ (∀ m n, roomS S = some (m, n) → ∀ H' d, Same H H' → H d = none → H' d = some (.xd [("most", .int n), ("many", .int m)]) → E (.ref (c 14)) (some d) H')
theorem ok_Made__need_room {f : Addr} {fd : FuncData} {c : Nat → Addr} {LE : Addr} (F : Fun K "need_room" "Made.need_room" s_Made__need_room f fd) (T : Txt K mg) (TX : ExcN K mg c LE) {CT : Nat → Addr} (TC : ClT K w mg CT) (D_need_at_most : ClX P w K mg base 3 "need_at_most" ["many", "most"] (sp_need_at_most K c)) (D_Made__rows_in : Ml P w K mg base 1 (CT 0) "rows_in" ["self", "layer"] (sp_Made__rows_in K CT)) : FnOk P w K mg base (L2.CX P w) 4 f fd ["self"] (sp_Made__need_room K c CT) := by
  refine F.okX sc_Made__need_room (fun vs H Q E h => ?_) (fun cdv A outer s H vs Q E hr h => ?_)
  · obtain ⟨p, L, R, B, M, S, rfl, _⟩ := h
    rfl
  · obtain ⟨p, L, R, B, M, S, rfl, cc, sm, nd, q0, q1⟩ := h
    obtain ⟨dx, hob⟩ := cc.ob
    have hL := cc.ly
    obtain ⟨ms, hM, hMs⟩ := cc.mv
    have lms : ms.length = S.moves.length := Paired.length hMs
    refine ⟨_, (pss_cons (ps_expr (pe_ownX D_need_at_most (hr.mono (by omega)) (takes_of rfl rfl rfl rfl) (by rfl) (pa_cons (pe_callB call_len_seq (by rfl) T.b_len (by decide +kernel) (pa_cons (pe_fld (pv 0) rfl) pa_nil)) (pa_cons (pe_gint (by rfl) T.c_MOST_LAYERS) pa_nil))))
      (pss_cons (ps_for (passes_of rfl) rfl (pi_list (pe_fld (pv 0) rfl)) (pg_name (i := 1) sc_Made__need_room.nd rfl (Or.inl rfl))
        (pss_one (ps_expr (pe_ownX D_need_at_most (hr.mono (by omega)) (takes_of rfl rfl rfl rfl) (by rfl) (pa_cons (pe_callB call_len_seq (by rfl) T.b_len (by decide +kernel) (pa_cons (pe_mth D_Made__rows_in TC.cM (hr.mono (by omega)) (pv 0) (pa_cons (pv 1) pa_nil)) pa_nil)) (pa_cons (pe_gint (by rfl) T.c_MOST_ROWS) pa_nil))))))
      (pss_one (ps_expr (pe_ownX D_need_at_most (hr.mono (by omega)) (takes_of rfl rfl rfl rfl) (by rfl) (pa_cons (pe_callB call_len_seq (by rfl) T.b_len (by decide +kernel) (pa_cons (pe_fld (pv 0) rfl) pa_nil)) (pa_cons (pe_gint (by rfl) T.c_MOST_MOVES) pa_nil))))))), ?_⟩
    refine ⟨_, rfl, p, _, dx, _, _, rfl, hob, TC.cM, TC.n1, fM_layers, L, _, rfl, .inl (.inl (.inl hL)), _, 4, rfl, fun h => ?_, fun h H' d s' nd' e' => ?_⟩
    rotate_left 1
    · refine q1 _ _ ?_ _ d s' nd' e'
      rw [List.length_map] at h ⊢
      exact if_pos (by omega)
    have h4 : ¬ 4 < S.layers.length := by rw [List.length_map] at h; omega
    have er : roomS S = match roomL S S.layers with
      | some x => some x
      | none => if 8 < S.moves.length then some ((S.moves.length : Int), 8) else none := if_neg h4
    refine ⟨_, rfl, p, _, dx, _, _, rfl, hob, TC.cM, TC.n1, fM_layers, L, rfl, ⟨_, .inl (.inl hL)⟩, for_list (K := K) (a := L) (xs := S.layers.map V.int) (fun i σ H' => Same H H' ∧ (∃ y1, σ = [some (.ref p), y1]) ∧ ∀ (j : Nat) l', j < i → S.layers[j]? = some l' → ¬ 8 < (rowsIn S l').length)
      ⟨Same.refl _, ⟨none, rfl⟩, fun j l' hj => absurd hj (Nat.not_lt_zero _)⟩ (fun i σ H' _ z => .inl (.inl (z.1 _ _ hL))) ?_ ?_⟩
    · rintro i x σ H1 hx ⟨s1, ⟨y1, rfl⟩, hb⟩
      obtain ⟨l, hl, rfl⟩ : ∃ l, S.layers[i]? = some l ∧ x = .int l := by
        rw [List.getElem?_map] at hx
        cases e : S.layers[i]? with
        | none => rw [e] at hx; cases hx
        | some l => rw [e] at hx; exact ⟨l, rfl, (Option.some.inj hx).symm⟩
      refine ⟨_, rfl, p, dx, _, rfl, s1 _ _ hob, rfl, _, rfl, p, L, R, B, M, S, l, rfl, cc.same s1, sm, nd, fun H2 X s2 nX eX => ?_⟩
      have s12 := s1.trans s2
      refine ⟨X, _, rfl, .inl (.inl (.inl eX)), _, 8, rfl, fun h => ⟨s12, ⟨_, rfl⟩, fun j l' hj e => ?_⟩, fun h H' d s' nd' e' => ?_⟩
      · rcases Nat.lt_succ_iff_lt_or_eq.mp hj with hj | hj
        · exact hb j l' hj e
        · rw [hj, hl] at e
          cases e
          rw [List.length_map] at h
          omega
      · refine q1 _ _ ?_ _ d (s12.trans s') (s12.free nd') e'
        rw [List.length_map] at h ⊢
        rw [er, roomL_at hb hl (by omega)]
    · rintro σ H1 ⟨s1, ⟨y1, rfl⟩, hb⟩
      rw [List.length_map] at hb
      have en : roomL S S.layers = none := roomL_none fun j l' e => hb j l' (List.getElem?_eq_some_iff.mp e).1 e
      rw [en] at er
      refine ⟨_, rfl, p, _, dx, _, _, rfl, s1 _ _ hob, TC.cM, TC.n4, fM_moves, M, _, rfl, .inl (.inl (.inl (s1 _ _ hM))), _, 8, rfl, fun h => q0 ?_ _ s1, fun h H' d s' nd' e' => ?_⟩
      · rw [er]
        exact if_neg (by omega)
      · refine q1 _ _ ?_ _ d (s1.trans s') (s1.free nd') e'
        rw [er, lms]
        exact if_pos (by omega)
end

theorem lcnew_listR {α : Type} {K : PySem.W.Frag} {a : Addr} {xs : List V} {g : TG} {tt : TT} {te : TE} {vs : List Nat} {σ : L2.St} {H1 : Hp} {D : Addr} {Qd : Hp → Prop} (At : Hp → V → α → Prop) (as : List α) (keep : ∀ {H H' : Hp} {v : V} {c : α}, TKeep K H H' → At H v c → At H' v c) (hl : as.length = xs.length) (hz : xs.length ≤ 1000) (hS : SqL K H1 a xs) (hD : H1 D = none)
    (hs : ∀ (i : Nat) (x : V) (c : α) (H : Hp) (R : V → Hp → Prop) (Z : Hp → Prop), xs[i]? = some x → as[i]? = some c → Same H1 H → (∀ y H4, Same H H4 → At H4 y c → R y H4) → g x (wipe σ vs) H fun σ2 H2 => wipe σ2 vs = wipe σ vs ∧ tt σ2 H2 fun b H3 => if b = true then te σ2 H3 R else Z H3)
    (hd : ∀ H ts, Same H1 H → H D = some (.lst ts) → Paired (At H) ts as → Qd H) :
    ∃ W : Nat → Nat → Hp → Prop, (∃ m, W 0 m (upd H1 D (.lst []))) ∧ ∀ i m H, W i m H →
      ((Itl K a).stop i H ∧ Qd H) ∨ ((Itl K a).go i H ∧ ∃ Nx : Hp → Prop, (∀ H', Nx H' → ∃ m', m' < m ∧ W (i + 1) m' H') ∧ ∀ x H', (Itl K a).yld i H x H' → g x (wipe σ vs) H' fun σ2 H2 => wipe σ2 vs = wipe σ vs ∧ tt σ2 H2 fun b H3 =>
        if b = true then te σ2 H3 fun y H4 => ∃ acc, H4 D = some (.lst acc) ∧ acc.length < sizeLine ∧ Nx (upd H4 D (.lst (acc ++ [y]))) else Nx H3) := by
  refine lc_list (K := K) (a := a) (xs := xs) (fun i H => Same H1 H ∧ ∃ ts, H D = some (.lst ts) ∧ ts.length = i ∧ Paired (At H) ts (as.take i)) ⟨same_upd hD, [], upd_same, rfl, .nil⟩ (fun i H _ p => p.1.seq hS) (fun i x H hx p => ?_) (fun H p => ?_)
  · have hi : i < xs.length := (List.getElem?_eq_some_iff.mp hx).1
    obtain ⟨c, hc⟩ : ∃ c, as[i]? = some c := ⟨_, List.getElem?_eq_getElem (by omega)⟩
    obtain ⟨s0, ts, eD, lt, pd⟩ := p
    refine hs i x c H _ _ hx hc s0 (fun y H4 s4 hy => ⟨ts, s4 _ _ eD, small1000 (by omega), ?_, ts ++ [y], upd_same, by rw [List.length_append, lt]; rfl, ?_⟩)
    · intro b o e
      rw [upd_ne (ne_of_none e hD)]
      exact s4 _ _ (s0 _ _ e)
    · have k : TKeep K H4 (upd H4 D (.lst (ts ++ [y]))) := fun a zs h => tk_updL (s4 _ _ eD) _ _ h
      rw [List.take_add_one, hc]
      exact Paired.snocP (Paired.mono pd fun _ _ h => keep k (keep (Same.tk s4) h)) (keep k hy)
  · obtain ⟨s0, ts, eD, lt, pd⟩ := p
    refine hd H ts s0 eD ?_
    rw [List.take_of_length_le (by omega)] at pd
    exact pd
def rowsOf (S : MS) (l : Int) : List RW := (S.rows.filter fun r => decide (r.2.1 = l)).map fun r => (r.2.2.1, r.2.2.2)
def backS (S : MS) (l : Int) : Option Int := (asV S.backs l).getD none
def backI (S : MS) (l : Int) : Option Int := match backS S l with
  | none => none
  | some b => if b ∈ rowsIn S l then some (((rowsIn S l).idxOf b : Nat) : Int) else none
def sheetS (S : MS) : List LY := S.layers.map fun l => (rowsOf S l, backI S l)
theorem asV_mem {α : Type} {l : List (Int × α)} {r : Int × α} (nd : (l.map (·.1)).Nodup) (h : r ∈ l) : asV l r.1 = some r.2 := by
  obtain ⟨i, hi⟩ := List.mem_iff_getElem?.mp h
  exact asV_at nd hi
theorem idx_before {b : Int} : ∀ {l : List Int} {m : Nat}, m < l.idxOf b → l[m]? ≠ some b
  | [], m, h => by simp at h
  | a :: l, m, h => by
    by_cases e : a = b
    · subst e
      simp at h
    · have hc : (a :: l).idxOf b = l.idxOf b + 1 := by
        have hb : (a == b) = false := by simpa using e
        rw [List.idxOf_cons, hb]
        rfl
      rw [hc] at h
      cases m with
      | zero =>
        intro z
        exact e (Option.some.inj z)
      | succ m => exact idx_before (l := l) (m := m) (by omega)
theorem inV_non (l : List Int) : inV .non (l.map V.int) = false := by
  induction l with
  | nil => rfl
  | cons a l ih => exact ih
section
variable {P : Program} {w : World} {K : PySem.W.Frag} {mg : Str → Option Value} {base : Heap}
def sp_Made__layer_made (K : PySem.W.Frag) (CT : Nat → Addr) : Sp := fun vs H Q _ => ∃ (p L R B M : Addr) (S : MS) (l : Int), vs = [.ref p, .int l] ∧ MadeC K (CT 0) H p L R B M S ∧ S.small 900 ∧ S.nd ∧ ∀ H' v, Same H H' → LyAt K H' v (rowsOf S l, backI S l) → Q v H'
theorem ok_Made__layer_made {f : Addr} {fd : FuncData} (F : Fun K "layer_made" "Made.layer_made" s_Made__layer_made f fd) (T : Txt K mg) {CT : Nat → Addr} (TC : ClT K w mg CT) (D_Made__rows_in : Ml P w K mg base 1 (CT 0) "rows_in" ["self", "layer"] (sp_Made__rows_in K CT)) : FnOk P w K mg base CX0 2 f fd ["self", "layer"] (sp_Made__layer_made K CT) := by
  refine F.ok sc_Made__layer_made (fun vs H Q E h => ?_) (fun cdv A outer s H vs Q E hr h => ?_)
  · obtain ⟨p, L, R, B, M, S, l, rfl, _⟩ := h
    rfl
  · obtain ⟨p, L, R, B, M, S, l, rfl, c, sm, nd, q⟩ := h
    obtain ⟨dx, hob⟩ := c.ob
    refine ⟨_, (pss_cons (ps_set (i := 2) sc_Made__layer_made.nd rfl (Or.inl rfl) (pe_mth D_Made__rows_in TC.cM (hr.mono (by omega)) (pv 0) (pa_cons (pv 1) pa_nil)))
      (pss_cons (ps_set (i := 3) sc_Made__layer_made.nd rfl (Or.inl rfl) (pe_dget1 (Nat.lt_of_le_of_lt (Nat.add_le_add_left (show 1 ≤ 64 by decide) _) hr.units) (pe_fld (pv 0) rfl) (pv 1) ⟨rfl, rfl, rfl, rfl⟩))
      (pss_cons (ps_set (i := 4) sc_Made__layer_made.nd rfl (Or.inl rfl) (pe_callTy call_tuple_of (by rfl) T.b_tuple (by decide +kernel) (pa_cons (pe_lc (own := [("number", 5)]) (g := (gName 5)) (tt := tYes) (by rfl) sc_Made__layer_made.nd (pi_list (pv 2)) (blkOk_by (own := [("number", 5)]) (N := ["self", "layer", "numbers", "back", "rows", "number"]) (sc := defScope s_Made__layer_made) (by decide +kernel)) (fun _ _ _ _ _ => (pg_name (i := 5) sc_Made__layer_made.nd rfl (Or.inl rfl))) (fun _ _ _ _ _ => pts_nil) (fun _ _ _ _ _ => (pe_slice (r := rSlA K) sl_tupA (pe_dget (Nat.lt_of_le_of_lt (Nat.add_le_add_left (show 1 ≤ 64 by decide) _) hr.units) (pe_fldK (K := K) (pv 0) rfl) (pv 5) (fun _ _ => rfl)) (po_some pe_int) po_none))) pa_nil)))
      (pss_one (ps_ret (pe_tup (pa_cons (pv 4) (pa_cons (pe_ifExp (pt_cmpR op_in_seq (pv 3) (pv 2) (by rfl)) (pe_bm PySem.F.plainAttrs_list PySem.F.slot_list_index PySem.F.type_list_index mt_index (pv 2) (pa_cons (pv 3) pa_nil)) pe_non) pa_nil)))))))), ?_⟩
    refine ⟨_, rfl, p, dx, _, rfl, hob, rfl, _, rfl, p, L, R, B, M, S, l, rfl, c, sm, nd, fun H1 X s1 nX eX => ?_⟩
    have c1 := c.same s1
    obtain ⟨kb, hB, hBk⟩ := c1.bk
    obtain ⟨kvs, hR, hA⟩ := c1.rw
    have hob1 := s1 _ _ hob
    refine ⟨_, rfl, p, _, dx, _, _, rfl, hob1, TC.cM, TC.n3, fM_backs, B, rfl, .inl ⟨_, .inl hB⟩, _, rfl, _, DGet.k (k := Sum.inl l) hB, ?_⟩
    have eb : (valV kb (Sum.inl l)).getD .non = bkV (backS S l) := by
      unfold backS
      rcases AsP.val hBk l with ⟨e1, e2⟩ | ⟨x, v, e1, e2, e3⟩
      · rw [e1, e2]; rfl
      · rw [e1, e2]; exact e3
    rw [eb]
    generalize hbk : backS S l = bk
    refine ⟨_, rfl, X, rfl, ⟨_, .inl (.inl eX)⟩, fun D hD => ?_⟩
    have lf : (S.rows.filter fun r => decide (r.2.1 = l)).length ≤ 900 := Nat.le_trans (List.length_filter_le _ _) sm.2.1
    refine lcnew_listR (RowAt K) (rowsOf S l) (fun k h => RowAt.keep k h) (by unfold rowsOf rowsIn; simp) (by unfold rowsIn; rw [List.length_map, List.length_map]; omega) (.inl (.inl eX)) hD (fun i u m H2 R' Z hx hm s2 hR' => ?_) (fun H2 ts s2 hL pd => ?_)
    · obtain ⟨r, hr1, rfl, rfl⟩ : ∃ r, (S.rows.filter fun r => decide (r.2.1 = l))[i]? = some r ∧ u = .int r.1 ∧ m = (r.2.2.1, r.2.2.2) := by
        unfold rowsIn at hx
        unfold rowsOf at hm
        rw [List.getElem?_map] at hm
        rw [List.getElem?_map, List.getElem?_map] at hx
        cases e : (S.rows.filter fun r => decide (r.2.1 = l))[i]? with
        | none => rw [e] at hm; cases hm
        | some r =>
          rw [e] at hm hx
          exact ⟨r, rfl, (Option.some.inj hx).symm, (Option.some.inj hm).symm⟩
      have has := asV_mem nd (List.mem_filter.mp (List.mem_of_getElem? hr1)).1
      obtain ⟨v', hv', pr, rfl, hpr⟩ : ∃ v', valV kvs (Sum.inl r.1) = some v' ∧ T3At K H1 v' r.2 := by
        rcases AsP.val hA r.1 with ⟨e, _⟩ | ⟨x', v', e1, e2, e3⟩
        · rw [has] at e; cases e
        · rw [has] at e1; cases e1; exact ⟨v', e2, e3⟩
      have hg : DGet H2 R (.int r.1) (some (.ref pr)) := by
        rw [← hv']
        exact DGet.k (k := Sum.inl r.1) (s2 _ _ hR)
      refine ⟨rfl, yes_ok ⟨_, rfl, p, _, dx, _, _, rfl, s2 _ _ hob1, TC.cM, TC.n2, fM_rows, _, rfl, R, _, rfl, hg, 1, rfl, pr, _, rfl, Same.sqT s2 hpr, fun z => absurd z.1 (by show ¬ (1 : Nat) = 0; decide), fun _ t nt => ?_⟩⟩
      have e1 : upd H2 t (.tup (cutV [.int r.2.1, .int r.2.2.1, .int r.2.2.2] (some 1) none)) t = some (.tup [.int r.2.2.1, .int r.2.2.2]) := upd_same
      exact hR' _ _ (same_upd nt) ⟨t, rfl, .inl (.inl e1)⟩
    · refine ⟨D, ts, rfl, .inl ⟨.inl (.inl hL), fun P nP => ?_⟩⟩
      obtain ⟨s3, e3⟩ := new_at (.tup ts) nP
      generalize upd H2 P (.tup ts) = H3 at s3 e3 ⊢
      have eX3 := s3 _ _ (s2 _ _ eX)
      have sA := (s1.trans s2).trans s3
      have fin : ∀ (o : Option Int) p5, H3 p5 = none → backI S l = o → LyAt K (upd H3 p5 (.tup [.ref P, bkV o])) (.ref p5) (rowsOf S l, backI S l) := fun o p5 np5 ho => by
        have s5 := same_upd (o := .tup [.ref P, bkV o]) np5
        rw [ho]
        exact ⟨p5, _, rfl, .inl (.inl upd_same), P, ts, rfl, .inl (.inl (s5 _ _ e3)), Paired.mono pd fun _ _ h => RowAt.keep (Same.tk (s3.trans s5)) h⟩
      have fb : flatV (bkV bk) = true := by cases bk <;> rfl
      refine ⟨_, rfl, _, rfl, _, rfl, X, _, rfl, .inl (.inl (.inl eX3)), fb, flat_ints _, ?_⟩
      show ∃ k, V.bl (inV (bkV bk) ((rowsIn S l).map V.int)) = .bl k ∧ _
      cases bk with
      | none =>
        refine ⟨_, rfl, ifN (inV_non _) ⟨(by show 2 ≤ sizeLine; decide), fun p5 np5 => ?_⟩⟩
        have hbI : backI S l = none := by
          unfold backI
          rw [hbk]
        exact q _ _ (sA.trans (same_upd np5)) (fin none p5 np5 hbI)
      | some b =>
        have ei : inV (bkV (some b)) ((rowsIn S l).map V.int) = decide (b ∈ rowsIn S l) := inV_ints b _
        refine ⟨_, rfl, ?_⟩
        rw [ei]
        by_cases hm : b ∈ rowsIn S l
        · rw [decide_eq_true hm]
          refine iteT ?_
          have hlt := List.idxOf_lt_length_iff.mpr hm
          have hget : (rowsIn S l)[(rowsIn S l).idxOf b]? = some b := by
            rw [List.getElem?_eq_getElem hlt, List.getElem_idxOf hlt]
          refine ⟨_, rfl, .inl ⟨rfl, _, .inl (.inl eX3)⟩, _, rfl, X, _, _, (rowsIn S l).idxOf b, .int b, rfl, rfl, .inl (.inl eX3), rfl, flat_ints _, by rw [List.getElem?_map, hget]; rfl, by show (b == b) = true; simp, fun m z' hm' hz' => ?_, (by show 2 ≤ sizeLine; decide), fun p5 np5 => ?_⟩
          · rw [List.getElem?_map] at hz'
            cases e : (rowsIn S l)[m]? with
            | none => rw [e] at hz'; cases hz'
            | some b' =>
              rw [e] at hz'
              cases hz'
              show (b' == b) = false
              have hne : b' ≠ b := fun h => idx_before hm' (by rw [e, h])
              simpa using hne
          · have hbI : backI S l = some (((rowsIn S l).idxOf b : Nat) : Int) := by
              unfold backI
              rw [hbk]
              exact if_pos hm
            exact q _ _ (sA.trans (same_upd np5)) (fin _ p5 np5 hbI)
        · rw [decide_eq_false hm]
          refine iteF ⟨(by show 2 ≤ sizeLine; decide), fun p5 np5 => ?_⟩
          have hbI : backI S l = none := by
            unfold backI
            rw [hbk]
            exact if_neg hm
          exact q _ _ (sA.trans (same_upd np5)) (fin none p5 np5 hbI)
def sp_Made__sheet_made (K : PySem.W.Frag) (CT : Nat → Addr) : Sp := fun vs H Q _ => ∃ (p L R B M : Addr) (S : MS), vs = [.ref p] ∧ MadeC K (CT 0) H p L R B M S ∧ S.small 900 ∧ S.nd ∧ (S.layers = [] → ∀ H', Same H H' → Q .non H') ∧ (S.layers ≠ [] → ∀ H' v, Same H H' → ShAt K H' v (sheetS S) 0 0 S.moves → Q v H')
theorem ok_Made__sheet_made {f : Addr} {fd : FuncData} (F : Fun K "sheet_made" "Made.sheet_made" s_Made__sheet_made f fd) (T : Txt K mg) {CT : Nat → Addr} (TC : ClT K w mg CT) (D_Made__layer_made : Ml P w K mg base 2 (CT 0) "layer_made" ["self", "layer"] (sp_Made__layer_made K CT)) : FnOk P w K mg base CX0 3 f fd ["self"] (sp_Made__sheet_made K CT) := by
  refine F.ok sc_Made__sheet_made (fun vs H Q E h => ?_) (fun cdv A outer s H vs Q E hr h => ?_)
  · obtain ⟨p, L, R, B, M, S, rfl, _⟩ := h
    rfl
  · obtain ⟨p, L, R, B, M, S, rfl, c, sm, nd, q0, q1⟩ := h
    obtain ⟨dx, hob⟩ := c.ob
    have hL := c.ly
    obtain ⟨ms, hM, hMs⟩ := c.mv
    refine ⟨_, (pss_cons (ps_if (pt_not (pt_truth (pe_fld (pv 0) rfl) (by intro _; rfl))) (pss_one (ps_ret pe_non)) pss_nil)
      (pss_one (ps_ret (pe_tup (pa_cons (pe_callTy call_tuple_of (by rfl) T.b_tuple (by decide +kernel) (pa_cons (pe_lc (own := [("layer", 1)]) (g := (gName 1)) (tt := tYes) (by rfl) sc_Made__sheet_made.nd (pi_list (pe_fld (pv 0) rfl)) (blkOk_by (own := [("layer", 1)]) (N := ["self", "layer"]) (sc := defScope s_Made__sheet_made) (by decide +kernel)) (fun _ _ _ _ _ => (pg_name (i := 1) sc_Made__sheet_made.nd rfl (Or.inl rfl))) (fun _ _ _ _ _ => pts_nil) (fun _ _ _ _ _ => (pe_mth D_Made__layer_made TC.cM (hr.mono (by omega)) (pv 0) (pa_cons (pv 1) pa_nil)))) pa_nil)) (pa_cons (pe_tup (pa_cons pe_int (pa_cons pe_int (pa_cons (pe_callTy call_tuple_of (by rfl) T.b_tuple (by decide +kernel) (pa_cons (pe_fld (pv 0) rfl) pa_nil)) pa_nil)))) pa_nil)))))), ?_⟩
    refine ⟨_, rfl, p, _, dx, _, _, rfl, hob, TC.cM, TC.n1, fM_layers, _, .inl ⟨_, .inl (.inl hL), rfl⟩, ?_⟩
    by_cases hn : S.layers = []
    · rw [hn]
      exact iteT (q0 hn _ (Same.refl _))
    have : (!(S.layers.map V.int).isEmpty) = true := by
      cases h : S.layers with
      | nil => exact absurd h hn
      | cons a t => rfl
    rw [this]
    refine iteF ?_
    refine ⟨_, rfl, p, _, dx, _, _, rfl, hob, TC.cM, TC.n1, fM_layers, L, rfl, ⟨_, .inl (.inl hL)⟩, fun D hD => ?_⟩
    refine lcnew_listR (LyAt K) (sheetS S) (fun k h => LyAt.keep k h) (by unfold sheetS; rw [List.length_map, List.length_map]) (by rw [List.length_map]; have := sm.1; omega) (.inl (.inl hL)) hD (fun i u m H2 R' Z hx hm s2 hR' => ?_) (fun H2 ts s2 hL2 pd => ?_)
    · obtain ⟨l, hl, rfl, rfl⟩ : ∃ l, S.layers[i]? = some l ∧ u = .int l ∧ m = (rowsOf S l, backI S l) := by
        unfold sheetS at hm
        rw [List.getElem?_map] at hm hx
        cases e : S.layers[i]? with
        | none => rw [e] at hm; cases hm
        | some l =>
          rw [e] at hm hx
          exact ⟨l, rfl, (Option.some.inj hx).symm, (Option.some.inj hm).symm⟩
      exact ⟨rfl, yes_ok ⟨_, rfl, p, dx, _, rfl, s2 _ _ hob, rfl, _, rfl, p, L, R, B, M, S, l, rfl, c.same s2, sm, nd, fun H3 v s3 hv => hR' _ _ s3 hv⟩⟩
    · refine ⟨D, ts, rfl, .inl ⟨.inl (.inl hL2), fun P nP => ?_⟩⟩
      obtain ⟨s3, e3⟩ := new_at (.tup ts) nP
      generalize upd H2 P (.tup ts) = H3 at s3 e3 ⊢
      have s23 := s2.trans s3
      refine ⟨_, rfl, p, _, dx, _, _, rfl, s23 _ _ hob, TC.cM, TC.n4, fM_moves, M, ms, rfl, .inl ⟨.inl (.inl (s23 _ _ hM)), fun P2 nP2 => ?_⟩⟩
      obtain ⟨s4, e4⟩ := new_at (.tup ms) nP2
      generalize upd H3 P2 (.tup ms) = H4 at s4 e4 ⊢
      refine ⟨(by show 3 ≤ sizeLine; decide), fun P3 nP3 => ?_⟩
      obtain ⟨s5, e5⟩ := new_at (.tup [.int 0, .int 0, .ref P2]) nP3
      generalize upd H4 P3 (.tup [.int 0, .int 0, .ref P2]) = H5 at s5 e5 ⊢
      refine ⟨(by show 2 ≤ sizeLine; decide), fun P4 nP4 => ?_⟩
      obtain ⟨s6, e6⟩ := new_at (.tup [.ref P, .ref P3]) nP4
      generalize upd H5 P4 (.tup [.ref P, .ref P3]) = H6 at s6 e6 ⊢
      have s46 := s4.trans (s5.trans s6)
      have s36 := s3.trans s46
      exact q1 hn _ _ (s2.trans s36) ⟨P4, _, _, rfl, .inl (.inl e6), ⟨P, ts, rfl, .inl (.inl (s46 _ _ e3)), Paired.mono pd fun _ _ h => LyAt.keep (Same.tk s36) h⟩, ⟨P3, _, rfl, .inl (.inl (s6 _ _ e5)), P2, ms, rfl, .inl (.inl ((s5.trans s6) _ _ e4)), Paired.mono hMs fun _ _ h => MoveAt.keep (Same.tk (s2.trans s36)) h⟩⟩
end

/-! ### rolls -/
def mkS (ds : List (Int × Dd)) : MS := ds.foldl (fun S x => fol S x.1 x.2) MS.nil
theorem mkS_snoc (ds : List (Int × Dd)) (n : Int) (δ : Dd) : mkS (ds ++ [(n, δ)]) = fol (mkS ds) n δ := by
  unfold mkS
  rw [List.foldl_append]
  rfl
structure RollC (K : PySem.W.Frag) (CT : Nat → Addr) (H : Hp) (p D m L R B M : Addr) (n : Int) (ds : List (Int × Dd)) : Prop where
  ob : ∃ dx, H p = some (.ins (CT 1) dx (fR D m n))
  dd : ∃ kvs, H D = some (.dK kvs) ∧ AsP (DeedAt K H) kvs ds
  md : MadeC K (CT 0) H m L R B M (mkS ds)
  pm : p ≠ m
  dr : D ≠ R
  db : D ≠ B
theorem RollC.same {K : PySem.W.Frag} {CT : Nat → Addr} {H H' : Hp} {p D m L R B M : Addr} {n : Int} {ds : List (Int × Dd)} (h : RollC K CT H p D m L R B M n ds) (s : Same H H') : RollC K CT H' p D m L R B M n ds := by
  obtain ⟨⟨dx, h1⟩, ⟨kvs, h2, h3⟩, h4, a, b, c⟩ := h
  exact ⟨⟨dx, s _ _ h1⟩, ⟨kvs, s _ _ h2, AsP.mono (fun _ _ => DeedAt.keep (Same.tk s)) h3⟩, h4.same s, a, b, c⟩
theorem ints_dg' {K : PySem.W.Frag} {fx H : Hp} {b : Bool} : ∀ ns : List Int, DgAll K fx H b (ns.map V.int) (ns.map .int)
  | [] => .nil
  | _ :: t => .cons (.int _) (ints_dg' t)
theorem DeedAt.dg {K : PySem.W.Frag} {fx H : Hp} {b : Bool} {v : V} {δ : Dd} (h : DeedAt K H v δ) : Dg K fx H b v (ddD δ) := by
  obtain ⟨p, rfl, hp⟩ := h
  exact .tup hp (.cons (.str _) (ints_dg' _))
theorem asPut_new {α : Type} {l : List (Int × α)} {n : Int} {x : α} (h : ∀ y ∈ l, y.1 ≠ n) : asPut l n x = l ++ [(n, x)] := by
  unfold asPut
  rw [if_neg]
  intro z
  obtain ⟨y, hy, hn⟩ := List.any_eq_true.mp z
  exact h y hy (of_decide_eq_true hn)
def DsOk (ds : List (Int × Dd)) (n : Int) : Prop := ds.length ≤ 300 ∧ ∀ x ∈ ds, x.1 < n
section
variable {P : Program} {w : World} {K : PySem.W.Frag} {mg : Str → Option Value} {base : Heap}
def sp_Roll__init (K : PySem.W.Frag) (CT : Nat → Addr) : Sp := fun vs H Q _ => ∃ (H0 : Hp) (p dx : Addr), vs = [.ref p] ∧ H p = some (.ins (CT 1) dx []) ∧ Same H0 H ∧ H0 p = none ∧ ∀ (H' : Hp) (D m L R B M : Addr), Same H0 H' → H0 D = none → H0 L = none → H0 M = none → H0 m = none → H0 R = none → H0 B = none → RollC K CT H' p D m L R B M 0 [] → Q .non H'
theorem ok_Roll__init {f : Addr} {fd : FuncData} (F : Fun K "__init__" "Roll.__init__" s_Roll__init f fd) (T : Txt K mg) {CT : Nat → Addr} (TC : ClT K w mg CT) (D_Made__init : Mi P w K mg base 1 (CT 0) "Made" ["self"] (sp_Made__init K CT)) : FnOk P w K mg base CX0 3 f fd ["self"] (sp_Roll__init K CT) := by
  refine F.ok sc_Roll__init (fun vs H Q E h => ?_) (fun cdv A outer s H vs Q E hr h => ?_)
  · obtain ⟨H0, p, dx, rfl, _⟩ := h
    rfl
  · obtain ⟨H0, p, dx, rfl, hp, s0, n0, q⟩ := h
    refine ⟨_, (pss_cons (ps_fld (pv 0) pe_dnewK rfl)
      (pss_cons (ps_fld (pv 0) (pe_new D_Made__init (hr.mono (by omega)) (by rfl)) rfl)
      (pss_one (ps_fld (pv 0) pe_int rfl)))), ?_⟩
    refine fun D nD => ?_
    obtain ⟨s1, e1⟩ := new_at (.dK []) nD
    generalize upd H D (.dK []) = H1 at s1 e1 ⊢
    have p1 := s1 _ _ hp
    have D0 : H0 D = none := s0.free nD
    refine ⟨_, rfl, p, _, dx, _, rfl, p1, TC.cR, TC.r1, (by show 0 < 1000; decide), ?_⟩
    have s2 := same_n (s0.trans s1) n0 (.ins (CT 1) dx (putF "deeds" (.ref D) []))
    have e2 : upd H1 p (.ins (CT 1) dx (putF "deeds" (.ref D) [])) D = some (.dK []) := by rw [upd_ne (ne_of e1 p1 (by intro z; cases z))]; exact e1
    have p2 : upd H1 p (.ins (CT 1) dx (putF "deeds" (.ref D) [])) p = some (.ins (CT 1) dx (putF "deeds" (.ref D) [])) := upd_same
    generalize upd H1 p (.ins (CT 1) dx (putF "deeds" (.ref D) [])) = H2 at s2 e2 p2 ⊢
    intro x dm nx ndm nex
    have s3 : Same H2 (upd (upd H2 dm (.own x)) x (.ins (CT 0) dm [])) := fun b o e => by
      rw [upd_ne (ne_of_none e nx), upd_ne (ne_of_none e ndm)]
      exact e
    refine ⟨H2, x, dm, rfl, upd_same, s3, nx, fun H3 L R B M mN => ⟨rfl, ?_⟩⟩
    have p3 := mN.s _ _ p2
    refine ⟨_, rfl, p, _, dx, _, rfl, p3, TC.cR, TC.r2, (by show 1 < 1000; decide), _, rfl, p, _, dx, _, rfl, upd_same, TC.cR, TC.r3, (by show 2 < 1000; decide), ?_⟩
    have ne : ∀ {y : Addr}, H2 y = none → y ≠ p := fun {y} h z => by rw [z, p2] at h; cases h
    have s4 := same_n (s2.trans mN.s) n0 (.ins (CT 1) dx (putF "made" (.ref x) (putF "deeds" (.ref D) [])))
    have s5 := same_n s4 n0 (.ins (CT 1) dx (putF "numbered" (.int 0) (putF "made" (.ref x) (putF "deeds" (.ref D) []))))
    have ky : ∀ (y : Addr) (o : HO), y ≠ p → H3 y = some o → upd (upd H3 p (.ins (CT 1) dx (putF "made" (.ref x) (putF "deeds" (.ref D) [])))) p (.ins (CT 1) dx (putF "numbered" (.int 0) (putF "made" (.ref x) (putF "deeds" (.ref D) [])))) y = some o := fun y o hy e => by rw [upd_ne hy, upd_ne hy]; exact e
    have tk : TKeep K H3 (upd (upd H3 p (.ins (CT 1) dx (putF "made" (.ref x) (putF "deeds" (.ref D) [])))) p (.ins (CT 1) dx (putF "numbered" (.int 0) (putF "made" (.ref x) (putF "deeds" (.ref D) []))))) := fun a xs h => tk_i (K := K) upd_same a xs (tk_i (K := K) p3 a xs h)
    refine q _ D x L R B M s5 D0 (s2.free mN.nL) (s2.free mN.nM) (s2.free nx) (s2.free mN.nR) (s2.free mN.nB) ⟨⟨dx, upd_same⟩, ⟨[], ky _ _ (ne_of (mN.s _ _ e2) p3 (by intro z; cases z)) (mN.s _ _ e2), .nil⟩, ?_, Ne.symm (ne nx), ?_, ?_⟩
    · exact mN.c.keep tk (fun o => ky _ o (ne nx)) (fun o => ky _ o (ne mN.nL)) (fun o => ky _ o (ne mN.nR)) (fun o => ky _ o (ne mN.nB)) (fun o => ky _ o (ne mN.nM))
    · intro z
      have := mN.nR
      rw [← z, e2] at this
      cases this
    · intro z
      have := mN.nB
      rw [← z, e2] at this
      cases this
def sp_Roll__put (K : PySem.W.Frag) (c : Nat → Addr) (CT : Nat → Addr) : Sp := fun vs H Q E => ∃ (p D m L R B M : Addr) (n : Int) (ds : List (Int × Dd)) (fx : Hp) (b : Bool) (v : V) (d : PyData), vs = [.ref p, v] ∧ RollC K CT H p D m L R B M n ds ∧ DsOk ds n ∧ (mkS ds).small 300 ∧ (mkS ds).nd ∧ Dg K fx H b v d ∧ (∀ es, d = .tuple es → es.length ≤ 1000) ∧
  (takD (mkS ds) d = false → ∀ H', Same H H' → E (.ref (c 11)) none H') ∧ (takD (mkS ds) d = true → ∃ δ, DeedAt K H v δ ∧ rowOk (mkS ds) δ ∧ (fol (mkS ds) n δ).nd ∧
    (∀ a b', roomS (fol (mkS ds) n δ) = some (a, b') → ∀ H' d', Same H H' → H d' = none → H' d' = some (.xd [("most", .int b'), ("many", .int a)]) → E (.ref (c 14)) (some d') H') ∧
    (roomS (fol (mkS ds) n δ) = none → ∀ H' m' L' R' B' M', (∀ y o, y ≠ p → y ≠ D → H y = some o → H' y = some o) → H L' = none → H M' = none → H m' = none → H R' = none → H B' = none → RollC K CT H' p D m' L' R' B' M' (n + 1) (ds ++ [(n, δ)]) → Q (.int n) H'))
theorem ok_Roll__put {f : Addr} {fd : FuncData} {c : Nat → Addr} {LE : Addr} (F : Fun K "put" "Roll.put" s_Roll__put f fd) (T : Txt K mg) (TX : ExcN K mg c LE) {CT : Nat → Addr} (TC : ClT K w mg CT) (D_Made__takes : Ml P w K mg base 6 (CT 0) "takes" ["self", "thing"] (sp_Made__takes K CT)) (D_Made__twin : Ml P w K mg base 3 (CT 0) "twin" ["self"] (sp_Made__twin K CT)) (D_Made__follow : Ml P w K mg base 2 (CT 0) "follow" ["self", "number", "deed"] (sp_Made__follow K CT)) (D_Made__need_room : MlX P w K mg base 4 (CT 0) "need_room" ["self"] (sp_Made__need_room K c CT)) : FnOk P w K mg base (L2.CX P w) 7 f fd ["self", "deed"] (sp_Roll__put K c CT) := by
  refine F.okX sc_Roll__put (fun vs H Q E h => ?_) (fun cdv A outer s H vs Q E hr h => ?_)
  · obtain ⟨p, D, m, L, R, B, M, n, ds, fx, b, v, d, rfl, _⟩ := h
    rfl
  · obtain ⟨p, D, m, L, R, B, M, n, ds, fx, b, v, d, rfl, rc, dok, sm, nd, hd, hlen, q0, q1⟩ := h
    obtain ⟨dx, hob⟩ := rc.ob
    obtain ⟨dm, mob⟩ := rc.md.ob
    refine ⟨_, (pss_cons (ps_if (pt_not (pt_val (pe_mth D_Made__takes TC.cM (hr.mono (by omega)) (pe_fld (pv 0) rfl) (pa_cons (pv 1) pa_nil)))) (pss_one (ps_raise rfl (takes_of rfl rfl rfl rfl) (pmk_own PySem.F.excBase_ValueError (TX.nw 11 (by decide)) (TX.g 11 "NoDeed" rfl) (TX.kp 11 (by decide)) (TX.rs (i := 11) (by decide)) rfl))) pss_nil)
      (pss_cons (ps_set (i := 2) sc_Roll__put.nd rfl (Or.inl rfl) (pe_fld (pv 0) rfl))
      (pss_cons (ps_set (i := 3) sc_Roll__put.nd rfl (Or.inl rfl) (pe_mth0 D_Made__twin TC.cM (hr.mono (by omega)) (pe_fld (pv 0) rfl)))
      (pss_cons (ps_expr (pe_mth D_Made__follow TC.cM (hr.mono (by omega)) (pv 3) (pa_cons (pv 2) (pa_cons (pv 1) pa_nil))))
      (pss_cons (ps_expr (pe_mthX0 D_Made__need_room TC.cM (hr.mono (by omega)) (takes_of rfl rfl rfl rfl) (pv 3)))
      (pss_cons (ps_dput (Nat.lt_of_le_of_lt (Nat.add_le_add_left (show 1 ≤ 64 by decide) _) hr.units) (pe_fld (pv 0) rfl) (pv 2) (pv 1) rfl)
      (pss_cons (ps_fld (pv 0) (pv 3) rfl)
      (pss_cons (ps_fld (pv 0) (pe_op op_add (pv 2) pe_int) rfl)
      (pss_one (ps_ret (pv 2))))))))))), ?_⟩
    refine ⟨_, rfl, p, _, dx, _, _, rfl, hob, TC.cR, TC.r2, fR_made, m, dm, _, rfl, mob, rfl, _, rfl, m, L, R, B, M, mkS ds, fx, b, v, d, rfl, rc.md, hd, hlen, fun H1 s1 => ⟨_, rfl, ?_⟩⟩
    cases et : takD (mkS ds) d with
    | false => exact iteT (q0 et _ s1)
    | true =>
    refine iteF ?_
    obtain ⟨δ, hδ, hok, ndf, qr, qt⟩ := q1 et
    have rc1 := rc.same s1
    obtain ⟨dx, hob⟩ := rc1.ob
    obtain ⟨dm, mob⟩ := rc1.md.ob
    refine ⟨_, rfl, p, _, dx, _, _, rfl, hob, TC.cR, TC.r3, fR_numbered, ?_⟩
    refine ⟨_, rfl, p, _, dx, _, _, rfl, hob, TC.cR, TC.r2, fR_made, m, dm, _, rfl, mob, rfl, m, L, R, B, M, mkS ds, rfl, rc1.md, fun H2 m' L' R' B' M' mN => ?_⟩
    obtain ⟨d', mob'⟩ := mN.c.ob
    refine ⟨_, rfl, m', d', _, rfl, mob', rfl, _, rfl, _, rfl, H1, m', L', R', B', M', mkS ds, δ, v, n, rfl, hδ.keep (Same.tk (s1.trans mN.s)), hok, ⟨by have := sm.1; omega, by have := sm.2.1; omega, by have := sm.2.2.1; omega, by have := sm.2.2.2; omega⟩, mN, fun H3 mN3 => ?_⟩
    obtain ⟨d3, mob3⟩ := mN3.c.ob
    have sm3 : (fol (mkS ds) n δ).small 900 := by
      obtain ⟨a1, a2, a3, a4⟩ := fol_small (n := n) hok sm
      exact ⟨by omega, by omega, by omega, by omega⟩
    refine ⟨_, rfl, m', d3, _, rfl, mob3, rfl, m', L', R', B', M', fol (mkS ds) n δ, rfl, mN3.c, sm3, ndf, fun hr H4 s4 => ?_, fun a b' hr H4 dd s4 nd4 e4 => ?_⟩
    rotate_left 1
    · exact qr a b' hr H4 dd ((s1.trans mN3.s).trans s4) ((s1.trans mN3.s).free nd4) e4
    have s14 := mN3.s.trans s4
    have c4 := mN3.c.same s4
    have hob4 := s14 _ _ hob
    obtain ⟨kvs, hD, hA⟩ := rc1.dd
    have hD4 := s14 _ _ hD
    have lk : kvs.length ≤ 300 := by rw [AsP.len hA]; exact dok.1
    refine ⟨_, rfl, _, rfl, p, _, dx, _, _, rfl, hob4, TC.cR, TC.r1, fR_deeds, _, rfl, D, _, rfl, DPut.k (k := Sum.inl n) hD4 (small1000 (by omega)), ?_⟩
    have hpD : p ≠ D := ne_of hob4 hD4 (by intro z; cases z)
    have hob5 : upd H4 D (.dK (putK kvs (Sum.inl n) v)) p = some (.ins (CT 1) dx (fR D m n)) := by rw [upd_ne hpD]; exact hob4
    have e5 : upd H4 D (.dK (putK kvs (Sum.inl n) v)) D = some (.dK (putK kvs (Sum.inl n) v)) := upd_same
    have k5 : ∀ y o, y ≠ D → H4 y = some o → upd H4 D (.dK (putK kvs (Sum.inl n) v)) y = some o := fun y o hy e => by rw [upd_ne hy]; exact e
    have t5 : TKeep K H4 (upd H4 D (.dK (putK kvs (Sum.inl n) v))) := tk_d hD4
    generalize upd H4 D (.dK (putK kvs (Sum.inl n) v)) = H5 at hob5 e5 k5 t5 ⊢
    refine ⟨_, rfl, _, rfl, p, _, dx, _, rfl, hob5, TC.cR, TC.r2, (by show 3 < 1000; decide), ?_⟩
    rw [fR_p2]
    refine ⟨_, rfl, _, _, rfl, rfl, _, rfl, p, _, dx, _, rfl, upd_same, TC.cR, TC.r3, (by show 3 < 1000; decide), _, rfl, ?_⟩
    rw [fR_p3]
    have k7 : ∀ (y : Addr) (o : HO), y ≠ p → H5 y = some o → upd (upd H5 p (.ins (CT 1) dx (fR D m' n))) p (.ins (CT 1) dx (fR D m' (n + 1))) y = some o := fun y o hy e => by rw [upd_ne hy, upd_ne hy]; exact e
    have t7 : TKeep K H5 (upd (upd H5 p (.ins (CT 1) dx (fR D m' n))) p (.ins (CT 1) dx (fR D m' (n + 1)))) := fun a xs h => tk_i (K := K) upd_same a xs (tk_i (K := K) hob5 a xs h)
    have nP : ∀ {y : Addr}, H1 y = none → y ≠ p := fun {y} h z => by rw [z, hob] at h; cases h
    have nD : ∀ {y : Addr}, H1 y = none → y ≠ D := fun {y} h z => by rw [z, hD] at h; cases h
    have t47 : TKeep K H4 (upd (upd H5 p (.ins (CT 1) dx (fR D m' n))) p (.ins (CT 1) dx (fR D m' (n + 1)))) := fun a xs h => t7 a xs (t5 a xs h)
    have kk : ∀ (y : Addr) (o : HO), y ≠ p → y ≠ D → H4 y = some o → upd (upd H5 p (.ins (CT 1) dx (fR D m' n))) p (.ins (CT 1) dx (fR D m' (n + 1))) y = some o := fun y o h1 h2 e => k7 y o h1 (k5 y o h2 e)
    refine qt hr _ m' L' R' B' M' (fun y o h1 h2 e => kk y o h1 h2 ((s1.trans s14) _ _ e)) (s1.free mN.nL) (s1.free mN.nM) (s1.free mN.np) (s1.free mN.nR) (s1.free mN.nB) ⟨⟨dx, upd_same⟩, ⟨_, k7 _ _ (Ne.symm hpD) e5, ?_⟩, ?_, Ne.symm (nP mN.np), Ne.symm (nD mN.nR), Ne.symm (nD mN.nB)⟩
    · have hA4 : AsP (DeedAt K (upd (upd H5 p (.ins (CT 1) dx (fR D m' n))) p (.ins (CT 1) dx (fR D m' (n + 1))))) kvs ds := AsP.mono (fun _ _ h => DeedAt.keep t47 (DeedAt.keep (Same.tk s14) h)) hA
      have := AsP.put hA4 (k := n) (v := v) (x := δ) (DeedAt.keep t47 (DeedAt.keep (Same.tk (s1.trans s14)) hδ))
      rw [asPut_new (fun y hy => by have := dok.2 y hy; omega)] at this
      exact this
    · rw [mkS_snoc]
      exact c4.keep t47 (fun o => kk _ o (nP mN.np) (nD mN.np)) (fun o => kk _ o (nP mN.nL) (nD mN.nL)) (fun o => kk _ o (nP mN.nR) (nD mN.nR)) (fun o => kk _ o (nP mN.nB) (nD mN.nB)) (fun o => kk _ o (nP mN.nM) (nD mN.nM))
end

def NdAt (K : PySem.W.Frag) (H : Hp) (v : V) (x : Int × Dd) : Prop := ∃ t u, v = .ref t ∧ SqT K H t [.int x.1, u] ∧ DeedAt K H u x.2
theorem NdAt.keep {K : PySem.W.Frag} {H H' : Hp} {v : V} {x : Int × Dd} (k : TKeep K H H') (h : NdAt K H v x) : NdAt K H' v x := by
  obtain ⟨t, u, e, h1, h2⟩ := h
  exact ⟨t, u, e, k _ _ h1, h2.keep k⟩
def namO : Dd → Option Int
  | .layer => none
  | .move _ _ _ => none
  | .row l _ _ => some l
  | .draw r _ => some r
  | .hold r _ => some r
  | .drop r => some r
  | .round r => some r
  | .straight l => some l
def stdD (ds : List (Int × Dd)) (d : PyData) : Bool := isWf d 0 && (match d with
  | .int n => (asV ds n).isSome
  | _ => false)
def leanL (ds : List (Int × Dd)) (k : Int) : List Int := (ds.filter fun x => decide (namO x.2 = some k)).map (·.1)
theorem bkV_eq {o : Option Int} {k : Int} : (bkV o = .int k) ↔ o = some k := by
  cases o with
  | none => exact ⟨(fun h => nomatch h), (fun h => nomatch h)⟩
  | some b =>
    constructor
    · intro h
      rw [V.int.inj h]
    · intro h
      rw [Option.some.inj h]
      rfl
theorem pd_items {K : PySem.W.Frag} {H H' : Hp} (tk : TKeep K H H') : ∀ {ts : List Addr} {kvs : List (Key × V)} {ds : List (Int × Dd)}, Paired (fun (t : Addr) (q : Key × V) => H' t = some (.tup [kV q.1, q.2])) ts kvs → AsP (DeedAt K H) kvs ds → Paired (NdAt K H') (ts.map V.ref) ds
  | _, _, _, .nil, h => by
    cases h
    exact .nil
  | _, _, _, .cons h t, hA => by
    cases hA with
    | cons h2 t2 =>
      refine .cons ⟨_, _, rfl, ?_, DeedAt.keep tk h2.2⟩ (pd_items tk t t2)
      rw [h2.1] at h
      exact .inl (.inl h)
section
variable {P : Program} {w : World} {K : PySem.W.Frag} {mg : Str → Option Value} {base : Heap}
def sp_Roll__sheet_now (K : PySem.W.Frag) (CT : Nat → Addr) : Sp := fun vs H Q _ => ∃ (p D m L R B M : Addr) (n : Int) (ds : List (Int × Dd)), vs = [.ref p] ∧ RollC K CT H p D m L R B M n ds ∧ (mkS ds).small 900 ∧ (mkS ds).nd ∧ ((mkS ds).layers = [] → ∀ H', Same H H' → Q .non H') ∧ ((mkS ds).layers ≠ [] → ∀ H' v, Same H H' → ShAt K H' v (sheetS (mkS ds)) 0 0 (mkS ds).moves → Q v H')
theorem ok_Roll__sheet_now {f : Addr} {fd : FuncData} (F : Fun K "sheet_now" "Roll.sheet_now" s_Roll__sheet_now f fd) (T : Txt K mg) {CT : Nat → Addr} (TC : ClT K w mg CT) (D_Made__sheet_made : Ml P w K mg base 3 (CT 0) "sheet_made" ["self"] (sp_Made__sheet_made K CT)) : FnOk P w K mg base CX0 4 f fd ["self"] (sp_Roll__sheet_now K CT) := by
  refine F.ok sc_Roll__sheet_now (fun vs H Q E h => ?_) (fun cdv A outer s H vs Q E hr h => ?_)
  · obtain ⟨p, D, m, L, R, B, M, n, ds, rfl, _⟩ := h
    rfl
  · obtain ⟨p, D, m, L, R, B, M, n, ds, rfl, rc, sm, nd, q0, q1⟩ := h
    obtain ⟨dx, hob⟩ := rc.ob
    obtain ⟨dm, mob⟩ := rc.md.ob
    refine ⟨_, (pss_one (ps_ret (pe_mth0 D_Made__sheet_made TC.cM (hr.mono (by omega)) (pe_fld (pv 0) rfl)))), ?_⟩
    exact ⟨_, rfl, p, _, dx, _, _, rfl, hob, TC.cR, TC.r2, fR_made, m, dm, _, rfl, mob, rfl, m, L, R, B, M, mkS ds, rfl, rc.md, sm, nd, q0, q1⟩
def sp_Roll__standing (K : PySem.W.Frag) (CT : Nat → Addr) : Sp := fun vs H Q _ => ∃ (p D m L R B M : Addr) (n : Int) (ds : List (Int × Dd)), vs = [.ref p] ∧ RollC K CT H p D m L R B M n ds ∧ ∀ H' X us, Same H H' → H X = none → H' X = some (.lst us) → Paired (NdAt K H') us ds → Q (.ref X) H'
theorem ok_Roll__standing {f : Addr} {fd : FuncData} (F : Fun K "standing" "Roll.standing" s_Roll__standing f fd) (T : Txt K mg) {CT : Nat → Addr} (TC : ClT K w mg CT) : FnOk P w K mg base CX0 1 f fd ["self"] (sp_Roll__standing K CT) := by
  refine F.ok sc_Roll__standing (fun vs H Q E h => ?_) (fun cdv A outer s H vs Q E hr h => ?_)
  · obtain ⟨p, D, m, L, R, B, M, n, ds, rfl, _⟩ := h
    rfl
  · obtain ⟨p, D, m, L, R, B, M, n, ds, rfl, rc, q⟩ := h
    obtain ⟨dx, hob⟩ := rc.ob
    obtain ⟨kvs, hD, hA⟩ := rc.dd
    refine ⟨_, (pss_one (ps_ret (LiI.pe_listItems (by rfl) (pe_fld (pv 0) rfl) (by rfl) T.b_list (by decide +kernel)))), ?_⟩
    refine ⟨_, rfl, p, _, dx, _, _, rfl, hob, TC.cR, TC.r1, fR_deeds, D, kvs, rfl, hD, fun H' X ts s' nX nts _ eX pt => ?_⟩
    exact q H' X _ s' nX eX (pd_items (Same.tk s') pt hA)
def sp_named (K : PySem.W.Frag) : Sp := fun vs H Q _ => ∃ (v : V) (δ : Dd), vs = [v] ∧ DeedAt K H v δ ∧ ∀ H', Same H H' → Q (bkV (namO δ)) H'
theorem ok_named {f : Addr} {fd : FuncData} (F : Fun K "named" "named" s_named f fd) (T : Txt K mg) : FnOk P w K mg base CX0 1 f fd ["deed"] (sp_named K) := by
  refine F.ok sc_named (fun vs H Q E h => ?_) (fun cdv A outer s H vs Q E hr h => ?_)
  · obtain ⟨v, δ, rfl, _⟩ := h
    rfl
  · obtain ⟨v, δ, rfl, ⟨y, rfl, hy⟩, q⟩ := h
    refine ⟨_, (pss_one (ps_ret (pe_ifExp (pt_cmpR op_in_seq (pe_ix ix_tup (pv 0) pe_int (fun _ _ => rfl)) (pe_tup (pa_cons pe_str (pa_cons pe_str pa_nil))) (by rfl)) pe_non (pe_ix ix_tup (pv 0) pe_int (fun _ _ => rfl))))), ?_⟩
    refine ⟨_, rfl, y, _, 0, .str δ.word, rfl, rfl, hy, at0, (by show 2 ≤ sizeLine; decide), fun t nt => ?_⟩
    have s1 := same_upd (o := .tup [.str "layer", .str "move"]) nt
    have e1 : upd H t (.tup [.str "layer", .str "move"]) t = some (.tup [.str "layer", .str "move"]) := upd_same
    generalize upd H t (.tup [.str "layer", .str "move"]) = H1 at s1 e1 ⊢
    have hy1 := Same.sqT s1 hy
    refine ⟨t, _, rfl, .inr (.inl (.inl e1)), rfl, rfl, _, rfl, ?_⟩
    cases δ with
    | layer => exact ifY (by decide +kernel) (q _ s1)
    | move a b c => exact ifY (by show inV (.str "move") [.str "layer", .str "move"] = true; decide +kernel) (q _ s1)
    | row a b c => exact ifN (by show inV (.str "row") [.str "layer", .str "move"] = false; decide +kernel) ⟨_, rfl, y, _, 1, _, rfl, rfl, hy1, at_n 1 rfl, q _ s1⟩
    | draw a b => exact ifN (by show inV (.str "draw") [.str "layer", .str "move"] = false; decide +kernel) ⟨_, rfl, y, _, 1, _, rfl, rfl, hy1, at_n 1 rfl, q _ s1⟩
    | hold a b => exact ifN (by show inV (.str "hold") [.str "layer", .str "move"] = false; decide +kernel) ⟨_, rfl, y, _, 1, _, rfl, rfl, hy1, at_n 1 rfl, q _ s1⟩
    | drop a => exact ifN (by show inV (.str "drop") [.str "layer", .str "move"] = false; decide +kernel) ⟨_, rfl, y, _, 1, _, rfl, rfl, hy1, at_n 1 rfl, q _ s1⟩
    | round a => exact ifN (by show inV (.str "round") [.str "layer", .str "move"] = false; decide +kernel) ⟨_, rfl, y, _, 1, _, rfl, rfl, hy1, at_n 1 rfl, q _ s1⟩
    | straight a => exact ifN (by show inV (.str "straight") [.str "layer", .str "move"] = false; decide +kernel) ⟨_, rfl, y, _, 1, _, rfl, rfl, hy1, at_n 1 rfl, q _ s1⟩
def sp_Roll__need_standing (K : PySem.W.Frag) (c : Nat → Addr) (CT : Nat → Addr) : Sp := fun vs H Q E => ∃ (p D m L R B M : Addr) (n : Int) (ds : List (Int × Dd)) (fx : Hp) (b : Bool) (v : V) (d : PyData), vs = [.ref p, v] ∧ RollC K CT H p D m L R B M n ds ∧ Dg K fx H b v d ∧ (stdD ds d = true → Q .non H) ∧ (stdD ds d = false → E (.ref (c 5)) none H)
theorem ok_Roll__need_standing {f : Addr} {fd : FuncData} {c : Nat → Addr} {LE : Addr} (F : Fun K "need_standing" "Roll.need_standing" s_Roll__need_standing f fd) (T : Txt K mg) (TX : ExcN K mg c LE) {CT : Nat → Addr} (TC : ClT K w mg CT) (D_is_whole_from : Cl P w K mg base 1 "is_whole_from" ["thing", "least"] (sp_is_whole_from K)) : FnOk P w K mg base (L2.CX P w) 2 f fd ["self", "number"] (sp_Roll__need_standing K c CT) := by
  refine F.okX sc_Roll__need_standing (fun vs H Q E h => ?_) (fun cdv A outer s H vs Q E hr h => ?_)
  · obtain ⟨p, D, m, L, R, B, M, n, ds, fx, b, v, d, rfl, _⟩ := h
    rfl
  · obtain ⟨p, D, m, L, R, B, M, n, ds, fx, b, v, d, rfl, rc, hd, q1, q0⟩ := h
    obtain ⟨dx, hob⟩ := rc.ob
    obtain ⟨kvs, hD, hA⟩ := rc.dd
    refine ⟨_, (pss_one (ps_if (PW.pt (pw_or (pt_not (pt_val (pe_own D_is_whole_from (hr.mono (by omega)) (by rfl) (pa_cons (pv 1) (pa_cons pe_int pa_nil))))) (pw_or1 (pt_cmp (pc_dnotin (Nat.lt_of_le_of_lt (Nat.add_le_add_left (show 1 ≤ 64 by decide) _) hr.units) (pv 1) (pe_fld (pv 0) rfl)) (by rfl))))) (pss_one (ps_raise rfl (takes_of rfl rfl rfl rfl) (pmk_own PySem.F.excBase_ValueError (TX.nw 5 (by decide)) (TX.g 5 "NoNumber" rfl) (TX.kp 5 (by decide)) (TX.rs (i := 5) (by decide)) rfl))) pss_nil)), ?_⟩
    refine ⟨_, rfl, fx, b, v, d, 0, rfl, hd, _, rfl, ?_⟩
    unfold stdD at q0 q1
    cases ew : isWf d 0 with
    | false =>
      rw [ew] at q0
      exact iteT (q0 rfl)
    | true =>
      obtain ⟨k, rfl, rfl⟩ := wf_int hd ew
      rw [ew, Bool.true_and] at q0 q1
      refine iteF ⟨_, rfl, _, rfl, p, _, dx, _, _, rfl, hob, TC.cR, TC.r1, fR_deeds, D, _, rfl, DGet.k (k := Sum.inl k) hD, _, rfl, ?_⟩
      have ee : (valV kvs (Sum.inl k)).isSome = (asV ds k).isSome := by
        rcases AsP.val hA k with ⟨e1, e2⟩ | ⟨x, v', e1, e2, _⟩ <;> rw [e1, e2] <;> rfl
      rw [ee]
      cases es : (asV ds k).isSome with
      | false => exact iteT (q0 es)
      | true => exact iteF (q1 es)
end

section
variable {P : Program} {w : World} {K : PySem.W.Frag} {mg : Str → Option Value} {base : Heap}
def sp_Roll__leaning (K : PySem.W.Frag) (c : Nat → Addr) (CT : Nat → Addr) : Sp := fun vs H Q E => ∃ (p D m L R B M : Addr) (n : Int) (ds : List (Int × Dd)) (fx : Hp) (b : Bool) (v : V) (d : PyData), vs = [.ref p, v] ∧ RollC K CT H p D m L R B M n ds ∧ ds.length ≤ 300 ∧ Dg K fx H b v d ∧ (stdD ds d = false → E (.ref (c 5)) none H) ∧ (∀ k, v = .int k → stdD ds d = true → ∀ H' X, Same H H' → H X = none → H' X = some (.lst ((leanL ds k).map V.int)) → Q (.ref X) H')
theorem ok_Roll__leaning {f : Addr} {fd : FuncData} {c : Nat → Addr} {LE : Addr} (F : Fun K "leaning" "Roll.leaning" s_Roll__leaning f fd) (T : Txt K mg) (TX : ExcN K mg c LE) {CT : Nat → Addr} (TC : ClT K w mg CT) (D_Roll__need_standing : MlX P w K mg base 2 (CT 1) "need_standing" ["self", "number"] (sp_Roll__need_standing K c CT)) (D_named : Cl P w K mg base 1 "named" ["deed"] (sp_named K)) : FnOk P w K mg base (L2.CX P w) 3 f fd ["self", "number"] (sp_Roll__leaning K c CT) := by
  refine F.okX sc_Roll__leaning (fun vs H Q E h => ?_) (fun cdv A outer s H vs Q E hr h => ?_)
  · obtain ⟨p, D, m, L, R, B, M, n, ds, fx, b, v, d, rfl, _⟩ := h
    rfl
  · obtain ⟨p, D, m, L, R, B, M, n, ds, fx, b, v, d, rfl, rc, l3, hd, q0, q1⟩ := h
    obtain ⟨dx, hob⟩ := rc.ob
    obtain ⟨kvs, hD, hA⟩ := rc.dd
    have hpD : p ≠ D := ne_of hob hD (by intro z; cases z)
    refine ⟨_, (pss_cons (ps_expr (pe_mthX D_Roll__need_standing TC.cR (hr.mono (by omega)) (takes_of rfl rfl rfl rfl) (pv 0) (pa_cons (pv 1) pa_nil)))
      (pss_one (ps_ret (pe_lock (pe_lc (own := [("later", 2), ("deed", 3)]) (g := (gTup _ 2 (gCons (gName 2) (gCons (gName 3) gNil)))) (by rfl) sc_Roll__leaning.nd (pi_items (pe_fld (pv 0) rfl)) (blkOk_by (own := [("later", 2), ("deed", 3)]) (N := ["self", "number", "later", "deed"]) (sc := defScope s_Roll__leaning) (by decide +kernel)) (fun _ _ _ _ _ => (pg_tup (by rfl) (pgs_cons (pg_name (i := 2) sc_Roll__leaning.nd rfl (Or.inl rfl)) (pgs_cons (pg_name (i := 3) sc_Roll__leaning.nd rfl (Or.inl rfl)) pgs_nil)))) (fun _ _ _ _ _ => (pts_one (pt_cmpR op_eq (pe_own D_named (hr.mono (by omega)) (by rfl) (pa_cons (pv 3) pa_nil)) (pv 1) (nomark _)))) (fun _ _ _ _ _ => (pv 2))))))), ?_⟩
    refine ⟨_, rfl, p, dx, _, rfl, hob, rfl, _, rfl, p, D, m, L, R, B, M, n, ds, fx, b, v, d, rfl, rc, hd, fun hs => ?_, q0⟩
    obtain ⟨k, rfl, rfl⟩ : ∃ k : Int, v = .int k ∧ d = .int k := by
      unfold stdD at hs
      rw [Bool.and_eq_true] at hs
      exact wf_int hd hs.1
    refine ⟨D, _, hD, trivial, fun od => ?_⟩
    have k1 : ∀ b o, b ≠ D → H b = some o → upd H D (.frz od (.dK kvs)) b = some o := fun b o hb e => by rw [upd_ne hb]; exact e
    have e1 : upd H D (.frz od (.dK kvs)) D = some (.frz od (.dK kvs)) := upd_same
    have t1 : TKeep K H (upd H D (.frz od (.dK kvs))) := tk_d hD
    have f1 : ∀ X, upd H D (.frz od (.dK kvs)) X = none → H X = none := fun X h => by
      by_cases hX : X = D
      · rw [hX, e1] at h; cases h
      · rw [upd_ne hX] at h; exact h
    generalize upd H D (.frz od (.dK kvs)) = H1 at k1 e1 t1 f1 ⊢
    refine ⟨_, rfl, p, _, dx, _, _, rfl, k1 _ _ hpD hob, TC.cR, TC.r1, fR_deeds, D, od, kvs, rfl, e1, fun X hX => ?_⟩
    refine lc_it (walk_items (d := D) (o := od) (kvs := kvs)) (fun i H' => Same H1 H' ∧ H' X = some (.lst ((((ds.take i).filter fun x => decide (namO x.2 = some k)).map (·.1)).map V.int))) ⟨same_upd hX, upd_same⟩ (fun _ _ _ z => z.1 _ _ e1) (fun i x Ha Hb hi pa yx => ?_) (fun Ha pa => ?_)
    · obtain ⟨T, x1, x2, rfl, nT, rfl, g1, g2⟩ := yx
      obtain ⟨sa, ea⟩ := pa
      obtain ⟨kv, hkv⟩ : ∃ kv, kvs[i]? = some kv := ⟨_, List.getElem?_eq_getElem hi⟩
      dsimp only at g1 g2
      rw [hkv] at g1 g2
      cases g1
      cases g2
      obtain ⟨r, hr1, hk, hdd⟩ := Paired.at hA hkv
      obtain ⟨kk, u⟩ := kv
      dsimp only at hk hdd
      subst hk
      obtain ⟨sT, eT⟩ := new_at (.tup [.int r.1, u]) nT
      have sT' : Same Ha (upd Ha T (.tup [kV (Sum.inl r.1), u])) := sT
      have eT' : upd Ha T (.tup [kV (Sum.inl r.1), u]) T = some (.tup [.int r.1, u]) := eT
      generalize upd Ha T (.tup [kV (Sum.inl r.1), u]) = H2 at sT' eT' ⊢
      have s2 := sa.trans sT'
      have et : ((ds.take (i + 1)).filter fun x => decide (namO x.2 = some k)).map (·.1) = ((ds.take i).filter fun x => decide (namO x.2 = some k)).map (·.1) ++ (if namO r.2 = some k then [r.1] else []) := by
        rw [List.take_add_one, hr1, List.filter_append, List.map_append]
        congr 1
        show (List.filter (fun x => decide (namO x.2 = some k)) [r]).map (·.1) = _
        by_cases h : namO r.2 = some k
        · rw [List.filter_cons_of_pos (by simp [h]), if_pos h]
          rfl
        · rw [List.filter_cons_of_neg (by simp [h]), if_neg h]
          rfl
      refine ⟨T, _, rfl, .inl (.inl eT'), rfl, _, _, rfl, _, _, rfl, rfl, rfl, _, rfl, u, r.2, rfl, DeedAt.keep (Same.tk s2) (DeedAt.keep t1 hdd), fun H3 s3 => ⟨_, rfl, (by cases namO r.2 <;> rfl), _, rfl, ite2 (fun e => ?_) (fun e => ?_)⟩⟩
      · have e' : namO r.2 = some k := bkV_eq.mp (of_decide_eq_true e)
        refine ⟨_, rfl, _, s3 _ _ (sT' _ _ ea), small1000 ?_, ?_, ?_⟩
        · rw [List.length_map, List.length_map]
          refine Nat.le_trans (List.length_filter_le _ _) ?_
          rw [List.length_take]
          omega
        · intro b o eb
          rw [upd_ne (ne_of_none eb hX)]
          exact s3 _ _ (s2 _ _ eb)
        · rw [upd_same, et, if_pos e', List.map_append]
          rfl
      · have e' : ¬ namO r.2 = some k := fun h => e (decide_eq_true (bkV_eq.mpr h))
        refine ⟨s2.trans s3, ?_⟩
        rw [et, if_neg e', List.append_nil]
        exact s3 _ _ (sT' _ _ ea)
    · obtain ⟨sa, ea⟩ := pa
      rw [AsP.len hA, List.take_length] at ea
      have nXD : X ≠ D := fun z => by rw [z, e1] at hX; cases hX
      refine ⟨sa _ _ e1, q1 k rfl hs _ X (lock_same (od := od) hD fun b o hb e => sa _ _ (k1 b o hb e)) (f1 X hX) ?_⟩
      rw [upd_ne nXD]
      exact ea
/-- each deed names what stands when it is done -/
def WFd (ds : List (Int × Dd)) : Prop := ∀ (i : Nat) (n : Int) (δ : Dd), ds[i]? = some (n, δ) → rowOk (mkS (ds.take i)) δ
theorem mkS_small {ds : List (Int × Dd)} (h : WFd ds) : ∀ i : Nat, i ≤ ds.length → (mkS (ds.take i)).small i
  | 0, _ => ⟨Nat.le_refl _, Nat.le_refl _, Nat.le_refl _, Nat.le_refl _⟩
  | i + 1, hi => by
    have ih := mkS_small h i (by omega)
    obtain ⟨x, hx⟩ : ∃ x, ds[i]? = some x := ⟨_, List.getElem?_eq_getElem (by omega)⟩
    rw [List.take_add_one, hx]
    show (mkS (ds.take i ++ [(x.1, x.2)])).small (i + 1)
    rw [mkS_snoc]
    exact fol_small (h i x.1 x.2 hx) ih
def sp_made_anew (K : PySem.W.Frag) (CT : Nat → Addr) : Sp := fun vs H Q _ => ∃ (D : Addr) (kvs : List (Key × V)) (ds : List (Int × Dd)), vs = [.ref D] ∧ H D = some (.dK kvs) ∧ AsP (DeedAt K H) kvs ds ∧ WFd ds ∧ ds.length ≤ 300 ∧ ∀ H' m L R B M, MadeN K (CT 0) H H' m L R B M (mkS ds) → Q (.ref m) H'
theorem ok_made_anew {f : Addr} {fd : FuncData} (F : Fun K "made_anew" "made_anew" s_made_anew f fd) (T : Txt K mg) {CT : Nat → Addr} (TC : ClT K w mg CT) (D_Made__init : Mi P w K mg base 1 (CT 0) "Made" ["self"] (sp_Made__init K CT)) (D_Made__follow : Ml P w K mg base 2 (CT 0) "follow" ["self", "number", "deed"] (sp_Made__follow K CT)) : FnOk P w K mg base CX0 3 f fd ["deeds"] (sp_made_anew K CT) := by
  refine F.ok sc_made_anew (fun vs H Q E h => ?_) (fun cdv A outer s H vs Q E hr h => ?_)
  · obtain ⟨D, kvs, ds, rfl, _⟩ := h
    rfl
  · obtain ⟨D, kvs, ds, rfl, hD, hA, wf, l3, q⟩ := h
    refine ⟨_, (pss_cons (ps_set (i := 1) sc_made_anew.nd rfl (Or.inl rfl) (pe_new D_Made__init (hr.mono (by omega)) (by rfl)))
      (pss_cons (ps_lock (ps_for PassesOwn.never rfl (pi_items (pv 0)) (pg_tup (by rfl) (pgs_cons (pg_name (i := 2) sc_made_anew.nd rfl (Or.inl rfl)) (pgs_cons (pg_name (i := 3) sc_made_anew.nd rfl (Or.inl rfl)) pgs_nil)))
        (pss_one (ps_expr (pe_mth D_Made__follow TC.cM (hr.mono (by omega)) (pv 1) (pa_cons (pv 2) (pa_cons (pv 3) pa_nil)))))))
      (pss_one (ps_ret (pv 1))))), ?_⟩
    intro x dx nx ndx nex
    have s0 : Same H (upd (upd H dx (.own x)) x (.ins (CT 0) dx [])) := fun b o e => by
      rw [upd_ne (ne_of_none e nx), upd_ne (ne_of_none e ndx)]
      exact e
    refine ⟨H, x, dx, rfl, upd_same, s0, nx, fun H1 L R B M mN => ⟨rfl, ?_⟩⟩
    have hD1 := mN.s _ _ hD
    refine ⟨D, _, hD1, trivial, fun od => ?_⟩
    have nD : ∀ {y : Addr}, H y = none → y ≠ D := fun {y} h z => by rw [z, hD] at h; cases h
    -- below, all is told of the heap in which the dict is locked
    have kH : ∀ b o, b ≠ D → H b = some o → upd H D (.frz od (.dK kvs)) b = some o := fun b o hb e => by rw [upd_ne hb]; exact e
    have mL : MadeN K (CT 0) (upd H D (.frz od (.dK kvs))) (upd H1 D (.frz od (.dK kvs))) x L R B M MS.nil := by
      obtain ⟨s, c, a1, a2, a3, a4, a5⟩ := mN
      have kk : ∀ {y : Addr}, H y = none → ∀ o, H1 y = some o → upd H1 D (.frz od (.dK kvs)) y = some o := fun {y} h o e => by rw [upd_ne (nD h)]; exact e
      have nn : ∀ {y : Addr}, H y = none → upd H D (.frz od (.dK kvs)) y = none := fun {y} h => by rw [upd_ne (nD h)]; exact h
      refine ⟨fun b o e => ?_, c.keep (tk_d hD1) (kk a1) (kk a2) (kk a3) (kk a4) (kk a5), nn a1, nn a2, nn a3, nn a4, nn a5⟩
      by_cases hb : b = D
      · rw [hb, upd_same] at e ⊢
        exact e
      · rw [upd_ne hb] at e ⊢
        exact s _ _ e
    have eL : upd H D (.frz od (.dK kvs)) D = some (.frz od (.dK kvs)) := upd_same
    have tL : TKeep K H (upd H D (.frz od (.dK kvs))) := tk_d hD
    have fL : ∀ y, upd H D (.frz od (.dK kvs)) y = none → H y = none := fun y h => by
      by_cases hy : y = D
      · rw [hy, upd_same] at h; cases h
      · rw [upd_ne hy] at h; exact h
    generalize upd H1 D (.frz od (.dK kvs)) = H2 at mL ⊢
    have hAL : AsP (DeedAt K (upd H D (.frz od (.dK kvs)))) kvs ds := AsP.mono (fun _ _ => DeedAt.keep tL) hA
    obtain ⟨HL, hHL⟩ : ∃ HL, upd H D (.frz od (.dK kvs)) = HL := ⟨_, rfl⟩
    rw [hHL] at mL eL tL fL hAL
    have kH' : ∀ b o, b ≠ D → H b = some o → HL b = some o := fun b o hb e => by rw [← hHL]; exact kH b o hb e
    clear kH hHL
    refine ⟨_, rfl, D, od, kvs, rfl, mL.s _ _ eL, for_it (walk_items (d := D) (o := od) (kvs := kvs)) (fun i σ H' => (∃ y2 y3, σ = [some (.ref D), some (.ref x), y2, y3]) ∧ MadeN K (CT 0) HL H' x L R B M (mkS (ds.take i))) ⟨⟨none, none, rfl⟩, mL⟩ (fun _ _ _ _ z => z.2.s _ _ eL) ?_ ?_⟩
    · rintro i v σ Ha Hb hi ⟨⟨y2, y3, rfl⟩, ma⟩ yx
      obtain ⟨T, x1, x2, rfl, nT, rfl, g1, g2⟩ := yx
      obtain ⟨kv, hkv⟩ : ∃ kv, kvs[i]? = some kv := ⟨_, List.getElem?_eq_getElem hi⟩
      dsimp only at g1 g2
      rw [hkv] at g1 g2
      cases g1
      cases g2
      obtain ⟨r, hr1, hk, hdd⟩ := Paired.at hAL hkv
      obtain ⟨kk, u⟩ := kv
      dsimp only at hk hdd
      subst hk
      obtain ⟨sT, eT⟩ := new_at (.tup [.int r.1, u]) nT
      have sT' : Same Ha (upd Ha T (.tup [kV (Sum.inl r.1), u])) := sT
      have eT' : upd Ha T (.tup [kV (Sum.inl r.1), u]) T = some (.tup [.int r.1, u]) := eT
      generalize upd Ha T (.tup [kV (Sum.inl r.1), u]) = H3 at sT' eT' ⊢
      have m3 := ma.same sT'
      obtain ⟨d3, mob3⟩ := m3.c.ob
      have hi' : i < ds.length := (List.getElem?_eq_some_iff.mp hr1).1
      obtain ⟨z1, z2, z3, z4⟩ := mkS_small wf i (by omega)
      refine ⟨T, _, rfl, .inl (.inl eT'), rfl, _, _, rfl, _, _, rfl, rfl, ?_⟩
      refine ⟨_, rfl, x, d3, _, rfl, mob3, rfl, _, rfl, _, rfl, HL, x, L, R, B, M, mkS (ds.take i), r.2, u, r.1, rfl, DeedAt.keep (Same.tk m3.s) hdd, wf i r.1 r.2 hr1, ⟨by omega, by omega, by omega, by omega⟩, m3, fun H4 m4 => ?_⟩
      refine ⟨⟨_, _, rfl⟩, ?_⟩
      rw [List.take_add_one, hr1]
      show MadeN K (CT 0) HL H4 x L R B M (mkS (ds.take i ++ [(r.1, r.2)]))
      rw [mkS_snoc]
      exact m4
    · rintro σ Ha ⟨⟨y2, y3, rfl⟩, ma⟩
      rw [AsP.len hA, List.take_length] at ma
      refine ⟨ma.s _ _ eL, _, rfl, q _ x L R B M ?_⟩
      obtain ⟨s, c, a1, a2, a3, a4, a5⟩ := ma
      have eDa := s _ _ eL
      have kk : ∀ {y : Addr}, HL y = none → ∀ o, Ha y = some o → upd Ha D (.dK kvs) y = some o := fun {y} h o e => by rw [upd_ne (nD (fL _ h))]; exact e
      refine ⟨lock_same (od := od) hD fun b o hb e => s _ _ (kH' b o hb e), c.keep ?_ (kk a1) (kk a2) (kk a3) (kk a4) (kk a5), fL _ a1, fL _ a2, fL _ a3, fL _ a4, fL _ a5⟩
      exact tk_at (no_tup eDa (fun _ z => by cases z) (fun _ _ z => by cases z))
end

theorem dc_it {J : It} {n : Nat} {G : Hp → Prop} {Y : Nat → Hp → V → Hp → Prop} (wk : Walk J n G Y) {g : TG} {tt : TT} {tk tv : TE} {vs : List Nat} {σ : L2.St} {H1 : Hp} {D : Addr} {Qd : Hp → Prop} (Pv : Nat → Hp → Prop) (h0 : Pv 0 (upd H1 D (.dK []))) (hG : ∀ i H, i ≤ n → Pv i H → G H)
    (hstep : ∀ i x H H', i < n → Pv i H → Y i H x H' → g x (wipe σ vs) H' fun σ2 H2 => wipe σ2 vs = wipe σ vs ∧ tt σ2 H2 fun b H3 => if b = true then tk σ2 H3 fun y H4 => tv σ2 H4 fun z H5 => ∃ kvs k, y = kV k ∧ H5 D = some (.dK kvs) ∧ kvs.length < sizeLine ∧ Pv (i + 1) (upd H5 D (.dK (putK kvs k z))) else Pv (i + 1) H3) (hend : ∀ H, Pv n H → Qd H) :
    ∃ W : Nat → Nat → Hp → Prop, (∃ m, W 0 m (upd H1 D (.dK []))) ∧ ∀ i m H, W i m H → (J.stop i H ∧ Qd H) ∨ (J.go i H ∧ ∃ Nx : Hp → Prop, (∀ H', Nx H' → ∃ m', m' < m ∧ W (i + 1) m' H') ∧ ∀ x H', J.yld i H x H' → g x (wipe σ vs) H' fun σ2 H2 => wipe σ2 vs = wipe σ vs ∧ tt σ2 H2 fun b H3 => if b = true then tk σ2 H3 fun y H4 => tv σ2 H4 fun z H5 => ∃ kvs k, y = kV k ∧ H5 D = some (.dK kvs) ∧ kvs.length < sizeLine ∧ Nx (upd H5 D (.dK (putK kvs k z))) else Nx H3) := by
  refine ⟨fun i m H => m + i = n ∧ Pv i H, ⟨n, Nat.add_zero n, h0⟩, fun i m H hw => ?_⟩
  obtain ⟨e, hp⟩ := hw
  have hg := hG i H (by omega) hp
  rcases Nat.lt_or_ge i n with lt | ge
  · right
    refine ⟨wk.goes i H lt hg, Pv (i + 1), fun H' p' => ⟨m - 1, by omega, by omega, p'⟩, fun x H' y => ?_⟩
    exact hstep i x H H' lt hp (wk.yields i H x H' lt hg y)
  · left
    obtain rfl : i = n := by omega
    exact ⟨wk.stops H hg, hend H hp⟩
theorem drop_take {ds : List (Int × Dd)} {k : Int} {i : Nat} {r : Int × Dd} (h : ds[i]? = some r) : asDrop (ds.take (i + 1)) k = asDrop (ds.take i) k ++ (if r.1 = k then [] else [r]) := by
  unfold asDrop
  rw [List.take_add_one, h, List.filter_append]
  congr 1
  show List.filter (fun kv : Int × Dd => decide (kv.1 ≠ k)) [r] = _
  by_cases e : r.1 = k
  · rw [List.filter_cons_of_neg (by simp [e]), if_pos e]
    rfl
  · rw [List.filter_cons_of_pos (by simp [e]), if_neg e]
    rfl
theorem nodup_take {ds : List (Int × Dd)} (nd : (ds.map (·.1)).Nodup) {i : Nat} {r : Int × Dd} (h : ds[i]? = some r) : ∀ y ∈ ds.take i, y.1 ≠ r.1 := fun y hy e => by
  obtain ⟨j, hj⟩ := List.mem_iff_getElem?.mp hy
  have hji : j < i := by
    have := (List.getElem?_eq_some_iff.mp hj).1
    rw [List.length_take] at this
    omega
  rw [List.getElem?_take_of_lt hji] at hj
  have h1 : (ds.map (·.1))[j]? = some r.1 := by rw [List.getElem?_map, hj, ← e]; rfl
  have h2 : (ds.map (·.1))[i]? = some r.1 := by rw [List.getElem?_map, h]; rfl
  obtain ⟨l1, g1⟩ := List.getElem?_eq_some_iff.mp h1
  obtain ⟨l2, g2⟩ := List.getElem?_eq_some_iff.mp h2
  exact (List.pairwise_iff_getElem.mp nd) j i l1 l2 hji (by rw [g1, g2])
section
variable {P : Program} {w : World} {K : PySem.W.Frag} {mg : Str → Option Value} {base : Heap}
def sp_Leaned_init (c : Nat → Addr) (K : PySem.W.Frag) : Sp := fun vs H Q _ => ∃ (a : Addr) (m : V), vs = [.ref a, m] ∧ OexC K (c 15) ∧ PySem.W.findIn K (.ref (c 15)) "numbers" = some none ∧ H a = some (exo a (c 15) none) ∧
  ∀ H' d, H' a = some (exo a (c 15) (some d)) → H' d = some (exd d [("numbers", m)]) → H d = none → (∀ b o, b ≠ a → H b = some o → H' b = some o) → Q .non H'
theorem ok_Leaned_init {f : Addr} {fd : FuncData} {c : Nat → Addr} (F : Fun K "__init__" "Leaned.__init__" s_Leaned_init f fd) : FnOk P w K mg base CX0 1 f fd ["self", "numbers"] (sp_Leaned_init c K) := by
  refine F.ok sc_Leaned_init (fun vs H Q E h => ?_) (fun cdv A outer s H vs Q E hr h => ?_)
  · obtain ⟨a, m, rfl, _⟩ := h
    rfl
  · obtain ⟨a, m, rfl, o, f1, ha, q⟩ := h
    refine ⟨_, (pss_one (ps_ost (pv 0) (pv 1))), ?_⟩
    refine ⟨_, rfl, _, rfl, a, c 15, rfl, o, f1, .inl ⟨ha, fun d nd da => ?_⟩⟩
    refine q _ d upd_same ?_ nd fun b o' hb e => ?_
    · rw [upd_ne da, upd_same]
    · rw [upd_ne hb, upd_ne (ne_of_none e nd)]
      exact e
def sp_Roll__undo (K : PySem.W.Frag) (c : Nat → Addr) (CT : Nat → Addr) : Sp := fun vs H Q E => ∃ (p D m L R B M : Addr) (n : Int) (ds : List (Int × Dd)) (fx : Hp) (b : Bool) (v : V) (d : PyData), vs = [.ref p, v] ∧ RollC K CT H p D m L R B M n ds ∧ ds.length ≤ 300 ∧ (ds.map (·.1)).Nodup ∧ Dg K fx H b v d ∧ (stdD ds d = false → ∀ H', Same H H' → E (.ref (c 5)) none H') ∧
  (∀ k, v = .int k → stdD ds d = true → (leanL ds k ≠ [] → ∀ H' dd t, Same H H' → H dd = none → H' dd = some (.xd [("numbers", .ref t)]) → SqT K H' t ((leanL ds k).map V.int) → E (.ref (c 15)) (some dd) H') ∧
    (leanL ds k = [] → WFd (asDrop ds k) ∧ (mkS (asDrop ds k)).nd ∧ (∀ a b', roomS (mkS (asDrop ds k)) = some (a, b') → ∀ H' d', Same H H' → H d' = none → H' d' = some (.xd [("most", .int b'), ("many", .int a)]) → E (.ref (c 14)) (some d') H') ∧
      (roomS (mkS (asDrop ds k)) = none → ∀ H' D' m' L' R' B' M', (∀ y o, y ≠ p → H y = some o → H' y = some o) → H D' = none → H L' = none → H M' = none → H m' = none → H R' = none → H B' = none → RollC K CT H' p D' m' L' R' B' M' n (asDrop ds k) → Q .non H')))
theorem ok_Roll__undo {f : Addr} {fd : FuncData} {c : Nat → Addr} {LE : Addr} (F : Fun K "undo" "Roll.undo" s_Roll__undo f fd) (T : Txt K mg) (TX : ExcN K mg c LE) {CT : Nat → Addr} (TC : ClT K w mg CT) (TI : IniT P w K mg base (c 15) 2 (sp_Leaned_init c K)) (D_Roll__leaning : MlX P w K mg base 3 (CT 1) "leaning" ["self", "number"] (sp_Roll__leaning K c CT)) (D_made_anew : Cl P w K mg base 3 "made_anew" ["deeds"] (sp_made_anew K CT)) (D_Made__need_room : MlX P w K mg base 4 (CT 0) "need_room" ["self"] (sp_Made__need_room K c CT)) : FnOk P w K mg base (L2.CX P w) 5 f fd ["self", "number"] (sp_Roll__undo K c CT) := by
  refine F.okX sc_Roll__undo (fun vs H Q E h => ?_) (fun cdv A outer s H vs Q E hr h => ?_)
  · obtain ⟨p, D, m, L, R, B, M, n, ds, fx, b, v, d, rfl, _⟩ := h
    rfl
  · obtain ⟨p, D, m, L, R, B, M, n, ds, fx, b, v, d, rfl, rc, l3, ndk, hd, q0, q1⟩ := h
    obtain ⟨dx, hob⟩ := rc.ob
    refine ⟨_, (pss_cons (ps_set (i := 2) sc_Roll__undo.nd rfl (Or.inl rfl) (pe_callTy call_tuple_of (by rfl) T.b_tuple (by decide +kernel) (pa_cons (pe_mthX D_Roll__leaning TC.cR (hr.mono (by omega)) (takes_of rfl rfl rfl rfl) (pv 0) (pa_cons (pv 1) pa_nil)) pa_nil)))
      (pss_cons (ps_if (pt_truth (pv 2) (by intro _; rfl)) (pss_one (ps_raise rfl (takes_of rfl rfl rfl rfl) (pmk_init TI (hr.mono (by omega)) (by rfl) (TX.g 15 "Leaned" rfl) (pa_cons (pv 2) pa_nil)))) pss_nil)
      (pss_cons (ps_lock (ps_setDc (i := 3) (own := [("other", 5), ("deed", 6)]) (g := (gTup _ 2 (gCons (gName 5) (gCons (gName 6) gNil)))) (by rfl) sc_Roll__undo.nd rfl rfl (sw_dict rfl rfl rfl (by decide +kernel)) (pi_items (pe_fld (pv 0) rfl)) (blkOk_by (own := [("other", 5), ("deed", 6)]) (N := ["self", "number", "numbers", "deeds", "made", "other", "deed"]) (sc := defScope s_Roll__undo) (by decide +kernel)) (fun _ _ _ _ _ => (pg_tup (by rfl) (pgs_cons (pg_name (i := 5) sc_Roll__undo.nd rfl (Or.inl rfl)) (pgs_cons (pg_name (i := 6) sc_Roll__undo.nd rfl (Or.inl rfl)) pgs_nil)))) (fun _ _ _ _ _ => (pts_one (pt_cmpR op_ne (pv 5) (pv 1) (nomark _)))) (fun _ _ _ _ _ => (pv 5)) (fun _ _ _ _ _ => (pv 6))))
      (pss_cons (ps_set (i := 4) sc_Roll__undo.nd rfl (Or.inl rfl) (pe_own D_made_anew (hr.mono (by omega)) (by rfl) (pa_cons (pv 3) pa_nil)))
      (pss_cons (ps_expr (pe_mthX0 D_Made__need_room TC.cM (hr.mono (by omega)) (takes_of rfl rfl rfl rfl) (pv 4)))
      (pss_cons (ps_fld (pv 0) (pv 3) rfl)
      (pss_one (ps_fld (pv 0) (pv 4) rfl)))))))), ?_⟩
    refine ⟨_, rfl, p, dx, _, rfl, hob, rfl, _, rfl, p, D, m, L, R, B, M, n, ds, fx, b, v, d, rfl, rc, l3, hd, fun hs => q0 hs _ (Same.refl _), fun k ev hs H1 X s1 nX eX => ?_⟩
    subst ev
    obtain ⟨qa, qb⟩ := q1 k rfl hs
    refine ⟨X, _, rfl, .inl ⟨.inl (.inl eX), fun t nt => ?_⟩⟩
    obtain ⟨s2, e2⟩ := new_at (.tup ((leanL ds k).map V.int)) nt
    generalize upd H1 t (.tup ((leanL ds k).map V.int)) = H2 at s2 e2 ⊢
    have s12 := s1.trans s2
    refine ⟨_, rfl, _, .inr (.inl ⟨_, .inl (.inl e2), rfl⟩), ?_⟩
    cases hl : leanL ds k with
    | cons a0 r0 =>
      have hne : leanL ds k ≠ [] := by rw [hl]; simp
      rw [hl] at e2
      refine iteT ?_
      obtain ⟨_, _, _, ox, _⟩ := TI.ex
      refine ⟨_, rfl, (by show 1 ≤ 1000; decide), fun a na => ⟨a, _, rfl, ox, TX.n3, upd_same, fun H' dd e1' e2' nd hk => ⟨rfl, dd, _, e1', e2', ?_, ?_⟩⟩⟩
      · have : dd ≠ a := fun z => by rw [z, upd_same] at nd; cases nd
        rw [upd_ne this] at nd
        exact nd
      · have da : dd ≠ a := fun z => by rw [z, upd_same] at nd; cases nd
        have nd' : H2 dd = none := by rw [upd_ne da] at nd; exact nd
        have sF : Same H2 (upd (del H' a) dd (.xd [("numbers", .ref t)])) := fun b o hb => by
          have ba : b ≠ a := ne_of_none hb na
          rw [upd_ne (ne_of_none hb nd'), del_ne ba]
          exact hk b o ba (by rw [upd_ne ba]; exact hb)
        refine qa hne _ dd t (s12.trans sF) (s12.free nd') upd_same ?_
        rw [hl]
        exact .inl (.inl (sF _ _ e2))
    | nil =>
    refine iteF ?_
    obtain ⟨wf, nd', qr, qt⟩ := qb hl
    have rc2 := rc.same s12
    obtain ⟨dx, hob⟩ := rc2.ob
    obtain ⟨kvs, hD, hA⟩ := rc2.dd
    have hpD : p ≠ D := ne_of hob hD (by intro z; cases z)
    refine ⟨D, _, hD, trivial, fun od => ?_⟩
    have k1 : ∀ b o, b ≠ D → H2 b = some o → upd H2 D (.frz od (.dK kvs)) b = some o := fun b o hb e => by rw [upd_ne hb]; exact e
    have e1 : upd H2 D (.frz od (.dK kvs)) D = some (.frz od (.dK kvs)) := upd_same
    have t1 : TKeep K H2 (upd H2 D (.frz od (.dK kvs))) := tk_d hD
    have f1 : ∀ X, upd H2 D (.frz od (.dK kvs)) X = none → H2 X = none := fun X h => by
      by_cases hX : X = D
      · rw [hX, e1] at h; cases h
      · rw [upd_ne hX] at h; exact h
    generalize upd H2 D (.frz od (.dK kvs)) = H3 at k1 e1 t1 f1 ⊢
    refine ⟨_, rfl, p, _, dx, _, _, rfl, k1 _ _ hpD hob, TC.cR, TC.r1, fR_deeds, D, od, kvs, rfl, e1, fun Y hY => ?_⟩
    have nYD : Y ≠ D := fun z => by rw [z, e1] at hY; cases hY
    refine dc_it (walk_items (d := D) (o := od) (kvs := kvs)) (fun i H' => Same H3 H' ∧ ∃ kv', H' Y = some (.dK kv') ∧ AsP (DeedAt K H') kv' (asDrop (ds.take i) k)) ⟨same_upd hY, [], upd_same, .nil⟩ (fun _ _ _ z => z.1 _ _ e1) (fun i x Ha Hb hi pa yx => ?_) (fun Ha pa => ?_)
    · obtain ⟨T, x1, x2, rfl, nT, rfl, g1, g2⟩ := yx
      obtain ⟨sa, kv', ea, ha'⟩ := pa
      obtain ⟨kv, hkv⟩ : ∃ kv, kvs[i]? = some kv := ⟨_, List.getElem?_eq_getElem hi⟩
      dsimp only at g1 g2
      rw [hkv] at g1 g2
      cases g1
      cases g2
      obtain ⟨r, hr1, hk, hdd⟩ := Paired.at hA hkv
      obtain ⟨kk, u⟩ := kv
      dsimp only at hk hdd
      subst hk
      obtain ⟨sT, eT⟩ := new_at (.tup [.int r.1, u]) nT
      have sT' : Same Ha (upd Ha T (.tup [kV (Sum.inl r.1), u])) := sT
      have eT' : upd Ha T (.tup [kV (Sum.inl r.1), u]) T = some (.tup [.int r.1, u]) := eT
      generalize upd Ha T (.tup [kV (Sum.inl r.1), u]) = H4 at sT' eT' ⊢
      have s4 := sa.trans sT'
      have eY4 := sT' _ _ ea
      have ha4 : AsP (DeedAt K H4) kv' (asDrop (ds.take i) k) := AsP.mono (fun _ _ => DeedAt.keep (Same.tk sT')) ha'
      have hdd4 : DeedAt K H4 u r.2 := DeedAt.keep (Same.tk s4) (DeedAt.keep t1 hdd)
      refine ⟨T, _, rfl, .inl (.inl eT'), rfl, _, _, rfl, _, _, rfl, rfl, rfl, _, rfl, _, rfl, rfl, _, rfl, ite2 (fun e => ?_) (fun e => ?_)⟩
      · have e' : ¬ r.1 = k := fun h => by
          rw [decide_eq_true (show V.int r.1 = V.int k by rw [h])] at e
          cases e
        refine ⟨_, rfl, _, rfl, kv', Sum.inl r.1, rfl, eY4, small1000 ?_, ?_, _, upd_same, ?_⟩
        · rw [AsP.len ha4]
          refine Nat.le_trans asDrop_len ?_
          rw [List.length_take]
          omega
        · intro b o eb
          rw [upd_ne (ne_of_none eb hY)]
          exact s4 _ _ eb
        · rw [drop_take hr1, if_neg e']
          have tY : TKeep K H4 (upd H4 Y (.dK (putK kv' (Sum.inl r.1) u))) := tk_d eY4
          have := AsP.put (AsP.mono (fun _ _ => DeedAt.keep tY) ha4) (k := r.1) (v := u) (x := r.2) (DeedAt.keep tY hdd4)
          rw [asPut_new (l := asDrop (ds.take i) k) fun y hy => nodup_take ndk hr1 y (List.mem_filter.mp hy).1] at this
          exact this
      · have e' : r.1 = k := by
          refine Classical.byContradiction fun h => e ?_
          rw [decide_eq_false fun z => h (V.int.inj z)]
          rfl
        refine ⟨s4, kv', eY4, ?_⟩
        rw [drop_take hr1, if_pos e', List.append_nil]
        exact ha4
    obtain ⟨sa, kv', ea, ha'⟩ := pa
    rw [AsP.len hA, List.take_length] at ha'
    refine ⟨sa _ _ e1, ?_⟩
    have s24 : Same H2 (upd Ha D (.dK kvs)) := lock_same (od := od) hD fun b o hb e => sa _ _ (k1 b o hb e)
    have eY : upd Ha D (.dK kvs) Y = some (.dK kv') := by rw [upd_ne nYD]; exact ea
    have tD : TKeep K Ha (upd Ha D (.dK kvs)) := tk_at (no_tup (sa _ _ e1) (fun _ z => by cases z) (fun _ _ z => by cases z))
    generalize upd Ha D (.dK kvs) = H4 at s24 eY tD ⊢
    have ha4 : AsP (DeedAt K H4) kv' (asDrop ds k) := AsP.mono (fun _ _ => DeedAt.keep tD) ha'
    have Y2 : H2 Y = none := f1 Y hY
    have lD : (asDrop ds k).length ≤ 300 := Nat.le_trans asDrop_len l3
    refine ⟨_, rfl, Y, kv', asDrop ds k, rfl, eY, ha4, wf, lD, fun H5 m' L' R' B' M' mN => ?_⟩
    obtain ⟨d5, mob5⟩ := mN.c.ob
    have sm5 : (mkS (asDrop ds k)).small 900 := by
      have := mkS_small wf (asDrop ds k).length (Nat.le_refl _)
      rw [List.take_length] at this
      obtain ⟨z1, z2, z3, z4⟩ := this
      exact ⟨by omega, by omega, by omega, by omega⟩
    have s05 := (s12.trans s24).trans mN.s
    refine ⟨_, rfl, m', d5, _, rfl, mob5, rfl, m', L', R', B', M', mkS (asDrop ds k), rfl, mN.c, sm5, nd', fun hr H6 s6 => ?_, fun a b' hr H6 dd s6 nd6 e6 => ?_⟩
    rotate_left 1
    · exact qr a b' hr H6 dd (s05.trans s6) (s05.free nd6) e6
    have s26 := (s24.trans mN.s).trans s6
    have hob6 := s26 _ _ hob
    have eY6 := (mN.s.trans s6) _ _ eY
    have c6 := mN.c.same s6
    refine ⟨_, rfl, _, rfl, p, _, dx, _, rfl, hob6, TC.cR, TC.r1, (by show 3 < 1000; decide), ?_⟩
    rw [fR_p1]
    refine ⟨_, rfl, _, rfl, p, _, dx, _, rfl, upd_same, TC.cR, TC.r2, (by show 3 < 1000; decide), ?_⟩
    rw [fR_p2]
    have k8 : ∀ (y : Addr) (o : HO), y ≠ p → H6 y = some o → upd (upd H6 p (.ins (CT 1) dx (fR Y m n))) p (.ins (CT 1) dx (fR Y m' n)) y = some o := fun y o hy e => by rw [upd_ne hy, upd_ne hy]; exact e
    have t8 : TKeep K H6 (upd (upd H6 p (.ins (CT 1) dx (fR Y m n))) p (.ins (CT 1) dx (fR Y m' n))) := fun a xs h => tk_i (K := K) upd_same a xs (tk_i (K := K) hob6 a xs h)
    have nP : ∀ {y : Addr}, H4 y = none → y ≠ p := fun {y} h z => by rw [z, s24 _ _ hob] at h; cases h
    have nY : ∀ {y : Addr}, H4 y = none → Y ≠ y := fun {y} h z => by rw [← z, eY] at h; cases h
    have s02 := s12
    refine qt hr _ Y m' L' R' B' M' (fun y o hy e => k8 y o hy ((s12.trans s26) _ _ e)) (s12.free Y2) ((s12.trans s24).free mN.nL) ((s12.trans s24).free mN.nM) ((s12.trans s24).free mN.np) ((s12.trans s24).free mN.nR) ((s12.trans s24).free mN.nB) ⟨⟨dx, upd_same⟩, ⟨kv', k8 _ _ (ne_of eY6 hob6 (by intro z; cases z)) eY6, ?_⟩, ?_, Ne.symm (nP mN.np), nY mN.nR, nY mN.nB⟩
    · exact AsP.mono (fun _ _ h => DeedAt.keep t8 (DeedAt.keep (Same.tk (mN.s.trans s6)) h)) ha4
    · exact c6.keep t8 (fun o => k8 _ o (nP mN.np)) (fun o => k8 _ o (nP mN.nL)) (fun o => k8 _ o (nP mN.nR)) (fun o => k8 _ o (nP mN.nB)) (fun o => k8 _ o (nP mN.nM))
end

/-! ### tables, looked at -/
section
variable {α : Type}
theorem asV_cons {r : Int × α} {l : List (Int × α)} {k : Int} : asV (r :: l) k = if r.1 = k then some r.2 else asV l k := by
  unfold asV
  by_cases h : r.1 = k
  · rw [List.find?_cons_of_pos (by simp [h]), if_pos h]
    rfl
  · rw [List.find?_cons_of_neg (by simp [h]), if_neg h]
theorem asV_none {k : Int} : ∀ {l : List (Int × α)}, asV l k = none ↔ k ∉ l.map (·.1)
  | [] => by simp [asV]
  | r :: l => by
    rw [asV_cons, List.map_cons, List.mem_cons]
    by_cases h : r.1 = k
    · rw [if_pos h]
      simp [h]
    · rw [if_neg h, asV_none (l := l)]
      have h' : ¬ k = r.1 := fun e => h e.symm
      simp [h']
theorem asV_some {k : Int} {l : List (Int × α)} : (asV l k).isSome = true ↔ k ∈ l.map (·.1) := by
  cases e : asV l k with
  | none =>
    have := asV_none.mp e
    simp [this]
  | some x =>
    have h : ¬ asV l k = none := by rw [e]; simp
    have := fun z => h (asV_none.mpr z)
    simp only [Option.isSome_some, true_iff]
    exact Classical.byContradiction fun z => this z
theorem asV_app {k : Int} {v : α} {j : Int} : ∀ {l : List (Int × α)}, asV (l ++ [(k, v)]) j = match asV l j with | some x => some x | none => if k = j then some v else none
  | [] => by
    show asV [(k, v)] j = _
    rw [asV_cons]
    rfl
  | r :: l => by
    rw [List.cons_append, asV_cons, asV_cons]
    by_cases h : r.1 = j
    · rw [if_pos h, if_pos h]
    · rw [if_neg h, if_neg h]
      exact asV_app
theorem any_iff {l : List (Int × α)} {k : Int} : (l.any fun kv => decide (kv.1 = k)) = true ↔ k ∈ l.map (·.1) := by
  rw [List.any_eq_true, List.mem_map]
  constructor
  · rintro ⟨x, hx, e⟩
    exact ⟨x, hx, of_decide_eq_true e⟩
  · rintro ⟨x, hx, e⟩
    exact ⟨x, hx, decide_eq_true e⟩
theorem asV_map {k j : Int} {v : α} : ∀ {l : List (Int × α)}, asV (l.map fun kv => if kv.1 = k then (kv.1, v) else kv) j = if j = k then (asV l j).map (fun _ => v) else asV l j
  | [] => by
    show asV [] j = _
    split <;> rfl
  | r :: l => by
    have ih := asV_map (k := k) (j := j) (v := v) (l := l)
    rw [List.map_cons, asV_cons, asV_cons]
    by_cases h : r.1 = k
    · rw [if_pos h]
      by_cases hj : r.1 = j
      · have : j = k := hj.symm.trans h
        rw [if_pos hj, if_pos hj, if_pos this]
        rfl
      · rw [if_neg hj, if_neg hj]
        exact ih
    · rw [if_neg h]
      by_cases hj : r.1 = j
      · have : ¬ j = k := fun e => h (hj.trans e)
        rw [if_pos hj, if_neg this, if_pos hj]
      · rw [if_neg hj, if_neg hj]
        exact ih
theorem asV_put {l : List (Int × α)} {k j : Int} {v : α} : asV (asPut l k v) j = if j = k then some v else asV l j := by
  unfold asPut
  by_cases h : (l.any fun kv => decide (kv.1 = k)) = true
  · rw [if_pos h, asV_map]
    by_cases e : j = k
    · rw [if_pos e, if_pos e, e]
      obtain ⟨x, hx⟩ := Option.isSome_iff_exists.mp (asV_some.mpr (any_iff.mp h))
      rw [hx]
      rfl
    · rw [if_neg e, if_neg e]
  · rw [if_neg h, asV_app]
    by_cases e : j = k
    · have : asV l j = none := asV_none.mpr fun z => h (any_iff.mpr (by rw [← e]; exact z))
      rw [this, if_pos e, e]
      simp
    · rw [if_neg e]
      cases asV l j with
      | some x => rfl
      | none => exact if_neg fun z => e z.symm
theorem asV_drop {l : List (Int × α)} {k j : Int} : asV (asDrop l k) j = if j = k then none else asV l j := by
  unfold asDrop
  induction l with
  | nil =>
    show asV [] j = _
    split <;> rfl
  | cons r l ih =>
    by_cases h : r.1 = k
    · rw [List.filter_cons_of_neg (by simp [h]), ih, asV_cons]
      by_cases e : j = k
      · rw [if_pos e, if_pos e]
      · rw [if_neg e, if_neg e, if_neg fun z => e (z.symm.trans h)]
    · rw [List.filter_cons_of_pos (by simp [h]), asV_cons, asV_cons, ih]
      by_cases e : j = k
      · rw [if_pos e, if_pos e, if_neg fun z => h (z.trans e)]
      · rw [if_neg e, if_neg e]
theorem put_keys_old {l : List (Int × α)} {k : Int} {v : α} (h : k ∈ l.map (·.1)) : (asPut l k v).map (·.1) = l.map (·.1) := by
  unfold asPut
  rw [if_pos (any_iff.mpr h), List.map_map]
  refine List.map_congr_left fun x _ => ?_
  show (if x.1 = k then (x.1, v) else x).1 = x.1
  split <;> rfl
theorem put_keys_new {l : List (Int × α)} {k : Int} {v : α} (h : k ∉ l.map (·.1)) : asPut l k v = l ++ [(k, v)] := by
  unfold asPut
  rw [if_neg fun z => h (any_iff.mp z)]
theorem drop_keys {l : List (Int × α)} {k : Int} : (asDrop l k).map (·.1) = (l.map (·.1)).filter fun j => decide (j ≠ k) := by
  unfold asDrop
  rw [List.filter_map]
  rfl
end
/-! ### what the law reckons of deeds -/
def num1 (δ : Dd) : Int := δ.nums.headD 0
def goneL (ds : List (Int × Dd)) : List Int := (ds.filter fun x => decide (x.2.word = ("drop" : Str))).map fun x => num1 x.2
def layersL (ds : List (Int × Dd)) : List Int := (ds.filter fun x => decide (x.2.word = ("layer" : Str))).map (·.1)
def rowsL (ds : List (Int × Dd)) : List Int := (ds.filter fun x => decide (x.2.word = ("row" : Str)) && !decide (x.1 ∈ goneL ds)).map (·.1)
structure LS where
  of : List (Int × Int)
  told : List (Int × RW)
  backs : List (Int × Option Int)
  moves : List MV
def lfol (L : LS) (n : Int) : Dd → LS
  | .row l d h => { L with of := asPut L.of n l, told := asPut L.told n (d, h) }
  | .draw r d => match asV L.told r with | some x => { L with told := asPut L.told r (d, x.2) } | none => L
  | .hold r h => match asV L.told r with | some x => { L with told := asPut L.told r (x.1, h) } | none => L
  | .round r => match asV L.of r with | some l => { L with backs := asPut L.backs l (some r) } | none => L
  | .straight l => { L with backs := asPut L.backs l none }
  | .move x y m => { L with moves := L.moves ++ [(x, y, m)] }
  | _ => L
def lawS (ds : List (Int × Dd)) : LS := ds.foldl (fun L x => lfol L x.1 x.2) ⟨[], [], [], []⟩
theorem lawS_snoc (ds : List (Int × Dd)) (n : Int) (δ : Dd) : lawS (ds ++ [(n, δ)]) = lfol (lawS ds) n δ := by
  unfold lawS
  rw [List.foldl_append]
  rfl
theorem lfol_draw {L : LS} {n r d : Int} {x : RW} (e : asV L.told r = some x) : lfol L n (.draw r d) = { L with told := asPut L.told r (d, x.2) } := by
  show (match asV L.told r with | some x => { L with told := asPut L.told r (d, x.2) } | none => L) = _
  rw [e]
theorem lfol_hold {L : LS} {n r h : Int} {x : RW} (e : asV L.told r = some x) : lfol L n (.hold r h) = { L with told := asPut L.told r (x.1, h) } := by
  show (match asV L.told r with | some x => { L with told := asPut L.told r (x.1, h) } | none => L) = _
  rw [e]
theorem lfol_round {L : LS} {n r l : Int} (e : asV L.of r = some l) : lfol L n (.round r) = { L with backs := asPut L.backs l (some r) } := by
  show (match asV L.of r with | some l => { L with backs := asPut L.backs l (some r) } | none => L) = _
  rw [e]
/-- the program's state and the law's go together -/
structure Lnk (ds : List (Int × Dd)) : Prop where
  ly : (mkS ds).layers = layersL ds
  ks : (mkS ds).rows.map (·.1) = rowsL ds
  of : ∀ r x, asV (mkS ds).rows r = some x → asV (lawS ds).of r = some x.1 ∧ asV (lawS ds).told r = some (x.2.1, x.2.2)
  bk : (mkS ds).backs = (lawS ds).backs
  mv : (mkS ds).moves = (lawS ds).moves
  gn : ∀ r ∈ goneL ds, r ∈ ds.map (·.1)
theorem gone_snoc {ds : List (Int × Dd)} {n : Int} {δ : Dd} : goneL (ds ++ [(n, δ)]) = goneL ds ++ (if δ.word = ("drop" : Str) then [num1 δ] else []) := by
  unfold goneL
  rw [List.filter_append, List.map_append]
  congr 1
  show (List.filter (fun x : Int × Dd => decide (x.2.word = ("drop" : Str))) [(n, δ)]).map _ = _
  by_cases h : δ.word = ("drop" : Str)
  · rw [List.filter_cons_of_pos (by simp [h]), if_pos h]
    rfl
  · rw [List.filter_cons_of_neg (by simp [h]), if_neg h]
    rfl
theorem layers_snoc {ds : List (Int × Dd)} {n : Int} {δ : Dd} : layersL (ds ++ [(n, δ)]) = layersL ds ++ (if δ.word = ("layer" : Str) then [n] else []) := by
  unfold layersL
  rw [List.filter_append, List.map_append]
  congr 1
  show (List.filter (fun x : Int × Dd => decide (x.2.word = ("layer" : Str))) [(n, δ)]).map _ = _
  by_cases h : δ.word = ("layer" : Str)
  · rw [List.filter_cons_of_pos (by simp [h]), if_pos h]
    rfl
  · rw [List.filter_cons_of_neg (by simp [h]), if_neg h]
    rfl
theorem rows_snoc {ds : List (Int × Dd)} {n : Int} {δ : Dd} (h : δ.word ≠ ("drop" : Str)) : rowsL (ds ++ [(n, δ)]) = rowsL ds ++ (if δ.word = ("row" : Str) ∧ n ∉ goneL ds then [n] else []) := by
  have hg : goneL (ds ++ [(n, δ)]) = goneL ds := by rw [gone_snoc, if_neg h, List.append_nil]
  unfold rowsL
  rw [hg, List.filter_append, List.map_append]
  congr 1
  show (List.filter (fun x : Int × Dd => decide (x.2.word = ("row" : Str)) && !decide (x.1 ∈ goneL ds)) [(n, δ)]).map _ = _
  by_cases h1 : δ.word = ("row" : Str) ∧ n ∉ goneL ds
  · rw [List.filter_cons_of_pos (by simp [h1.1, h1.2]), if_pos h1]
    rfl
  · rw [List.filter_cons_of_neg, if_neg h1]
    · rfl
    · intro z
      rw [Bool.and_eq_true, decide_eq_true_eq] at z
      refine h1 ⟨z.1, fun y => ?_⟩
      have := z.2
      rw [decide_eq_true y] at this
      cases this
theorem rows_drop {ds : List (Int × Dd)} {n r : Int} : rowsL (ds ++ [(n, .drop r)]) = (rowsL ds).filter fun j => decide (j ≠ r) := by
  have hg : goneL (ds ++ [(n, .drop r)]) = goneL ds ++ [r] := by rw [gone_snoc, if_pos (show (Dd.drop r).word = ("drop" : Str) from rfl)]; rfl
  unfold rowsL
  rw [hg, List.filter_append, List.map_append]
  have e2 : (List.filter (fun x : Int × Dd => decide (x.2.word = ("row" : Str)) && !decide (x.1 ∈ goneL ds ++ [r])) [(n, .drop r)]).map (·.1) = [] := by
    rw [List.filter_cons_of_neg]
    · rfl
    · intro z
      rw [Bool.and_eq_true] at z
      have : (Dd.drop r).word = ("row" : Str) := of_decide_eq_true z.1
      exact absurd this (by show ("drop" : Str) ≠ "row"; decide +kernel)
  rw [e2, List.append_nil, List.filter_map, List.filter_filter]
  congr 1
  refine List.filter_congr fun x _ => ?_
  show (decide (x.2.word = ("row" : Str)) && !decide (x.1 ∈ goneL ds ++ [r])) = (decide (x.1 ≠ r) && (decide (x.2.word = ("row" : Str)) && !decide (x.1 ∈ goneL ds)))
  by_cases h1 : x.1 = r
  · simp [h1]
  · simp [h1]

theorem fd {a b : Str} {l : List Int} (h : a ≠ b) : (if a = b then l else []) = [] := if_neg h
theorem fd2 {a b : Str} {q : Prop} [Decidable q] {l : List Int} (h : a ≠ b) : (if a = b ∧ q then l else []) = [] := if_neg fun z => h z.1
theorem lnk_step {ds : List (Int × Dd)} {n : Int} {δ : Dd} (h : Lnk ds) (hr : rowOk (mkS ds) δ) (hn : n ∉ ds.map (·.1)) : Lnk (ds ++ [(n, δ)]) := by
  obtain ⟨ly, ks, of, bk, mv, gn⟩ := h
  have sub : ∀ r ∈ rowsL ds, r ∈ ds.map (·.1) := fun r hr => by
    obtain ⟨x, hx, rfl⟩ := List.mem_map.mp hr
    exact List.mem_map.mpr ⟨x, (List.mem_filter.mp hx).1, rfl⟩
  have nk : n ∉ (mkS ds).rows.map (·.1) := by rw [ks]; exact fun z => hn (sub n z)
  have gn' : ∀ r ∈ goneL ds, r ∈ (ds ++ [(n, δ)]).map (·.1) := fun r z => by rw [List.map_append]; exact List.mem_append_left _ (gn r z)
  have gx : δ.word ≠ ("drop" : Str) → ∀ r ∈ goneL (ds ++ [(n, δ)]), r ∈ (ds ++ [(n, δ)]).map (·.1) := fun hd r z => by
    rw [gone_snoc, if_neg hd, List.append_nil] at z
    exact gn' r z
  cases δ with
  | layer =>
    have w1 : Dd.layer.word = ("layer" : Str) := rfl
    have wd : Dd.layer.word ≠ ("drop" : Str) := by decide +kernel
    have wr : Dd.layer.word ≠ ("row" : Str) := by decide +kernel
    refine ⟨?_, ?_, ?_, ?_, ?_, gx wd⟩ <;> rw [mkS_snoc]
    · rw [layers_snoc, if_pos w1, ← ly]; rfl
    · rw [rows_snoc wd, fd2 wr, List.append_nil, ← ks]; rfl
    · rw [lawS_snoc]; exact of
    · rw [lawS_snoc]; exact bk
    · rw [lawS_snoc]; exact mv
  | row l d h =>
    have w1 : (Dd.row l d h).word = ("row" : Str) := rfl
    have wd : (Dd.row l d h).word ≠ ("drop" : Str) := by show ("row" : Str) ≠ "drop"; decide +kernel
    have wl : (Dd.row l d h).word ≠ ("layer" : Str) := by show ("row" : Str) ≠ "layer"; decide +kernel
    have ng : n ∉ goneL ds := fun z => hn (gn n z)
    have e : (fol (mkS ds) n (.row l d h)).rows = (mkS ds).rows ++ [(n, (l, d, h))] := put_keys_new nk
    refine ⟨?_, ?_, ?_, ?_, ?_, gx wd⟩ <;> rw [mkS_snoc]
    · rw [layers_snoc, fd wl, List.append_nil, ← ly]; rfl
    · rw [rows_snoc wd, if_pos ⟨w1, ng⟩, e, List.map_append, ks]; rfl
    · rw [lawS_snoc]
      intro r x hx
      have hx' : asV (asPut (mkS ds).rows n (l, d, h)) r = some x := hx
      show asV (asPut (lawS ds).of n l) r = _ ∧ asV (asPut (lawS ds).told n (d, h)) r = _
      rw [asV_put] at hx' ⊢
      rw [asV_put]
      by_cases hrn : r = n
      · rw [if_pos hrn] at hx' ⊢
        rw [if_pos hrn]
        cases hx'
        exact ⟨rfl, rfl⟩
      · rw [if_neg hrn] at hx' ⊢
        rw [if_neg hrn]
        exact of r x hx'
    · rw [lawS_snoc]; exact bk
    · rw [lawS_snoc]; exact mv
  | draw r d =>
    have wd : (Dd.draw r d).word ≠ ("drop" : Str) := by show ("draw" : Str) ≠ "drop"; decide +kernel
    have wl : (Dd.draw r d).word ≠ ("layer" : Str) := by show ("draw" : Str) ≠ "layer"; decide +kernel
    have wr : (Dd.draw r d).word ≠ ("row" : Str) := by show ("draw" : Str) ≠ "row"; decide +kernel
    obtain ⟨x, hx⟩ := Option.isSome_iff_exists.mp hr
    obtain ⟨o1, o2⟩ := of r x hx
    have mem : r ∈ (mkS ds).rows.map (·.1) := asV_some.mp (by rw [hx]; rfl)
    refine ⟨?_, ?_, ?_, ?_, ?_, gx wd⟩ <;> rw [mkS_snoc, fol_draw hx]
    · rw [layers_snoc, fd wl, List.append_nil, ← ly]
    · rw [rows_snoc wd, fd2 wr, List.append_nil, ← ks]; exact put_keys_old mem
    · rw [lawS_snoc, lfol_draw o2]
      intro r' x' hx'
      have hx'' : asV (asPut (mkS ds).rows r (x.1, d, x.2.2)) r' = some x' := hx'
      show asV (lawS ds).of r' = _ ∧ asV (asPut (lawS ds).told r (d, x.2.2)) r' = _
      rw [asV_put] at hx'' ⊢
      by_cases e : r' = r
      · rw [if_pos e] at hx'' ⊢
        cases hx''
        exact ⟨by rw [e]; exact o1, rfl⟩
      · rw [if_neg e] at hx'' ⊢
        exact of r' x' hx''
    · rw [lawS_snoc, lfol_draw o2]; exact bk
    · rw [lawS_snoc, lfol_draw o2]; exact mv
  | hold r d =>
    have wd : (Dd.hold r d).word ≠ ("drop" : Str) := by show ("hold" : Str) ≠ "drop"; decide +kernel
    have wl : (Dd.hold r d).word ≠ ("layer" : Str) := by show ("hold" : Str) ≠ "layer"; decide +kernel
    have wr : (Dd.hold r d).word ≠ ("row" : Str) := by show ("hold" : Str) ≠ "row"; decide +kernel
    obtain ⟨x, hx⟩ := Option.isSome_iff_exists.mp hr
    obtain ⟨o1, o2⟩ := of r x hx
    have mem : r ∈ (mkS ds).rows.map (·.1) := asV_some.mp (by rw [hx]; rfl)
    refine ⟨?_, ?_, ?_, ?_, ?_, gx wd⟩ <;> rw [mkS_snoc, fol_hold hx]
    · rw [layers_snoc, fd wl, List.append_nil, ← ly]
    · rw [rows_snoc wd, fd2 wr, List.append_nil, ← ks]; exact put_keys_old mem
    · rw [lawS_snoc, lfol_hold o2]
      intro r' x' hx'
      have hx'' : asV (asPut (mkS ds).rows r (x.1, x.2.1, d)) r' = some x' := hx'
      show asV (lawS ds).of r' = _ ∧ asV (asPut (lawS ds).told r (x.2.1, d)) r' = _
      rw [asV_put] at hx'' ⊢
      by_cases e : r' = r
      · rw [if_pos e] at hx'' ⊢
        cases hx''
        exact ⟨by rw [e]; exact o1, rfl⟩
      · rw [if_neg e] at hx'' ⊢
        exact of r' x' hx''
    · rw [lawS_snoc, lfol_hold o2]; exact bk
    · rw [lawS_snoc, lfol_hold o2]; exact mv
  | drop r =>
    have w1 : (Dd.drop r).word = ("drop" : Str) := rfl
    have wl : (Dd.drop r).word ≠ ("layer" : Str) := by show ("drop" : Str) ≠ "layer"; decide +kernel
    have mem : r ∈ (mkS ds).rows.map (·.1) := asV_some.mp hr
    refine ⟨?_, ?_, ?_, ?_, ?_, ?_⟩
    · rw [mkS_snoc, layers_snoc, fd wl, List.append_nil, ← ly]; rfl
    · rw [mkS_snoc, rows_drop, ← ks]; exact drop_keys
    · rw [mkS_snoc, lawS_snoc]
      intro r' x' hx'
      have hx'' : asV (asDrop (mkS ds).rows r) r' = some x' := hx'
      rw [asV_drop] at hx''
      by_cases e : r' = r
      · rw [if_pos e] at hx''; cases hx''
      · rw [if_neg e] at hx''
        exact of r' x' hx''
    · rw [mkS_snoc, lawS_snoc]; exact bk
    · rw [mkS_snoc, lawS_snoc]; exact mv
    · intro r' z
      rw [gone_snoc, if_pos w1] at z
      rcases List.mem_append.mp z with z | z
      · exact gn' r' z
      · rw [List.mem_singleton.mp z, List.map_append]
        refine List.mem_append_left _ (sub _ ?_)
        rw [← ks]
        exact mem
  | round r =>
    have wd : (Dd.round r).word ≠ ("drop" : Str) := by show ("round" : Str) ≠ "drop"; decide +kernel
    have wl : (Dd.round r).word ≠ ("layer" : Str) := by show ("round" : Str) ≠ "layer"; decide +kernel
    have wr : (Dd.round r).word ≠ ("row" : Str) := by show ("round" : Str) ≠ "row"; decide +kernel
    obtain ⟨x, hx⟩ := Option.isSome_iff_exists.mp hr
    obtain ⟨o1, o2⟩ := of r x hx
    refine ⟨?_, ?_, ?_, ?_, ?_, gx wd⟩ <;> rw [mkS_snoc, fol_round hx]
    · rw [layers_snoc, fd wl, List.append_nil, ← ly]
    · rw [rows_snoc wd, fd2 wr, List.append_nil, ← ks]
    · rw [lawS_snoc, lfol_round o1]; exact of
    · rw [lawS_snoc, lfol_round o1]
      show asPut (mkS ds).backs x.1 (some r) = asPut (lawS ds).backs x.1 (some r)
      rw [bk]
    · rw [lawS_snoc, lfol_round o1]; exact mv
  | straight l =>
    have wd : (Dd.straight l).word ≠ ("drop" : Str) := by show ("straight" : Str) ≠ "drop"; decide +kernel
    have wl : (Dd.straight l).word ≠ ("layer" : Str) := by show ("straight" : Str) ≠ "layer"; decide +kernel
    have wr : (Dd.straight l).word ≠ ("row" : Str) := by show ("straight" : Str) ≠ "row"; decide +kernel
    refine ⟨?_, ?_, ?_, ?_, ?_, gx wd⟩ <;> rw [mkS_snoc]
    · rw [layers_snoc, fd wl, List.append_nil, ← ly]; rfl
    · rw [rows_snoc wd, fd2 wr, List.append_nil, ← ks]; rfl
    · rw [lawS_snoc]; exact of
    · rw [lawS_snoc]
      show asPut (mkS ds).backs l none = asPut (lawS ds).backs l none
      rw [bk]
    · rw [lawS_snoc]; exact mv
  | move x y m =>
    have wd : (Dd.move x y m).word ≠ ("drop" : Str) := by show ("move" : Str) ≠ "drop"; decide +kernel
    have wl : (Dd.move x y m).word ≠ ("layer" : Str) := by show ("move" : Str) ≠ "layer"; decide +kernel
    have wr : (Dd.move x y m).word ≠ ("row" : Str) := by show ("move" : Str) ≠ "row"; decide +kernel
    refine ⟨?_, ?_, ?_, ?_, ?_, gx wd⟩ <;> rw [mkS_snoc]
    · rw [layers_snoc, fd wl, List.append_nil, ← ly]; rfl
    · rw [rows_snoc wd, fd2 wr, List.append_nil, ← ks]; rfl
    · rw [lawS_snoc]; exact of
    · rw [lawS_snoc]; exact bk
    · rw [lawS_snoc]
      show (mkS ds).moves ++ [(x, y, m)] = (lawS ds).moves ++ [(x, y, m)]
      rw [mv]
theorem lnk_take {ds : List (Int × Dd)} (wf : WFd ds) (nd : (ds.map (·.1)).Nodup) : ∀ i : Nat, i ≤ ds.length → Lnk (ds.take i)
  | 0, _ => ⟨rfl, rfl, (fun r x h => by cases h), rfl, rfl, (fun r h => by cases h)⟩
  | i + 1, hi => by
    obtain ⟨x, hx⟩ : ∃ x, ds[i]? = some x := ⟨_, List.getElem?_eq_getElem (by omega)⟩
    rw [List.take_add_one, hx]
    refine lnk_step (n := x.1) (δ := x.2) (lnk_take wf nd i (by omega)) (wf i x.1 x.2 hx) fun z => ?_
    obtain ⟨y, hy, e⟩ := List.mem_map.mp z
    exact nodup_take nd hx y hy e
theorem lnk {ds : List (Int × Dd)} (wf : WFd ds) (nd : (ds.map (·.1)).Nodup) : Lnk ds := by
  have := lnk_take wf nd ds.length (Nat.le_refl _)
  rw [List.take_length] at this
  exact this
theorem rows_nodup {ds : List (Int × Dd)} (nd : (ds.map (·.1)).Nodup) : (rowsL ds).Nodup := by
  unfold rowsL
  exact (List.Nodup.sublist ((List.filter_sublist).map _) nd)
theorem lnk_nd {ds : List (Int × Dd)} (wf : WFd ds) (nd : (ds.map (·.1)).Nodup) : (mkS ds).nd := by
  unfold MS.nd
  rw [(lnk wf nd).ks]
  exact rows_nodup nd

def LdK (K : PySem.W.Frag) (H : Hp) (A : Addr) (ds : List (Int × Dd)) : Prop := ∃ us, H A = some (.lst us) ∧ Paired (NdAt K H) us ds
theorem LdK.same {K : PySem.W.Frag} {H H' : Hp} {A : Addr} {ds : List (Int × Dd)} (h : LdK K H A ds) (s : Same H H') : LdK K H' A ds := by
  obtain ⟨us, e, pd⟩ := h
  exact ⟨us, s _ _ e, Paired.mono pd fun _ _ => NdAt.keep (Same.tk s)⟩
/-- a comprehension over the law's deeds: some of them, a number of each -/
theorem lcfil {K : PySem.W.Frag} {A : Addr} {us : List V} {ds : List (Int × Dd)} {g : TG} {tt : TT} {te : TE} {vs : List Nat} {σ : L2.St} {H1 : Hp} {D : Addr} {Qd : Hp → Prop} (f : Int × Dd → Bool) (v : Int × Dd → Int) (hA : H1 A = some (.lst us)) (pd : Paired (NdAt K H1) us ds) (hl : ds.length ≤ 900) (hD : H1 D = none)
    (hs : ∀ (i : Nat) (u : V) (x : Int × Dd) (H : Hp) (R : V → Hp → Prop) (Z : Hp → Prop), us[i]? = some u → ds[i]? = some x → NdAt K H u x → Same H1 H → (f x = true → ∀ H4, Same H H4 → R (.int (v x)) H4) → (f x = false → ∀ H4, Same H H4 → Z H4) → g u (wipe σ vs) H fun σ2 H2 => wipe σ2 vs = wipe σ vs ∧ tt σ2 H2 fun b H3 => if b = true then te σ2 H3 R else Z H3)
    (hd : ∀ H, Same H1 H → H D = some (.lst (((ds.filter f).map v).map V.int)) → Qd H) :
    ∃ W : Nat → Nat → Hp → Prop, (∃ m, W 0 m (upd H1 D (.lst []))) ∧ ∀ i m H, W i m H →
      ((Itl K A).stop i H ∧ Qd H) ∨ ((Itl K A).go i H ∧ ∃ Nx : Hp → Prop, (∀ H', Nx H' → ∃ m', m' < m ∧ W (i + 1) m' H') ∧ ∀ x H', (Itl K A).yld i H x H' → g x (wipe σ vs) H' fun σ2 H2 => wipe σ2 vs = wipe σ vs ∧ tt σ2 H2 fun b H3 =>
        if b = true then te σ2 H3 fun y H4 => ∃ acc, H4 D = some (.lst acc) ∧ acc.length < sizeLine ∧ Nx (upd H4 D (.lst (acc ++ [y]))) else Nx H3) := by
  have lu := Paired.length pd
  refine lc_list (K := K) (a := A) (xs := us) (fun i H => Same H1 H ∧ H D = some (.lst ((((ds.take i).filter f).map v).map V.int))) ⟨same_upd hD, upd_same⟩ (fun i H _ p => .inl (.inl (p.1 _ _ hA))) (fun i u H hu p => ?_) (fun H p => ?_)
  · obtain ⟨s0, eD⟩ := p
    obtain ⟨x, hx, hn⟩ := Paired.at pd hu
    have et : ((ds.take (i + 1)).filter f).map v = ((ds.take i).filter f).map v ++ (if f x = true then [v x] else []) := by
      rw [List.take_add_one, hx, List.filter_append, List.map_append]
      congr 1
      show (List.filter f [x]).map v = _
      by_cases h : f x = true
      · rw [List.filter_cons_of_pos h, if_pos h]
        rfl
      · rw [List.filter_cons_of_neg h, if_neg h]
        rfl
    refine hs i u x H _ _ hu hx (hn.keep (Same.tk s0)) s0 (fun hf H4 s4 => ⟨_, s4 _ _ eD, small1000 ?_, ?_, ?_⟩) (fun hf H4 s4 => ⟨s0.trans s4, ?_⟩)
    · rw [List.length_map, List.length_map]
      refine Nat.le_trans (List.length_filter_le _ _) ?_
      rw [List.length_take]
      omega
    · intro b o e
      rw [upd_ne (ne_of_none e hD)]
      exact s4 _ _ (s0 _ _ e)
    · rw [upd_same, et, if_pos hf, List.map_append]
      rfl
    · rw [et, if_neg (by rw [hf]; decide), List.append_nil]
      exact s4 _ _ eD
  · obtain ⟨s0, eD⟩ := p
    rw [lu, List.take_length] at eD
    exact hd H s0 eD
theorem word_nums {δ : Dd} {w : Str} (h : δ.word = w) (hw : w ≠ "layer") : ∃ r, δ.nums = num1 δ :: r := by
  cases δ with
  | layer => exact absurd h (fun e => hw e.symm)
  | row a b c => exact ⟨_, rfl⟩
  | draw a b => exact ⟨_, rfl⟩
  | hold a b => exact ⟨_, rfl⟩
  | drop a => exact ⟨_, rfl⟩
  | round a => exact ⟨_, rfl⟩
  | straight a => exact ⟨_, rfl⟩
  | move a b c => exact ⟨_, rfl⟩
theorem deed1 {δ : Dd} (hw : δ.word ≠ ("layer" : Str)) : atI (ddV δ) 1 = some (.int (num1 δ)) := by
  obtain ⟨r, e⟩ := word_nums rfl hw
  unfold ddV
  rw [e]
  exact at_n 1 rfl
theorem notin_ints {n : Int} {l : List Int} : (if true = true then !inV (.int n) (l.map V.int) else inV (.int n) (l.map V.int)) = !decide (n ∈ l) := by
  rw [if_pos rfl, inV_ints]
section
variable {P : Program} {w : World} {K : PySem.W.Frag} {mg : Str → Option Value} {base : Heap}
def sp__law_known (K : PySem.W.Frag) : Sp := fun vs H Q _ => ∃ (A : Addr) (ds : List (Int × Dd)), vs = [.ref A] ∧ LdK K H A ds ∧ ds.length ≤ 300 ∧ ∀ H' t X Y, Same H H' → SqT K H' t [.ref X, .ref Y] → H X = none → H Y = none → H' X = some (.lst ((layersL ds).map V.int)) → H' Y = some (.lst ((rowsL ds).map V.int)) → Q (.ref t) H'
theorem ok__law_known {f : Addr} {fd : FuncData} (F : Fun K "_law_known" "_law_known" s__law_known f fd) (T : Txt K mg) : FnOk P w K mg base CX0 1 f fd ["_law_deeds"] (sp__law_known K) := by
  refine F.ok sc__law_known (fun vs H Q E h => ?_) (fun cdv A outer s H vs Q E hr h => ?_)
  · obtain ⟨A, ds, rfl, _⟩ := h
    rfl
  · obtain ⟨A, ds, rfl, ⟨us, eA, pd⟩, l3, q⟩ := h
    refine ⟨_, (pss_cons (ps_set (i := 1) sc__law_known.nd rfl (Or.inr rfl) (pe_lc (own := [("_law_number", 3), ("_law_deed_here", 4)]) (g := (gTup _ 2 (gCons (gName 3) (gCons (gName 4) gNil)))) (by rfl) sc__law_known.nd (pi_list (pv 0)) (blkOk_by (own := [("_law_number", 3), ("_law_deed_here", 4)]) (N := ["_law_deeds", "_law_gone", "_law_layers", "_law_number", "_law_deed_here"]) (sc := defScope s__law_known) (by decide +kernel)) (fun _ _ _ _ _ => (pg_tup (by rfl) (pgs_cons (pg_name (i := 3) sc__law_known.nd rfl (Or.inl rfl)) (pgs_cons (pg_name (i := 4) sc__law_known.nd rfl (Or.inl rfl)) pgs_nil)))) (fun _ _ _ _ _ => (pts_one (pt_cmpR op_eq (pe_ix (r := rIxT K) ix_tup (pv 4) pe_int (fun _ _ => rfl)) pe_str (nomark _)))) (fun _ _ _ _ _ => (pe_ix (r := rIxT K) ix_tup (pv 4) pe_int (fun _ _ => rfl)))))
      (pss_cons (ps_setLc (i := 2) (own := [("_law_number", 3), ("_law_deed_here", 4)]) (g := (gTup _ 2 (gCons (gName 3) (gCons (gName 4) gNil)))) (by rfl) sc__law_known.nd rfl rfl (sw_true rfl rfl rfl (by decide +kernel)) (pi_list (pv 0)) (blkOk_by (own := [("_law_number", 3), ("_law_deed_here", 4)]) (N := ["_law_deeds", "_law_gone", "_law_layers", "_law_number", "_law_deed_here"]) (sc := defScope s__law_known) (by decide +kernel)) (fun _ _ _ _ _ => (pg_tup (by rfl) (pgs_cons (pg_name (i := 3) sc__law_known.nd rfl (Or.inl rfl)) (pgs_cons (pg_name (i := 4) sc__law_known.nd rfl (Or.inl rfl)) pgs_nil)))) (fun _ _ _ _ _ => (pts_one (pt_cmpR op_eq (pe_ix (r := rIxT K) ix_tup (pv 4) pe_int (fun _ _ => rfl)) pe_str (nomark _)))) (fun _ _ _ _ _ => (pv 3)))
      (pss_one (ps_ret (pe_tup (pa_cons (pv 2) (pa_cons (pe_lc (own := [("_law_number", 3), ("_law_deed_here", 4)]) (g := (gTup _ 2 (gCons (gName 3) (gCons (gName 4) gNil)))) (by rfl) sc__law_known.nd (pi_list (pv 0)) (blkOk_by (own := [("_law_number", 3), ("_law_deed_here", 4)]) (N := ["_law_deeds", "_law_gone", "_law_layers", "_law_number", "_law_deed_here"]) (sc := defScope s__law_known) (by decide +kernel)) (fun _ _ _ _ _ => (pg_tup (by rfl) (pgs_cons (pg_name (i := 3) sc__law_known.nd rfl (Or.inl rfl)) (pgs_cons (pg_name (i := 4) sc__law_known.nd rfl (Or.inl rfl)) pgs_nil)))) (fun _ _ _ _ _ => (pts_one (PW.pt (pw_and (pt_cmpR op_eq (pe_ix (r := rIxT K) ix_tup (pv 4) pe_int (fun _ _ => rfl)) pe_str (nomark _)) (pw_and1 (pt_cmpR (r := rIn K true) op_notIn_seq (pv 3) (pv 1) (by rfl))))))) (fun _ _ _ _ _ => (pv 3))) pa_nil))))))), ?_⟩
    refine ⟨_, rfl, A, rfl, ⟨_, .inl (.inl eA)⟩, fun G hG => ?_⟩
    refine lcfil (fun x => decide (x.2.word = ("drop" : Str))) (fun x => num1 x.2) eA pd (by omega) hG (fun i u x H1 R Z hu hx hn s1 hR hZ => ?_) (fun H1 s1 eG => ?_)
    · obtain ⟨t, y, rfl, ht, py, rfl, hy⟩ := hn
      refine ⟨t, _, rfl, ht, rfl, _, _, rfl, _, _, rfl, rfl, rfl, _, rfl, py, _, 0, .str x.2.word, rfl, rfl, hy, at0, rfl, _, rfl, ite2 (fun e => ?_) (fun e => ?_)⟩
      · have e' : x.2.word = ("drop" : Str) := V.str.inj (of_decide_eq_true e)
        exact ⟨_, rfl, py, _, 1, _, rfl, rfl, hy, deed1 (by rw [e']; decide +kernel), hR (decide_eq_true e') _ (Same.refl _)⟩
      · exact hZ (decide_eq_false fun h => e (decide_eq_true (by rw [h]))) _ (Same.refl _)
    have eG' : H1 G = some (.lst ((goneL ds).map V.int)) := eG
    refine ⟨_, rfl, A, rfl, ⟨_, .inl (.inl (s1 _ _ eA))⟩, fun X hX => ?_⟩
    refine lcfil (fun x => decide (x.2.word = ("layer" : Str))) (fun x => x.1) (s1 _ _ eA) (Paired.mono pd fun _ _ => NdAt.keep (Same.tk s1)) (by omega) hX (fun i u x H2 R Z hu hx hn s2 hR hZ => ?_) (fun H2 s2 eX => ?_)
    · obtain ⟨t, y, rfl, ht, py, rfl, hy⟩ := hn
      refine ⟨t, _, rfl, ht, rfl, _, _, rfl, _, _, rfl, rfl, rfl, _, rfl, py, _, 0, .str x.2.word, rfl, rfl, hy, at0, rfl, _, rfl, ite2 (fun e => ?_) (fun e => ?_)⟩
      · have e' : x.2.word = ("layer" : Str) := V.str.inj (of_decide_eq_true e)
        exact ⟨_, rfl, hR (decide_eq_true e') _ (Same.refl _)⟩
      · exact hZ (decide_eq_false fun h => e (decide_eq_true (by rw [h]))) _ (Same.refl _)
    have s12 := s1.trans s2
    refine ⟨_, rfl, _, rfl, A, rfl, ⟨_, .inl (.inl (s12 _ _ eA))⟩, fun Y hY => ?_⟩
    refine lcfil (fun x => decide (x.2.word = ("row" : Str)) && !decide (x.1 ∈ goneL ds)) (fun x => x.1) (s12 _ _ eA) (Paired.mono pd fun _ _ => NdAt.keep (Same.tk s12)) (by omega) hY (fun i u x H3 R Z hu hx hn s3 hR hZ => ?_) (fun H3 s3 eY => ?_)
    · obtain ⟨t, y, rfl, ht, py, rfl, hy⟩ := hn
      refine ⟨t, _, rfl, ht, rfl, _, _, rfl, _, _, rfl, rfl, rfl, _, rfl, py, _, 0, .str x.2.word, rfl, rfl, hy, at0, rfl, _, rfl, ite2 (fun e => ?_) (fun e => ?_)⟩
      · have e' : x.2.word = ("row" : Str) := V.str.inj (of_decide_eq_true e)
        refine ⟨_, rfl, _, rfl, G, _, rfl, .inl (.inl (.inl (s3 _ _ (s2 _ _ eG')))), rfl, flat_ints _, _, rfl, ?_⟩
        show if (if true = true then !inV (.int x.1) ((goneL ds).map V.int) else inV (.int x.1) ((goneL ds).map V.int)) = true then _ else _
        rw [notin_ints]
        cases hg : !decide (x.1 ∈ goneL ds) with
        | true => exact iteT ⟨_, rfl, hR (by rw [decide_eq_true e', hg]; rfl) _ (Same.refl _)⟩
        | false => exact iteF (hZ (by rw [decide_eq_true e', hg]; rfl) _ (Same.refl _))
      · exact hZ (by rw [decide_eq_false fun h => e (decide_eq_true (by rw [h]))]; rfl) _ (Same.refl _)
    refine ⟨(by show 2 ≤ sizeLine; decide), fun t nt => ?_⟩
    have st := same_upd (o := .tup [.ref X, .ref Y]) nt
    exact q _ t X Y ((s12.trans s3).trans st) (.inl (.inl upd_same)) (s1.free hX) (s12.free hY) (st _ _ (s3 _ _ eX)) (st _ _ eY)
end

def fitsL (ds : List (Int × Dd)) (δ : Dd) : Bool := if inV (.str δ.word) [.str "row", .str "straight"] = true then decide (num1 δ ∈ layersL ds) else (inV (.str δ.word) [.str "layer", .str "move"] || decide (num1 δ ∈ rowsL ds))
def ofL (ds : List (Int × Dd)) : List (Int × Int) := (ds.filter fun x => decide (x.2.word = ("row" : Str))).map fun x => (x.1, num1 x.2)
theorem ofL_snoc {ds : List (Int × Dd)} {n : Int} {δ : Dd} : ofL (ds ++ [(n, δ)]) = ofL ds ++ (if δ.word = ("row" : Str) then [(n, num1 δ)] else []) := by
  unfold ofL
  rw [List.filter_append, List.map_append]
  congr 1
  show (List.filter (fun x : Int × Dd => decide (x.2.word = ("row" : Str))) [(n, δ)]).map _ = _
  by_cases h : δ.word = ("row" : Str)
  · rw [List.filter_cons_of_pos (by simp [h]), if_pos h]
    rfl
  · rw [List.filter_cons_of_neg (by simp [h]), if_neg h]
    rfl
theorem ofL_keys {ds : List (Int × Dd)} : ∀ r ∈ (ofL ds).map (·.1), r ∈ ds.map (·.1) := fun r hr => by
  unfold ofL at hr
  rw [List.map_map] at hr
  obtain ⟨x, hx, rfl⟩ := List.mem_map.mp hr
  exact List.mem_map.mpr ⟨x, (List.mem_filter.mp hx).1, rfl⟩
theorem of_step {ds : List (Int × Dd)} {n : Int} {δ : Dd} (h : (lawS ds).of = ofL ds) (hn : n ∉ ds.map (·.1)) : (lawS (ds ++ [(n, δ)])).of = ofL (ds ++ [(n, δ)]) := by
  rw [lawS_snoc, ofL_snoc]
  cases δ with
  | layer => rw [if_neg (by decide +kernel), List.append_nil]; exact h
  | row l d k =>
    rw [if_pos (show (Dd.row l d k).word = ("row" : Str) from rfl)]
    show asPut (lawS ds).of n l = _
    rw [h, put_keys_new fun z => hn (ofL_keys n z)]
    rfl
  | draw r d =>
    rw [if_neg (by show ¬ ("draw" : Str) = "row"; decide +kernel), List.append_nil, ← h]
    show (match asV (lawS ds).told r with | some x => { lawS ds with told := asPut (lawS ds).told r (d, x.2) } | none => lawS ds).of = _
    split <;> rfl
  | hold r d =>
    rw [if_neg (by show ¬ ("hold" : Str) = "row"; decide +kernel), List.append_nil, ← h]
    show (match asV (lawS ds).told r with | some x => { lawS ds with told := asPut (lawS ds).told r (x.1, d) } | none => lawS ds).of = _
    split <;> rfl
  | drop r => rw [if_neg (by show ¬ ("drop" : Str) = "row"; decide +kernel), List.append_nil]; exact h
  | round r =>
    rw [if_neg (by show ¬ ("round" : Str) = "row"; decide +kernel), List.append_nil, ← h]
    show (match asV (lawS ds).of r with | some l => { lawS ds with backs := asPut (lawS ds).backs l (some r) } | none => lawS ds).of = _
    split <;> rfl
  | straight l => rw [if_neg (by show ¬ ("straight" : Str) = "row"; decide +kernel), List.append_nil]; exact h
  | move x y m => rw [if_neg (by show ¬ ("move" : Str) = "row"; decide +kernel), List.append_nil]; exact h
theorem of_eq {ds : List (Int × Dd)} (nd : (ds.map (·.1)).Nodup) : (lawS ds).of = ofL ds := by
  have go : ∀ i : Nat, i ≤ ds.length → (lawS (ds.take i)).of = ofL (ds.take i) := fun i => by
    induction i with
    | zero => intro _; rfl
    | succ i ih =>
      intro hi
      obtain ⟨x, hx⟩ : ∃ x, ds[i]? = some x := ⟨_, List.getElem?_eq_getElem (by omega)⟩
      rw [List.take_add_one, hx]
      refine of_step (n := x.1) (δ := x.2) (ih (by omega)) fun z => ?_
      obtain ⟨y, hy, e⟩ := List.mem_map.mp z
      exact nodup_take nd hx y hy e
  have := go ds.length (Nat.le_refl _)
  rw [List.take_length] at this
  exact this
theorem rowsIn_eq {ds : List (Int × Dd)} (wf : WFd ds) (nd : (ds.map (·.1)).Nodup) (l : Int) : (rowsL ds).filter (fun r => decide (asV (ofL ds) r = some l)) = rowsIn (mkS ds) l := by
  have L := lnk wf nd
  have hnd := lnk_nd wf nd
  unfold rowsIn
  rw [← L.ks, List.filter_map]
  congr 1
  refine List.filter_congr fun x hx => ?_
  show decide (asV (ofL ds) x.1 = some l) = decide (x.2.1 = l)
  have h1 := asV_mem hnd hx
  rw [← of_eq nd, (L.of x.1 x.2 h1).1]
  simp
def movesN (ds : List (Int × Dd)) : List Int := (ds.filter fun x => decide (x.2.word = ("move" : Str))).map (·.1)
theorem moves_len {ds : List (Int × Dd)} : (mkS ds).moves.length = (movesN ds).length := by
  have go : ∀ i : Nat, i ≤ ds.length → (mkS (ds.take i)).moves.length = (movesN (ds.take i)).length := fun i => by
    induction i with
    | zero => intro _; rfl
    | succ i ih =>
      intro hi
      obtain ⟨⟨n, δ⟩, hx⟩ : ∃ x, ds[i]? = some x := ⟨_, List.getElem?_eq_getElem (by omega)⟩
      have ih := ih (by omega)
      rw [List.take_add_one, hx]
      show (mkS (ds.take i ++ [(n, δ)])).moves.length = (movesN (ds.take i ++ [(n, δ)])).length
      generalize ds.take i = pre at ih
      rw [mkS_snoc]
      have em : movesN (pre ++ [(n, δ)]) = movesN pre ++ (if δ.word = ("move" : Str) then [n] else []) := by
        unfold movesN
        rw [List.filter_append, List.map_append]
        congr 1
        show (List.filter (fun x : Int × Dd => decide (x.2.word = ("move" : Str))) [(n, δ)]).map _ = _
        by_cases h : δ.word = ("move" : Str)
        · rw [List.filter_cons_of_pos (by simp [h]), if_pos h]
          rfl
        · rw [List.filter_cons_of_neg (by simp [h]), if_neg h]
          rfl
      rw [em]
      cases δ with
      | layer => rw [if_neg (by decide +kernel), List.append_nil]; exact ih
      | row l d k => rw [if_neg (by show ¬ ("row" : Str) = "move"; decide +kernel), List.append_nil]; exact ih
      | draw r d =>
        rw [if_neg (by show ¬ ("draw" : Str) = "move"; decide +kernel), List.append_nil, ← ih]
        show (match asV (mkS pre).rows r with | some x => { mkS pre with rows := asPut (mkS pre).rows r (x.1, d, x.2.2) } | none => mkS pre).moves.length = _
        split <;> rfl
      | hold r d =>
        rw [if_neg (by show ¬ ("hold" : Str) = "move"; decide +kernel), List.append_nil, ← ih]
        show (match asV (mkS pre).rows r with | some x => { mkS pre with rows := asPut (mkS pre).rows r (x.1, x.2.1, d) } | none => mkS pre).moves.length = _
        split <;> rfl
      | drop r => rw [if_neg (by show ¬ ("drop" : Str) = "move"; decide +kernel), List.append_nil]; exact ih
      | round r =>
        rw [if_neg (by show ¬ ("round" : Str) = "move"; decide +kernel), List.append_nil, ← ih]
        show (match asV (mkS pre).rows r with | some x => { mkS pre with backs := asPut (mkS pre).backs x.1 (some r) } | none => mkS pre).moves.length = _
        split <;> rfl
      | straight l => rw [if_neg (by show ¬ ("straight" : Str) = "move"; decide +kernel), List.append_nil]; exact ih
      | move x y m =>
        rw [if_pos (show (Dd.move x y m).word = ("move" : Str) from rfl)]
        show ((mkS pre).moves ++ [(x, y, m)]).length = _
        rw [List.length_append, List.length_append, ih]
        rfl
  have := go ds.length (Nat.le_refl _)
  rw [List.take_length] at this
  exact this
theorem wf_snoc {ds : List (Int × Dd)} {n : Int} {δ : Dd} (wf : WFd ds) (h : rowOk (mkS ds) δ) : WFd (ds ++ [(n, δ)]) := fun i n' δ' hi => by
  by_cases hlt : i < ds.length
  · rw [List.getElem?_append_left hlt] at hi
    rw [List.take_append_of_le_length (by omega)]
    exact wf i n' δ' hi
  · have hi2 : i < (ds ++ [(n, δ)]).length := (List.getElem?_eq_some_iff.mp hi).1
    rw [List.length_append] at hi2
    have : i = ds.length := by
      have : [(n, δ)].length = 1 := rfl
      omega
    subst this
    rw [List.getElem?_append_right (Nat.le_refl _), Nat.sub_self] at hi
    cases hi
    rw [List.take_append_of_le_length (Nat.le_refl _), List.take_length]
    exact h
/-- the row that a deed names stands, by the law's numbers -/
theorem rowOk_iff {ds : List (Int × Dd)} (L : Lnk ds) {δ : Dd} : rowOk (mkS ds) δ ↔ (match δ with | .draw r _ => r ∈ rowsL ds | .hold r _ => r ∈ rowsL ds | .drop r => r ∈ rowsL ds | .round r => r ∈ rowsL ds | _ => True) := by
  rw [← L.ks]
  cases δ with
  | draw r d => exact asV_some
  | hold r d => exact asV_some
  | drop r => exact asV_some
  | round r => exact asV_some
  | layer => exact Iff.rfl
  | row l d h => exact Iff.rfl
  | straight l => exact Iff.rfl
  | move x y m => exact Iff.rfl

theorem rows_keep {pre : List (Int × Dd)} {r k : Int} (h : r ∈ rowsL pre) (hk : r ≠ k) : r ∈ rowsL (asDrop pre k) := by
  unfold rowsL at h ⊢
  obtain ⟨x, hx, rfl⟩ := List.mem_map.mp h
  obtain ⟨hx1, hx2⟩ := List.mem_filter.mp hx
  rw [Bool.and_eq_true] at hx2
  refine List.mem_map.mpr ⟨x, List.mem_filter.mpr ⟨?_, ?_⟩, rfl⟩
  · exact List.mem_filter.mpr ⟨hx1, decide_eq_true hk⟩
  · rw [Bool.and_eq_true]
    refine ⟨hx2.1, ?_⟩
    have hng : x.1 ∉ goneL (asDrop pre k) := fun z => by
      have : x.1 ∈ goneL pre := by
        unfold goneL at z ⊢
        obtain ⟨y, hy, e⟩ := List.mem_map.mp z
        obtain ⟨hy1, hy2⟩ := List.mem_filter.mp hy
        exact List.mem_map.mpr ⟨y, List.mem_filter.mpr ⟨(List.mem_filter.mp hy1).1, hy2⟩, e⟩
      have h2 := hx2.2
      rw [decide_eq_true this] at h2
      cases h2
    rw [decide_eq_false hng]
    rfl
theorem drop_nodup {ds : List (Int × Dd)} {k : Int} (nd : (ds.map (·.1)).Nodup) : ((asDrop ds k).map (·.1)).Nodup := by
  unfold asDrop
  exact List.Nodup.sublist ((List.filter_sublist).map _) nd
theorem take_nodup {ds : List (Int × Dd)} {i : Nat} (nd : (ds.map (·.1)).Nodup) : ((ds.take i).map (·.1)).Nodup := List.Nodup.sublist ((List.take_sublist i ds).map _) nd
theorem wf_take {ds : List (Int × Dd)} (wf : WFd ds) (i : Nat) : WFd (ds.take i) := fun j n δ h => by
  have hj : j < i := by
    have := (List.getElem?_eq_some_iff.mp h).1
    rw [List.length_take] at this
    omega
  rw [List.getElem?_take_of_lt hj] at h
  rw [List.take_take, Nat.min_eq_left (by omega)]
  exact wf j n δ h
theorem wf_drop {ds : List (Int × Dd)} (wf : WFd ds) (nd : (ds.map (·.1)).Nodup) {k : Int} (hl : leanL ds k = []) : WFd (asDrop ds k) := by
  have go : ∀ i : Nat, i ≤ ds.length → WFd (asDrop (ds.take i) k) := fun i => by
    induction i with
    | zero =>
      intro _ j n δ h
      cases h
    | succ i ih =>
      intro hi
      have ih := ih (by omega)
      obtain ⟨x, hx⟩ : ∃ x, ds[i]? = some x := ⟨_, List.getElem?_eq_getElem (by omega)⟩
      rw [drop_take hx]
      by_cases e : x.1 = k
      · rw [if_pos e, List.append_nil]
        exact ih
      · rw [if_neg e]
        refine wf_snoc (n := x.1) (δ := x.2) ih ?_
        have L1 : Lnk (asDrop (ds.take i) k) := lnk ih (drop_nodup (take_nodup nd))
        have L0 : Lnk (ds.take i) := lnk (wf_take wf i) (take_nodup nd)
        have hok := wf i x.1 x.2 hx
        have hnk : namO x.2 ≠ some k := fun z => by
          have : x.1 ∈ leanL ds k := List.mem_map.mpr ⟨x, List.mem_filter.mpr ⟨List.mem_of_getElem? hx, decide_eq_true z⟩, rfl⟩
          rw [hl] at this
          cases this
        rw [rowOk_iff L0] at hok
        rw [rowOk_iff L1]
        generalize x.2 = δ at hok hnk
        cases δ with
        | draw r d => exact rows_keep hok fun z => hnk (by rw [← z]; rfl)
        | hold r d => exact rows_keep hok fun z => hnk (by rw [← z]; rfl)
        | drop r => exact rows_keep hok fun z => hnk (by rw [← z]; rfl)
        | round r => exact rows_keep hok fun z => hnk (by rw [← z]; rfl)
        | layer => exact trivial
        | row l d h => exact trivial
        | straight l => exact trivial
        | move x y m => exact trivial
  have := go ds.length (Nat.le_refl _)
  rw [List.take_length] at this
  exact this
def GoodD : Dd → Prop
  | .layer => True
  | .row l d h => 0 ≤ l ∧ (0 ≤ d ∧ d ≤ 9) ∧ (1 ≤ h ∧ h ≤ 24)
  | .draw r d => 0 ≤ r ∧ (0 ≤ d ∧ d ≤ 9)
  | .hold r h => 0 ≤ r ∧ (1 ≤ h ∧ h ≤ 24)
  | .drop r => 0 ≤ r
  | .round r => 0 ≤ r
  | .straight l => 0 ≤ l
  | .move x y m => (-20 ≤ x ∧ x ≤ 20) ∧ (-20 ≤ y ∧ y ≤ 20) ∧ (0 ≤ m ∧ m ≤ 24)
theorem fit_layer {S : MS} {n : Int} (h : 0 ≤ n) : fitD S "layer" (.int n) = decide (n ∈ S.layers) := by
  show (if ("layer" : Str) = "layer" then decide (0 ≤ n) && decide (n ∈ S.layers) else _) = _
  rw [if_pos rfl, decide_eq_true h, Bool.true_and]
theorem fit_row {S : MS} {n : Int} (h : 0 ≤ n) : fitD S "row" (.int n) = decide (n ∈ S.rows.map (·.1)) := by
  have e : fitD S "row" (.int n) = (isWf (.int n) 0 && keyI (.int n) S.rows) := by
    unfold fitD
    rw [if_neg (by decide +kernel), if_pos rfl]
  rw [e]
  show (decide (0 ≤ n) && (asV S.rows n).isSome) = _
  rw [decide_eq_true h, Bool.true_and]
  have := asV_some (l := S.rows) (k := n)
  rw [Bool.eq_iff_iff, decide_eq_true_eq]
  exact this
theorem fit_drawing {S : MS} {d : PyData} : fitD S "drawing" d = isW d 0 9 := by
  unfold fitD plainD
  rw [if_neg (by decide +kernel), if_neg (by decide +kernel), if_pos rfl]
theorem fit_hold {S : MS} {d : PyData} : fitD S "hold" d = isW d 1 24 := by
  unfold fitD plainD
  rw [if_neg (by decide +kernel), if_neg (by decide +kernel), if_neg (by decide +kernel), if_pos rfl]
theorem fit_way {S : MS} {d : PyData} : fitD S "way" d = isW d (-20) 20 := by
  unfold fitD plainD
  rw [if_neg (by decide +kernel), if_neg (by decide +kernel), if_neg (by decide +kernel), if_neg (by decide +kernel), if_pos rfl]
theorem fit_many {S : MS} {d : PyData} : fitD S "many" d = isW d 0 24 := by
  unfold fitD plainD
  rw [if_neg (by decide +kernel), if_neg (by decide +kernel), if_neg (by decide +kernel), if_neg (by decide +kernel), if_neg (by decide +kernel)]
theorem isW_yes {n l m : Int} (h : l ≤ n ∧ n ≤ m) : isW (.int n) l m = true := decide_eq_true h
theorem tak_fits {ds : List (Int × Dd)} (L : Lnk ds) {δ : Dd} (g : GoodD δ) : takD (mkS ds) (ddD δ) = fitsL ds δ := by
  cases δ with
  | layer =>
    rw [show ddD .layer = .tuple (.str "layer" :: []) from rfl, tak_some (ps := []) (by decide +kernel)]
    unfold fitsL
    rw [if_neg (by decide +kernel)]
    rw [show inV (.str Dd.layer.word) [.str "layer", .str "move"] = true by decide +kernel]
    rfl
  | row l d h =>
    rw [show ddD (.row l d h) = .tuple (.str "row" :: [.int l, .int d, .int h]) from rfl, tak_some (ps := ["layer", "drawing", "hold"]) (by decide +kernel)]
    show (true && (fitD (mkS ds) "layer" (.int l) && (fitD (mkS ds) "drawing" (.int d) && (fitD (mkS ds) "hold" (.int h) && true)))) = _
    rw [fit_layer g.1, fit_drawing, fit_hold, isW_yes g.2.1, isW_yes g.2.2, L.ly]
    unfold fitsL
    rw [if_pos (show inV (.str (Dd.row l d h).word) [.str "row", .str "straight"] = true by show inV (.str "row") [.str "row", .str "straight"] = true; decide +kernel)]
    simp
    rfl
  | draw r d =>
    rw [show ddD (.draw r d) = .tuple (.str "draw" :: [.int r, .int d]) from rfl, tak_some (ps := ["row", "drawing"]) (by decide +kernel)]
    show (true && (fitD (mkS ds) "row" (.int r) && (fitD (mkS ds) "drawing" (.int d) && true))) = _
    rw [fit_row g.1, fit_drawing, isW_yes g.2, L.ks]
    unfold fitsL
    rw [if_neg (show ¬ inV (.str (Dd.draw r d).word) [.str "row", .str "straight"] = true by show ¬ inV (.str "draw") [.str "row", .str "straight"] = true; decide +kernel), show inV (.str (Dd.draw r d).word) [.str "layer", .str "move"] = false by show inV (.str "draw") [.str "layer", .str "move"] = false; decide +kernel]
    simp
    rfl
  | hold r d =>
    rw [show ddD (.hold r d) = .tuple (.str "hold" :: [.int r, .int d]) from rfl, tak_some (ps := ["row", "hold"]) (by decide +kernel)]
    show (true && (fitD (mkS ds) "row" (.int r) && (fitD (mkS ds) "hold" (.int d) && true))) = _
    rw [fit_row g.1, fit_hold, isW_yes g.2, L.ks]
    unfold fitsL
    rw [if_neg (show ¬ inV (.str (Dd.hold r d).word) [.str "row", .str "straight"] = true by show ¬ inV (.str "hold") [.str "row", .str "straight"] = true; decide +kernel), show inV (.str (Dd.hold r d).word) [.str "layer", .str "move"] = false by show inV (.str "hold") [.str "layer", .str "move"] = false; decide +kernel]
    simp
    rfl
  | drop r =>
    rw [show ddD (.drop r) = .tuple (.str "drop" :: [.int r]) from rfl, tak_some (ps := ["row"]) (by decide +kernel)]
    show (true && (fitD (mkS ds) "row" (.int r) && true)) = _
    rw [fit_row g, L.ks]
    unfold fitsL
    rw [if_neg (show ¬ inV (.str (Dd.drop r).word) [.str "row", .str "straight"] = true by show ¬ inV (.str "drop") [.str "row", .str "straight"] = true; decide +kernel), show inV (.str (Dd.drop r).word) [.str "layer", .str "move"] = false by show inV (.str "drop") [.str "layer", .str "move"] = false; decide +kernel]
    simp
    rfl
  | round r =>
    rw [show ddD (.round r) = .tuple (.str "round" :: [.int r]) from rfl, tak_some (ps := ["row"]) (by decide +kernel)]
    show (true && (fitD (mkS ds) "row" (.int r) && true)) = _
    rw [fit_row g, L.ks]
    unfold fitsL
    rw [if_neg (show ¬ inV (.str (Dd.round r).word) [.str "row", .str "straight"] = true by show ¬ inV (.str "round") [.str "row", .str "straight"] = true; decide +kernel), show inV (.str (Dd.round r).word) [.str "layer", .str "move"] = false by show inV (.str "round") [.str "layer", .str "move"] = false; decide +kernel]
    simp
    rfl
  | straight l =>
    rw [show ddD (.straight l) = .tuple (.str "straight" :: [.int l]) from rfl, tak_some (ps := ["layer"]) (by decide +kernel)]
    show (true && (fitD (mkS ds) "layer" (.int l) && true)) = _
    rw [fit_layer g, L.ly]
    unfold fitsL
    rw [if_pos (show inV (.str (Dd.straight l).word) [.str "row", .str "straight"] = true by show inV (.str "straight") [.str "row", .str "straight"] = true; decide +kernel)]
    simp
    rfl
  | move x y m =>
    rw [show ddD (.move x y m) = .tuple (.str "move" :: [.int x, .int y, .int m]) from rfl, tak_some (ps := ["way", "way", "many"]) (by decide +kernel)]
    show (true && (fitD (mkS ds) "way" (.int x) && (fitD (mkS ds) "way" (.int y) && (fitD (mkS ds) "many" (.int m) && true)))) = _
    rw [fit_way, fit_way, fit_many, isW_yes g.1, isW_yes g.2.1, isW_yes g.2.2]
    unfold fitsL
    rw [if_neg (show ¬ inV (.str (Dd.move x y m).word) [.str "row", .str "straight"] = true by show ¬ inV (.str "move") [.str "row", .str "straight"] = true; decide +kernel), show inV (.str (Dd.move x y m).word) [.str "layer", .str "move"] = true by show inV (.str "move") [.str "layer", .str "move"] = true; decide +kernel]
    rfl
theorem fits_ok {ds : List (Int × Dd)} (L : Lnk ds) {δ : Dd} (h : fitsL ds δ = true) : rowOk (mkS ds) δ := by
  rw [rowOk_iff L]
  cases δ with
  | draw r d =>
    unfold fitsL at h
    rw [if_neg (show ¬ inV (.str (Dd.draw r d).word) [.str "row", .str "straight"] = true by show ¬ inV (.str "draw") [.str "row", .str "straight"] = true; decide +kernel), show inV (.str (Dd.draw r d).word) [.str "layer", .str "move"] = false by show inV (.str "draw") [.str "layer", .str "move"] = false; decide +kernel] at h
    exact of_decide_eq_true h
  | hold r d =>
    unfold fitsL at h
    rw [if_neg (show ¬ inV (.str (Dd.hold r d).word) [.str "row", .str "straight"] = true by show ¬ inV (.str "hold") [.str "row", .str "straight"] = true; decide +kernel), show inV (.str (Dd.hold r d).word) [.str "layer", .str "move"] = false by show inV (.str "hold") [.str "layer", .str "move"] = false; decide +kernel] at h
    exact of_decide_eq_true h
  | drop r =>
    unfold fitsL at h
    rw [if_neg (show ¬ inV (.str (Dd.drop r).word) [.str "row", .str "straight"] = true by show ¬ inV (.str "drop") [.str "row", .str "straight"] = true; decide +kernel), show inV (.str (Dd.drop r).word) [.str "layer", .str "move"] = false by show inV (.str "drop") [.str "layer", .str "move"] = false; decide +kernel] at h
    exact of_decide_eq_true h
  | round r =>
    unfold fitsL at h
    rw [if_neg (show ¬ inV (.str (Dd.round r).word) [.str "row", .str "straight"] = true by show ¬ inV (.str "round") [.str "row", .str "straight"] = true; decide +kernel), show inV (.str (Dd.round r).word) [.str "layer", .str "move"] = false by show inV (.str "round") [.str "layer", .str "move"] = false; decide +kernel] at h
    exact of_decide_eq_true h
  | layer => exact trivial
  | row l d h => exact trivial
  | straight l => exact trivial
  | move x y m => exact trivial

/-! ### a written dict of text keys: what is no key of it; tuples of texts -/
theorem partsP0 {K : PySem.W.Frag} {w : World} {a : Addr} (h : He.dicW K a = some (He.keysIn w.params ["layer", "row", "draw", "hold", "drop", "round", "straight", "move"])) (z : Str) (hz : partsOf z = none) : PySem.W.nsIn K a z = some none := by
  refine dicN h fun m => ?_
  simp only [List.mem_cons, List.not_mem_nil, or_false] at m
  rcases m with rfl | rfl | rfl | rfl | rfl | rfl | rfl | rfl <;> exact absurd hz (by decide +kernel)
theorem partsP1 {K : PySem.W.Frag} {a t0 t1 t2 t3 t4 t5 t6 t7 : Addr} (n0 : PySem.W.nsIn K a "layer" = some (some (.ref t0))) (n1 : PySem.W.nsIn K a "row" = some (some (.ref t1))) (n2 : PySem.W.nsIn K a "draw" = some (some (.ref t2))) (n3 : PySem.W.nsIn K a "hold" = some (some (.ref t3)))
    (n4 : PySem.W.nsIn K a "drop" = some (some (.ref t4))) (n5 : PySem.W.nsIn K a "round" = some (some (.ref t5))) (n6 : PySem.W.nsIn K a "straight" = some (some (.ref t6))) (n7 : PySem.W.nsIn K a "move" = some (some (.ref t7)))
    (w0 : tupW K t0 = some []) (w1 : tupW K t1 = some [some ("layer" : Str), some ("drawing" : Str), some ("hold" : Str)]) (w2 : tupW K t2 = some [some ("row" : Str), some ("drawing" : Str)]) (w3 : tupW K t3 = some [some ("row" : Str), some ("hold" : Str)]) (w4 : tupW K t4 = some [some ("row" : Str)]) (w5 : tupW K t5 = some [some ("row" : Str)]) (w6 : tupW K t6 = some [some ("layer" : Str)]) (w7 : tupW K t7 = some [some ("way" : Str), some ("way" : Str), some ("many" : Str)])
    (z : Str) (ps : List Str) (h : partsOf z = some ps) : ∃ t, PySem.W.nsIn K a z = some (some (.ref t)) ∧ ∀ H, SqT K H t (ps.map V.str) := by
  unfold partsOf at h
  split at h
  · cases h; subst_vars; exact ⟨_, n0, tupW_ok (ps := []) w0 (by decide)⟩
  split at h
  · cases h; subst_vars; exact ⟨_, n1, tupW_ok (ps := ["layer", "drawing", "hold"]) w1 (by show 3 ≤ 1000; decide)⟩
  split at h
  · cases h; subst_vars; exact ⟨_, n2, tupW_ok (ps := ["row", "drawing"]) w2 (by show 2 ≤ 1000; decide)⟩
  split at h
  · cases h; subst_vars; exact ⟨_, n3, tupW_ok (ps := ["row", "hold"]) w3 (by show 2 ≤ 1000; decide)⟩
  split at h
  · cases h; subst_vars; exact ⟨_, n4, tupW_ok (ps := ["row"]) w4 (by show 1 ≤ 1000; decide)⟩
  split at h
  · cases h; subst_vars; exact ⟨_, n5, tupW_ok (ps := ["row"]) w5 (by show 1 ≤ 1000; decide)⟩
  split at h
  · cases h; subst_vars; exact ⟨_, n6, tupW_ok (ps := ["layer"]) w6 (by show 1 ≤ 1000; decide)⟩
  split at h
  · cases h; subst_vars; exact ⟨_, n7, tupW_ok (ps := ["way", "way", "many"]) w7 (by show 3 ≤ 1000; decide)⟩
  · cases h

/-! ### the desk's tables -/
theorem ansP {K : PySem.W.Frag} {mg : Str → Option Value} {a f0 f1 f2 f3 f4 : Addr} (n0 : PySem.W.nsIn K a "undo" = some (some (.ref f0))) (n1 : PySem.W.nsIn K a "sheet" = some (some (.ref f1))) (n2 : PySem.W.nsIn K a "length" = some (some (.ref f2))) (n3 : PySem.W.nsIn K a "at" = some (some (.ref f3))) (n4 : PySem.W.nsIn K a "leans" = some (some (.ref f4)))
    (g0 : mg "undone" = some (.ref f0)) (g1 : mg "written_sheet" = some (.ref f1)) (g2 : mg "written_length" = some (.ref f2)) (g3 : mg "written_picture" = some (.ref f3)) (g4 : mg "written_leaning" = some (.ref f4)) (z x : Str) (h : ansOf z = some x) : ∃ f, PySem.W.nsIn K a z = some (some (.ref f)) ∧ mg x = some (.ref f) := by
  unfold ansOf at h
  split at h
  · cases h; subst_vars; exact ⟨_, n0, g0⟩
  split at h
  · cases h; subst_vars; exact ⟨_, n1, g1⟩
  split at h
  · cases h; subst_vars; exact ⟨_, n2, g2⟩
  split at h
  · cases h; subst_vars; exact ⟨_, n3, g3⟩
  split at h
  · cases h; subst_vars; exact ⟨_, n4, g4⟩
  · cases h
theorem nbP0 {K : PySem.W.Frag} {w : World} {a : Addr} (h : He.dicW K a = some (He.keysIn w.params ["undo", "sheet", "length", "at", "leans"])) (z : Str) (hz : nbOf z = none) : PySem.W.nsIn K a z = some none := by
  refine dicN h fun m => ?_
  simp only [List.mem_cons, List.not_mem_nil, or_false] at m
  rcases m with rfl | rfl | rfl | rfl | rfl <;> exact absurd hz (by decide +kernel)
theorem nbP1 {K : PySem.W.Frag} {a : Addr} {t0 t1 t2 t3 t4 : Tok} (n0 : PySem.W.nsIn K a "undo" = some (some (.int 1 t0))) (n1 : PySem.W.nsIn K a "sheet" = some (some (.int 0 t1))) (n2 : PySem.W.nsIn K a "length" = some (some (.int 0 t2))) (n3 : PySem.W.nsIn K a "at" = some (some (.int 1 t3))) (n4 : PySem.W.nsIn K a "leans" = some (some (.int 1 t4)))
    (z : Str) (n : Int) (h : nbOf z = some n) : ∃ t, PySem.W.nsIn K a z = some (some (.int n t)) := by
  unfold nbOf at h
  split at h
  · cases h; subst_vars; exact ⟨_, n0⟩
  split at h
  · cases h; subst_vars; exact ⟨_, n1⟩
  split at h
  · cases h; subst_vars; exact ⟨_, n2⟩
  split at h
  · cases h; subst_vars; exact ⟨_, n3⟩
  split at h
  · cases h; subst_vars; exact ⟨_, n4⟩
  · cases h

theorem nam_word (δ : Dd) : (inV (.str δ.word) [.str "layer", .str "move"] = true ∧ namO δ = none) ∨ (inV (.str δ.word) [.str "layer", .str "move"] = false ∧ namO δ = some (num1 δ) ∧ δ.word ≠ ("layer" : Str)) := by
  cases δ with
  | layer => exact .inl ⟨by decide +kernel, rfl⟩
  | move a b c => exact .inl ⟨by show inV (.str "move") [.str "layer", .str "move"] = true; decide +kernel, rfl⟩
  | row a b c => exact .inr ⟨by show inV (.str "row") [.str "layer", .str "move"] = false; decide +kernel, rfl, by show ("row" : Str) ≠ "layer"; decide +kernel⟩
  | draw a b => exact .inr ⟨by show inV (.str "draw") [.str "layer", .str "move"] = false; decide +kernel, rfl, by show ("draw" : Str) ≠ "layer"; decide +kernel⟩
  | hold a b => exact .inr ⟨by show inV (.str "hold") [.str "layer", .str "move"] = false; decide +kernel, rfl, by show ("hold" : Str) ≠ "layer"; decide +kernel⟩
  | drop a => exact .inr ⟨by show inV (.str "drop") [.str "layer", .str "move"] = false; decide +kernel, rfl, by show ("drop" : Str) ≠ "layer"; decide +kernel⟩
  | round a => exact .inr ⟨by show inV (.str "round") [.str "layer", .str "move"] = false; decide +kernel, rfl, by show ("round" : Str) ≠ "layer"; decide +kernel⟩
  | straight a => exact .inr ⟨by show inV (.str "straight") [.str "layer", .str "move"] = false; decide +kernel, rfl, by show ("straight" : Str) ≠ "layer"; decide +kernel⟩
section
variable {P : Program} {w : World} {K : PySem.W.Frag} {mg : Str → Option Value} {base : Heap}
end

/-- a comprehension over a list: some of its things, each made anew -/
theorem lcgen {α β : Type} {K : PySem.W.Frag} {a : Addr} {xs : List V} {g : TG} {tt : TT} {te : TE} {vs : List Nat} {σ : L2.St} {H1 : Hp} {D : Addr} {Qd : Hp → Prop} (as : List α) (f : α → Bool) (v : α → β) (At : Hp → V → β → Prop) (keep : ∀ {H H' : Hp} {y : V} {c : β}, TKeep K H H' → At H y c → At H' y c) (hl : as.length = xs.length) (hz : xs.length ≤ 900) (hS : SqL K H1 a xs) (hD : H1 D = none)
    (hs : ∀ (i : Nat) (x : V) (c : α) (H : Hp) (R : V → Hp → Prop) (Z : Hp → Prop), xs[i]? = some x → as[i]? = some c → Same H1 H → (f c = true → ∀ y H4, Same H H4 → At H4 y (v c) → R y H4) → (f c = false → ∀ H4, Same H H4 → Z H4) → g x (wipe σ vs) H fun σ2 H2 => wipe σ2 vs = wipe σ vs ∧ tt σ2 H2 fun b H3 => if b = true then te σ2 H3 R else Z H3)
    (hd : ∀ H ts, Same H1 H → H D = some (.lst ts) → Paired (At H) ts ((as.filter f).map v) → Qd H) :
    ∃ W : Nat → Nat → Hp → Prop, (∃ m, W 0 m (upd H1 D (.lst []))) ∧ ∀ i m H, W i m H →
      ((Itl K a).stop i H ∧ Qd H) ∨ ((Itl K a).go i H ∧ ∃ Nx : Hp → Prop, (∀ H', Nx H' → ∃ m', m' < m ∧ W (i + 1) m' H') ∧ ∀ x H', (Itl K a).yld i H x H' → g x (wipe σ vs) H' fun σ2 H2 => wipe σ2 vs = wipe σ vs ∧ tt σ2 H2 fun b H3 =>
        if b = true then te σ2 H3 fun y H4 => ∃ acc, H4 D = some (.lst acc) ∧ acc.length < sizeLine ∧ Nx (upd H4 D (.lst (acc ++ [y]))) else Nx H3) := by
  refine lc_list (K := K) (a := a) (xs := xs) (fun i H => Same H1 H ∧ ∃ ts, H D = some (.lst ts) ∧ ts.length ≤ i ∧ Paired (At H) ts (((as.take i).filter f).map v)) ⟨same_upd hD, [], upd_same, Nat.le_refl _, .nil⟩ (fun i H _ p => p.1.seq hS) (fun i x H hx p => ?_) (fun H p => ?_)
  · have hi : i < xs.length := (List.getElem?_eq_some_iff.mp hx).1
    obtain ⟨c, hc⟩ : ∃ c, as[i]? = some c := ⟨_, List.getElem?_eq_getElem (by omega)⟩
    obtain ⟨s0, ts, eD, lt, pd⟩ := p
    have et : ((as.take (i + 1)).filter f).map v = ((as.take i).filter f).map v ++ (if f c = true then [v c] else []) := by
      rw [List.take_add_one, hc, List.filter_append, List.map_append]
      congr 1
      show (List.filter f [c]).map v = _
      by_cases h : f c = true
      · rw [List.filter_cons_of_pos h, if_pos h]
        rfl
      · rw [List.filter_cons_of_neg h, if_neg h]
        rfl
    refine hs i x c H _ _ hx hc s0 (fun hf y H4 s4 hy => ⟨ts, s4 _ _ eD, small1000 (by omega), ?_, ts ++ [y], upd_same, by rw [List.length_append]; exact Nat.succ_le_succ lt, ?_⟩) (fun hf H4 s4 => ⟨s0.trans s4, ts, s4 _ _ eD, by omega, ?_⟩)
    · intro b o e
      rw [upd_ne (ne_of_none e hD)]
      exact s4 _ _ (s0 _ _ e)
    · have k : TKeep K H4 (upd H4 D (.lst (ts ++ [y]))) := fun a zs h => tk_updL (s4 _ _ eD) _ _ h
      rw [et, if_pos hf]
      exact Paired.snocP (Paired.mono pd fun _ _ h => keep k (keep (Same.tk s4) h)) (keep k hy)
    · rw [et, if_neg (by rw [hf]; decide), List.append_nil]
      exact Paired.mono pd fun _ _ h => keep (Same.tk s4) h
  · obtain ⟨s0, ts, eD, lt, pd⟩ := p
    refine hd H ts s0 eD ?_
    rw [List.take_of_length_le (by omega)] at pd
    exact pd
def IntIs (_ : Hp) (y : V) (n : Int) : Prop := y = .int n
theorem IntIs.keep {K : PySem.W.Frag} {H H' : Hp} {y : V} {n : Int} (_ : TKeep K H H') (h : IntIs H y n) : IntIs H' y n := h
theorem paired_int {H : Hp} : ∀ {ts : List V} {ns : List Int}, Paired (IntIs H) ts ns → ts = ns.map V.int
  | _, _, .nil => rfl
  | _, _, .cons h t => by
    rw [show _ = _ from h, paired_int t]
    rfl
theorem mapI_at {l : List Int} {i : Nat} {u : V} {c : Int} (hu : (l.map V.int)[i]? = some u) (hc : l[i]? = some c) : u = .int c := by
  rw [List.getElem?_map, hc] at hu
  exact (Option.some.inj hu).symm
section
variable {α : Type} {Pv : V → α → Prop}
theorem AsP.fold {kvs : List (Key × V)} {l : List (Int × α)} (h : AsP Pv kvs l) : ∀ {acc : List (Key × V)} {la : List (Int × α)}, AsP Pv acc la → AsP Pv (mergeK acc kvs) (l.foldl (fun m r => asPut m r.1 r.2) la) := by
  induction h with
  | nil => exact fun h => h
  | @cons kv r kvs l h t ih =>
    intro acc la ha
    have := AsP.put ha (k := r.1) (v := kv.2) (x := r.2) h.2
    rw [← h.1] at this
    exact ih this
theorem fold_nodup : ∀ {l la : List (Int × α)}, (l.map (·.1)).Nodup → (∀ x ∈ l, ∀ y ∈ la, y.1 ≠ x.1) → l.foldl (fun m r => asPut m r.1 r.2) la = la ++ l
  | [], la, _, _ => (List.append_nil _).symm
  | r :: l, la, nd, hd => by
    rw [List.map_cons, List.nodup_cons] at nd
    show l.foldl (fun m r => asPut m r.1 r.2) (asPut la r.1 r.2) = _
    rw [asPut_new (hd r (List.mem_cons_self)), fold_nodup nd.2, List.append_assoc]
    · rfl
    · intro x hx y hy
      rcases List.mem_append.mp hy with hy | hy
      · exact hd x (List.mem_cons_of_mem _ hx) y hy
      · rw [List.mem_singleton.mp hy]
        intro e
        exact nd.1 (List.mem_map.mpr ⟨x, hx, e.symm⟩)
theorem AsP.merge {kvs : List (Key × V)} {l : List (Int × α)} (h : AsP Pv kvs l) (nd : (l.map (·.1)).Nodup) : AsP Pv (mergeK [] kvs) l := by
  have := AsP.fold h (acc := []) (la := []) .nil
  rw [fold_nodup nd (by intro x _ y hy; cases hy)] at this
  exact this
end

def RowP (K : PySem.W.Frag) (H : Hp) (y : V) (r : Int × Int) : Prop := ∃ t, y = .ref t ∧ SqT K H t [.int r.1, .int r.2]
theorem RowP.keep {K : PySem.W.Frag} {H H' : Hp} {y : V} {r : Int × Int} (k : TKeep K H H') (h : RowP K H y r) : RowP K H' y r := by
  obtain ⟨t, e, h⟩ := h
  exact ⟨t, e, k _ _ h⟩
theorem RowP.split {K : PySem.W.Frag} {H : Hp} : ∀ {ts : List V} {l : List (Int × Int)}, Paired (RowP K H) ts l → ∃ (ps : List Addr) (kvs : List (Key × V)), ts = ps.map V.ref ∧ Paired (fun p (kv : Key × V) => SqT K H p [kV kv.1, kv.2]) ps kvs ∧ AsP (fun v n => v = V.int n) kvs l
  | _, _, .nil => ⟨[], [], rfl, .nil, .nil⟩
  | _, _, .cons (b := r) h t => by
    obtain ⟨ps, kvs, e, a, b⟩ := RowP.split t
    obtain ⟨p, rfl, hp⟩ := h
    refine ⟨p :: ps, (Sum.inl r.1, .int r.2) :: kvs, ?_, .cons hp a, .cons ⟨rfl, rfl⟩ b⟩
    rw [e]
    rfl
theorem ofL_nodup {ds : List (Int × Dd)} (nd : (ds.map (·.1)).Nodup) : ((ofL ds).map (·.1)).Nodup := by
  unfold ofL
  rw [List.map_map]
  exact List.Nodup.sublist ((List.filter_sublist).map _) nd
theorem of_some {ds : List (Int × Dd)} (wf : WFd ds) (nd : (ds.map (·.1)).Nodup) {r : Int} (h : r ∈ rowsL ds) : ∃ x, asV (mkS ds).rows r = some x ∧ asV (ofL ds) r = some x.1 ∧ asV (lawS ds).told r = some (x.2.1, x.2.2) := by
  have L := lnk wf nd
  rw [← L.ks] at h
  obtain ⟨x, hx⟩ := Option.isSome_iff_exists.mp (asV_some.mpr h)
  refine ⟨x, hx, ?_, (L.of r x hx).2⟩
  rw [← of_eq nd]
  exact (L.of r x hx).1
theorem filter_map_len {α β : Type} {l : List α} {f : α → Bool} {v : α → β} : ((l.filter f).map v).length ≤ l.length := by
  rw [List.length_map]
  exact List.length_filter_le _ _
section
variable {P : Program} {w : World} {K : PySem.W.Frag} {mg : Str → Option Value} {base : Heap}
end

theorem seqA {te : TE} {i : Nat} {u : TS} {D : Ends} {σ : L2.St} {H : Hp} (R : V → Hp → Prop) (h : ∀ Q : VK, (∀ v H', R v H' → Q v H') → te σ H Q) (k : ∀ v H', R v H' → u D (σ.set i (some v)) H') : tSeq (tAsg te (gName i)) u D σ H := h _ k
abbrev wK (s : Str) : Key := Sum.inr s
theorem dk_tbl {kvs : List (Key × V)} : ∀ ps, HO.dK kvs ≠ .tbl ps := fun ps z => by cases z
theorem ins_tbl {C dx : Addr} {fs : List (Str × V)} : ∀ ps, HO.ins C dx fs ≠ .tbl ps := fun ps z => by cases z
theorem tabs_any {T : List (Addr × Str)} {H : Hp} {D : Addr} {o o' : HO} (e : H D = some o) (h1 : ∀ ps, o ≠ .tbl ps) (h2 : ∀ c q, o ≠ LamX.CodeO c q) (h : LamX.Tabs T H) : LamX.Tabs T (upd H D o') := fun p hp => by
  obtain ⟨ps, a1, a2, a3⟩ := h p hp
  refine ⟨ps, ?_, a2, fun pos cv hc => ?_⟩
  · rw [upd_ne (fun z => by rw [z, e] at a1; exact h1 _ (Option.some.inj a1))]
    exact a1
  · obtain ⟨c0, e1, e2⟩ := a3 pos cv hc
    refine ⟨c0, e1, ?_⟩
    rw [upd_ne (fun z => by rw [z, e] at e2; exact h2 _ _ (Option.some.inj e2))]
    exact e2
theorem gx_updD {st D : Addr} {H0 H : Hp} {kvs : List (Key × V)} (g : Gx st H0 H) (n0 : H0 D = none) (nD : D ≠ st) (eD : H D = some (.dK kvs)) (k' : List (Key × V)) : Gx st H0 (upd H D (.dK k')) :=
  ⟨fun b o n z h => by rw [upd_ne (ne_of_none h n0)]; exact g.1 b o n z h, fun s => by
    obtain ⟨a, b, e, r⟩ := g.2.1 s
    exact ⟨a, b, by rw [upd_ne (Ne.symm nD)]; exact e, r⟩, fun T h => tabs_any eD dk_tbl (fun c q z => by unfold LamX.CodeO at z; cases z) (g.2.2 T h)⟩
def restK (a b c d e f g h : V) : List (Key × V) := putK (putK (putK (mergeK [] [(wK "layer", a), (wK "row", b), (wK "draw", c), (wK "hold", d), (wK "drop", e)]) (wK "round") f) (wK "straight") g) (wK "move") h
theorem sr_no {a b : Str} (h : a ≠ b) : ¬ wK a = wK b := fun z => h (Sum.inr.inj z)
theorem merge5 (a b c d e : V) : mergeK [] [(wK "layer", a), (wK "row", b), (wK "draw", c), (wK "hold", d), (wK "drop", e)] = putK (putK (putK (putK (putK [] (wK "layer") a) (wK "row") b) (wK "draw") c) (wK "hold") d) (wK "drop") e := rfl
section
variable (a b c d e f g h : V)
theorem rest_layer : valV (restK a b c d e f g h) (wK "layer") = some a := by
  unfold restK
  rw [merge5, valV_put, if_neg (sr_no (by decide +kernel)), valV_put, if_neg (sr_no (by decide +kernel)), valV_put, if_neg (sr_no (by decide +kernel)), valV_put, if_neg (sr_no (by decide +kernel)), valV_put, if_neg (sr_no (by decide +kernel)), valV_put, if_neg (sr_no (by decide +kernel)), valV_put, if_neg (sr_no (by decide +kernel)), valV_put, if_pos rfl]
theorem rest_row : valV (restK a b c d e f g h) (wK "row") = some b := by
  unfold restK
  rw [merge5, valV_put, if_neg (sr_no (by decide +kernel)), valV_put, if_neg (sr_no (by decide +kernel)), valV_put, if_neg (sr_no (by decide +kernel)), valV_put, if_neg (sr_no (by decide +kernel)), valV_put, if_neg (sr_no (by decide +kernel)), valV_put, if_neg (sr_no (by decide +kernel)), valV_put, if_pos rfl]
theorem rest_draw : valV (restK a b c d e f g h) (wK "draw") = some c := by
  unfold restK
  rw [merge5, valV_put, if_neg (sr_no (by decide +kernel)), valV_put, if_neg (sr_no (by decide +kernel)), valV_put, if_neg (sr_no (by decide +kernel)), valV_put, if_neg (sr_no (by decide +kernel)), valV_put, if_neg (sr_no (by decide +kernel)), valV_put, if_pos rfl]
theorem rest_hold : valV (restK a b c d e f g h) (wK "hold") = some d := by
  unfold restK
  rw [merge5, valV_put, if_neg (sr_no (by decide +kernel)), valV_put, if_neg (sr_no (by decide +kernel)), valV_put, if_neg (sr_no (by decide +kernel)), valV_put, if_neg (sr_no (by decide +kernel)), valV_put, if_pos rfl]
theorem rest_drop : valV (restK a b c d e f g h) (wK "drop") = some e := by
  unfold restK
  rw [merge5, valV_put, if_neg (sr_no (by decide +kernel)), valV_put, if_neg (sr_no (by decide +kernel)), valV_put, if_neg (sr_no (by decide +kernel)), valV_put, if_pos rfl]
theorem rest_round : valV (restK a b c d e f g h) (wK "round") = some f := by
  unfold restK
  rw [valV_put, if_neg (sr_no (by decide +kernel)), valV_put, if_neg (sr_no (by decide +kernel)), valV_put, if_pos rfl]
theorem rest_straight : valV (restK a b c d e f g h) (wK "straight") = some g := by
  unfold restK
  rw [valV_put, if_neg (sr_no (by decide +kernel)), valV_put, if_pos rfl]
theorem rest_move : valV (restK a b c d e f g h) (wK "move") = some h := by
  unfold restK
  rw [valV_put, if_pos rfl]
theorem putK_len {l : List (Key × V)} {k : Key} {v : V} : (putK l k v).length ≤ l.length + 1 := by
  unfold putK
  split
  · rw [List.length_map]; omega
  · rw [List.length_append]; exact Nat.le_refl _
theorem len5 : (mergeK [] [(wK "layer", a), (wK "row", b), (wK "draw", c), (wK "hold", d), (wK "drop", e)]).length ≤ 5 := by
  rw [merge5]
  have h1 := putK_len (l := []) (k := wK "layer") (v := a)
  have h2 := putK_len (l := putK [] (wK "layer") a) (k := wK "row") (v := b)
  have h3 := putK_len (l := putK (putK [] (wK "layer") a) (wK "row") b) (k := wK "draw") (v := c)
  have h4 := putK_len (l := putK (putK (putK [] (wK "layer") a) (wK "row") b) (wK "draw") c) (k := wK "hold") (v := d)
  have h5 := putK_len (l := putK (putK (putK (putK [] (wK "layer") a) (wK "row") b) (wK "draw") c) (wK "hold") d) (k := wK "drop") (v := e)
  have h0 : ([] : List (Key × V)).length = 0 := rfl
  omega
end
def IsWord (z : Str) : Prop := z = "layer" ∨ z = "row" ∨ z = "draw" ∨ z = "hold" ∨ z = "drop" ∨ z = "round" ∨ z = "straight" ∨ z = "move"
def wordsV : List V := [.str "layer", .str "row", .str "row", .str "row", .str "draw", .str "hold", .str "drop", .str "round", .str "straight", .str "move"]
theorem words_at {r : Int} (h0 : 0 ≤ r) (h1 : r < 10) : ∃ z, IsWord z ∧ atI wordsV r = some (.str z) := by
  rcases (by omega : r = 0 ∨ r = 1 ∨ r = 2 ∨ r = 3 ∨ r = 4 ∨ r = 5 ∨ r = 6 ∨ r = 7 ∨ r = 8 ∨ r = 9) with e | e | e | e | e | e | e | e | e | e <;> subst e
  · exact ⟨"layer", .inl rfl, rfl⟩
  · exact ⟨"row", .inr (.inl rfl), rfl⟩
  · exact ⟨"row", .inr (.inl rfl), rfl⟩
  · exact ⟨"row", .inr (.inl rfl), rfl⟩
  · exact ⟨"draw", .inr (.inr (.inl rfl)), rfl⟩
  · exact ⟨"hold", .inr (.inr (.inr (.inl rfl))), rfl⟩
  · exact ⟨"drop", .inr (.inr (.inr (.inr (.inl rfl)))), rfl⟩
  · exact ⟨"round", .inr (.inr (.inr (.inr (.inr (.inl rfl))))), rfl⟩
  · exact ⟨"straight", .inr (.inr (.inr (.inr (.inr (.inr (.inl rfl)))))), rfl⟩
  · exact ⟨"move", .inr (.inr (.inr (.inr (.inr (.inr (.inr rfl)))))), rfl⟩
theorem ints_at {l : List Int} {r : Int} (h0 : 0 ≤ r) (h1 : r < (l.length : Int)) : ∃ x, x ∈ l ∧ atI (l.map V.int) r = some (.int x) := by
  have hj : r.toNat < l.length := by omega
  refine ⟨l[r.toNat], List.getElem_mem hj, at_of (j := r.toNat) (by omega) ?_⟩
  rw [List.getElem?_map, List.getElem?_eq_getElem hj]
  rfl
theorem layers_pos {ds : List (Int × Dd)} (h : ∀ x ∈ ds, 0 ≤ x.1) : ∀ x ∈ layersL ds, 0 ≤ x := fun x hx => by
  obtain ⟨y, hy, rfl⟩ := List.mem_map.mp hx
  exact h y (List.mem_filter.mp hy).1
theorem rows_pos {ds : List (Int × Dd)} (h : ∀ x ∈ ds, 0 ≤ x.1) : ∀ x ∈ rowsL ds, 0 ≤ x := fun x hx => by
  obtain ⟨y, hy, rfl⟩ := List.mem_map.mp hx
  exact h y (List.mem_filter.mp hy).1
theorem ne_nil_len {l : List Int} (h : ¬ l = []) : 0 < l.length := by
  cases l with
  | nil => exact absurd rfl h
  | cons a t => exact Nat.succ_pos _
theorem ite_any {c : Bool} {Q : VK} {H : Hp} {σ : L2.St} {i j : Nat} {a b : V} (Pv : V → Prop) (k : ∀ v, Pv v → Q v H) (ha : Pv a) (hb : Pv b) (ea : σ[i]? = some (some a)) (eb : σ[j]? = some (some b)) : if c = true then tVar i σ H Q else tVar j σ H Q := by
  cases c with
  | true => exact iteT ⟨a, ea, k a ha⟩
  | false => exact iteF ⟨b, eb, k b hb⟩
/-- the numbers of a deed are small -/
def SmD (δ : Dd) : Prop := ∀ n ∈ δ.nums, -20 ≤ n ∧ n ≤ 1000
theorem layers_rng {ds : List (Int × Dd)} (h : ∀ x ∈ ds, 0 ≤ x.1 ∧ x.1 ≤ 1000) : ∀ n ∈ layersL ds, 0 ≤ n ∧ n ≤ 1000 := fun n hn => by
  unfold layersL at hn
  obtain ⟨y, hy, rfl⟩ := List.mem_map.mp hn
  exact h y (List.mem_filter.mp hy).1
theorem rows_rng {ds : List (Int × Dd)} (h : ∀ x ∈ ds, 0 ≤ x.1 ∧ x.1 ≤ 1000) : ∀ n ∈ rowsL ds, 0 ≤ n ∧ n ≤ 1000 := fun n hn => by
  unfold rowsL at hn
  obtain ⟨y, hy, rfl⟩ := List.mem_map.mp hn
  exact h y (List.mem_filter.mp hy).1
section
variable {P : Program} {w : World} {K : PySem.W.Frag} {mg : Str → Option Value} {base : Heap}
def sp__law_deed (K : PySem.W.Frag) : Sp := fun vs H Q _ => ∃ (st A : Addr) (ds : List (Int × Dd)), vs = [.ref st, .ref A] ∧ IsSx H st ∧ LdK K H A ds ∧ ds.length ≤ 300 ∧ (∀ x ∈ ds, 0 ≤ x.1 ∧ x.1 ≤ 1000) ∧ ∀ H' v δ, Gx st H H' → DeedAt K H' v δ → GoodD δ → SmD δ → Q v H'
theorem ok__law_deed {f : Addr} {fd : FuncData} (F : Fun K "_law_deed" "_law_deed" s__law_deed f fd) (T : Txt K mg) (D__law_known : Cl P w K mg base 1 "_law_known" ["_law_deeds"] (sp__law_known K)) (D__law_take : Cl P w K mg base 1 "_law_take" ["_law_state_here", "_law_many"] (sp__law_take K)) : FnOk P w K mg base CX0 2 f fd ["_law_state_here", "_law_deeds"] (sp__law_deed K) := by
  refine F.ok sc__law_deed (fun vs H Q E h => ?_) (fun cdv A outer s H vs Q E hr h => ?_)
  · obtain ⟨st, A, ds, rfl, _⟩ := h
    rfl
  · obtain ⟨st, A, ds, rfl, hs, hA, l3, hp, q⟩ := h
    refine ⟨_, (pss_cons (ps_asg (pe_own D__law_known (hr.mono (by omega)) (by rfl) (pa_cons (pv 1) pa_nil)) (pg_tup (by rfl) (pgs_cons (pg_name (i := 2) sc__law_deed.nd rfl (Or.inl rfl)) (pgs_cons (pg_name (i := 3) sc__law_deed.nd rfl (Or.inl rfl)) pgs_nil))))
      (pss_cons (ps_set (i := 4) sc__law_deed.nd rfl (Or.inl rfl) (pe_lst (pa_cons pe_str (pa_cons pe_str (pa_cons pe_str (pa_cons pe_str (pa_cons pe_str (pa_cons pe_str (pa_cons pe_str (pa_cons pe_str (pa_cons pe_str (pa_cons pe_str pa_nil))))))))))))
      (pss_cons (ps_set (i := 5) sc__law_deed.nd rfl (Or.inl rfl) (pe_ifExp (pt_cmpR (op_neD hr.units) (pv 2) (pe_lst pa_nil) (nomark _)) (pe_ix ix_list (pv 4) (pe_own D__law_take (hr.mono (by omega)) (by rfl) (pa_cons (pv 0) (pa_cons pe_int pa_nil))) (fun _ _ => rfl)) pe_str))
      (pss_cons (ps_set (i := 6) sc__law_deed.nd rfl (Or.inl rfl) (pe_ifExp (pt_cmpR (op_neD hr.units) (pv 2) (pe_lst pa_nil) (nomark _)) (pe_ix ix_list (pe_op op_cat (pv 2) (pe_lst (pa_cons pe_int pa_nil))) (pe_own D__law_take (hr.mono (by omega)) (by rfl) (pa_cons (pv 0) (pa_cons (pe_callB call_len_seq (by rfl) T.b_len (by decide +kernel) (pa_cons (pv 2) pa_nil)) pa_nil))) (fun _ _ => rfl)) pe_int))
      (pss_cons (ps_set (i := 7) sc__law_deed.nd rfl (Or.inl rfl) (pe_ifExp (pt_cmpR (op_neD hr.units) (pv 3) (pe_lst pa_nil) (nomark _)) (pe_ix ix_list (pv 3) (pe_own D__law_take (hr.mono (by omega)) (by rfl) (pa_cons (pv 0) (pa_cons (pe_callB call_len_seq (by rfl) T.b_len (by decide +kernel) (pa_cons (pv 3) pa_nil)) pa_nil))) (fun _ _ => rfl)) (pe_own D__law_take (hr.mono (by omega)) (by rfl) (pa_cons (pv 0) (pa_cons pe_int pa_nil)))))
      (pss_cons (ps_set (i := 7) sc__law_deed.nd rfl (Or.inl rfl) (pe_ifExp (pt_cmpR op_gt (pe_own D__law_take (hr.mono (by omega)) (by rfl) (pa_cons (pv 0) (pa_cons pe_int pa_nil))) pe_int (nomark _)) (pv 7) (pe_own D__law_take (hr.mono (by omega)) (by rfl) (pa_cons (pv 0) (pa_cons pe_int pa_nil)))))
      (pss_cons (ps_par (i := 8) (j := 9) (by rfl) sc__law_deed.nd rfl rfl (by decide) rfl rfl (pa_cons (pe_own D__law_take (hr.mono (by omega)) (by rfl) (pa_cons (pv 0) (pa_cons pe_int pa_nil))) (pa_cons (pe_op op_add pe_int (pe_own D__law_take (hr.mono (by omega)) (by rfl) (pa_cons (pv 0) (pa_cons (pe_ix ix_list (pe_lst (pa_cons pe_int (pa_cons pe_int pa_nil))) (pe_own D__law_take (hr.mono (by omega)) (by rfl) (pa_cons (pv 0) (pa_cons pe_int pa_nil))) (fun _ _ => rfl)) pa_nil)))) pa_nil)) (by rfl))
      (pss_cons (ps_set (i := 10) sc__law_deed.nd rfl (Or.inl rfl) (pe_disp (pps_cons pe_str (pe_tup pa_nil) (pps_cons pe_str (pe_tup (pa_cons (pv 6) (pa_cons (pv 8) (pa_cons (pv 9) pa_nil)))) (pps_cons pe_str (pe_tup (pa_cons (pv 7) (pa_cons (pv 8) pa_nil))) (pps_cons pe_str (pe_tup (pa_cons (pv 7) (pa_cons (pv 9) pa_nil))) (pps_cons pe_str (pe_tup (pa_cons (pv 7) pa_nil)) pps_nil))))) (by rfl) (by rfl) (fun z => by cases z) (by decide)))
      (pss_cons (ps_asg (pe_tup (pa_cons (pe_tup (pa_cons (pv 7) pa_nil)) (pa_cons (pe_tup (pa_cons (pe_ifExp (pt_cmpR op_gt (pe_own D__law_take (hr.mono (by omega)) (by rfl) (pa_cons (pv 0) (pa_cons pe_int pa_nil))) pe_int (nomark _)) (pv 6) (pv 7)) pa_nil)) pa_nil))) (pg_tup (by rfl) (pgs_cons (pg_sub (pv 10) pe_str (set_dict (Nat.lt_of_le_of_lt (Nat.add_le_add_left (show 1 ≤ 64 by decide) _) hr.units))) (pgs_cons (pg_sub (pv 10) pe_str (set_dict (Nat.lt_of_le_of_lt (Nat.add_le_add_left (show 1 ≤ 64 by decide) _) hr.units))) pgs_nil))))
      (pss_cons (ps_dput (Nat.lt_of_le_of_lt (Nat.add_le_add_left (show 1 ≤ 64 by decide) _) hr.units) (pv 10) pe_str (pe_tup (pa_cons (pe_op op_sub (pe_own D__law_take (hr.mono (by omega)) (by rfl) (pa_cons (pv 0) (pa_cons pe_int pa_nil))) pe_int) (pa_cons (pe_op op_sub (pe_own D__law_take (hr.mono (by omega)) (by rfl) (pa_cons (pv 0) (pa_cons pe_int pa_nil))) pe_int) (pa_cons (pe_own D__law_take (hr.mono (by omega)) (by rfl) (pa_cons (pv 0) (pa_cons pe_int pa_nil))) pa_nil)))) rfl)
      (pss_one (ps_ret (pe_op op_catA (pe_tup (pa_cons (pv 5) pa_nil)) (pe_dget (Nat.lt_of_le_of_lt (Nat.add_le_add_left (show 1 ≤ 64 by decide) _) hr.units) (pv 10) (pv 5) (fun _ _ => rfl))))))))))))))), ?_⟩
    refine ⟨_, rfl, A, ds, rfl, hA, l3, fun H1 t X Y s1 ht nX nY eX eY => ⟨t, _, rfl, ht, rfl, _, _, rfl, _, _, rfl, rfl, ?_⟩⟩
    have ll : (layersL ds).length ≤ 300 := Nat.le_trans filter_map_len l3
    have lr : (rowsL ds).length ≤ 300 := Nat.le_trans filter_map_len l3
    have nXs := sx_ne hs nX
    have nYs := sx_ne hs nY
    dsimp only
    refine seqA (fun v H' => ∃ W, v = .ref W ∧ H1 W = none ∧ Same H1 H' ∧ H' W = some (.lst wordsV)) (fun Q' k => ⟨(by show 10 ≤ sizeLine; decide), fun W nW => k _ _ ⟨W, rfl, nW, same_upd nW, upd_same⟩⟩) (fun v H2 z => ?_)
    obtain ⟨W, rfl, nW, s2', e2'⟩ := z
    have nWs := sx_ne (gx_same (st := st) s1 |>.2.1 hs) nW
    have g2 : Gx st H H2 := gx_same (s1.trans s2')
    have hs2 := g2.2.1 hs
    have eX2 := s2' _ _ eX
    have eY2 := s2' _ _ eY
    -- the word
    refine seqA (fun v H' => Gx st H2 H' ∧ ∃ z, IsWord z ∧ v = .str z) (fun Q' k => ?_) (fun v H3 z => ?_)
    · refine ⟨_, rfl, (by show 0 ≤ sizeLine; decide), fun E nE => ne_ints (ns := layersL ds) (ms := []) (.inl (.inl (same_upd nE _ _ eX2))) (.inl (.inl upd_same)) ⟨_, rfl, ?_⟩⟩
      have gE : Gx st H2 (upd H2 E (.lst [])) := gx_same (same_upd nE)
      by_cases hn : layersL ds = []
      · rw [decide_eq_true hn]
        exact iteF (k _ _ ⟨gE, _, .inl rfl, rfl⟩)
      · rw [decide_eq_false hn]
        refine iteT ⟨_, rfl, _, rfl, st, 10, rfl, gE.2.1 hs2, by decide, by decide, fun r Ha r0 r1 ga => ?_⟩
        obtain ⟨z, hz, hat⟩ := words_at r0 r1
        exact ⟨W, _, r, _, rfl, rfl, .inl (.inl (ga.1 _ _ nWs lst_tbl (same_upd nE _ _ e2'))), hat, k _ _ ⟨gE.trans ga, z, hz, rfl⟩⟩
    obtain ⟨g3, z, hz, rfl⟩ := z
    have hs3 := g3.2.1 hs2
    -- the layer
    refine seqA (fun v H' => Gx st H3 H' ∧ ∃ l : Int, (0 ≤ l ∧ l ≤ 1000) ∧ v = .int l) (fun Q' k => ?_) (fun v H4 y => ?_)
    · refine ⟨_, rfl, (by show 0 ≤ sizeLine; decide), fun E nE => ne_ints (ns := layersL ds) (ms := []) (.inl (.inl (same_upd nE _ _ (g3.1 _ _ nXs lst_tbl eX2)))) (.inl (.inl upd_same)) ⟨_, rfl, ?_⟩⟩
      have gE : Gx st H3 (upd H3 E (.lst [])) := gx_same (same_upd nE)
      have eX3 := same_upd (o := .lst []) nE _ _ (g3.1 _ _ nXs lst_tbl eX2)
      by_cases hn : layersL ds = []
      · rw [decide_eq_true hn]
        exact iteF (k _ _ ⟨gE, 0, ⟨Int.le_refl _, by decide⟩, rfl⟩)
      · rw [decide_eq_false hn]
        refine iteT ⟨_, rfl, (by show 1 ≤ sizeLine; decide), fun N nN => ?_⟩
        obtain ⟨s5, e5⟩ := new_at (.lst [.int 99]) nN
        generalize upd (upd H3 E (.lst [])) N (.lst [.int 99]) = H5 at s5 e5 ⊢
        refine ⟨X, N, _, _, rfl, rfl, s5 _ _ eX3, e5, ?_, fun C nC => ?_⟩
        · rw [List.length_map]
          show (layersL ds).length + 1 ≤ sizeLine
          exact Nat.le_of_lt (small1000 (by omega))
        have g5 := gE.trans (gx_same (st := st) s5)
        have hs5 := g5.2.1 hs3
        have nCs := sx_ne hs5 nC
        obtain ⟨s6, e6⟩ := new_at (.lst ((layersL ds).map V.int ++ [.int 99])) nC
        generalize upd H5 C (.lst ((layersL ds).map V.int ++ [.int 99])) = H6 at s6 e6 ⊢
        have g6 := g5.trans (gx_same (st := st) s6)
        have hl0 := ne_nil_len hn
        refine ⟨_, rfl, _, rfl, X, _, rfl, .inl (.inl (.inl (s6 _ _ (s5 _ _ eX3)))), st, _, rfl, g6.2.1 hs3, by rw [List.length_map]; omega, by rw [List.length_map]; omega, fun r Ha r0 r1 ga => ?_⟩
        rw [List.length_map] at r1
        obtain ⟨x, hx, hat⟩ := ints_at (l := layersL ds ++ [99]) r0 (by rw [List.length_append]; show r < (((layersL ds).length + 1 : Nat) : Int); omega)
        have hat' : atI ((layersL ds).map V.int ++ [.int 99]) r = some (.int x) := by rw [List.map_append] at hat; exact hat
        refine ⟨C, _, r, _, rfl, rfl, .inl (.inl (ga.1 _ _ nCs lst_tbl e6)), hat', k _ _ ⟨g6.trans ga, x, ?_, rfl⟩⟩
        rcases List.mem_append.mp hx with hx | hx
        · exact layers_rng hp x hx
        · rw [List.mem_singleton.mp hx]; decide
    obtain ⟨g4, l, ⟨l0, l9⟩, rfl⟩ := y
    have g34 := g3.trans g4
    have hs4 := g4.2.1 hs3
    -- the row
    refine seqA (fun v H' => Gx st H4 H' ∧ ∃ l : Int, (0 ≤ l ∧ l ≤ 1000) ∧ v = .int l) (fun Q' k => ?_) (fun v H5 y => ?_)
    · have eY4 := g34.1 _ _ nYs lst_tbl eY2
      refine ⟨_, rfl, (by show 0 ≤ sizeLine; decide), fun E nE => ne_ints (ns := rowsL ds) (ms := []) (.inl (.inl (same_upd nE _ _ eY4))) (.inl (.inl upd_same)) ⟨_, rfl, ?_⟩⟩
      have gE : Gx st H4 (upd H4 E (.lst [])) := gx_same (same_upd nE)
      have eY5 := same_upd (o := .lst []) nE _ _ eY4
      by_cases hn : rowsL ds = []
      · rw [decide_eq_true hn]
        exact iteF ⟨_, rfl, st, 9, rfl, gE.2.1 hs4, by decide, by decide, fun r Ha r0 r1 ga => k _ _ ⟨gE.trans ga, r, ⟨r0, by omega⟩, rfl⟩⟩
      · rw [decide_eq_false hn]
        have hl0 := ne_nil_len hn
        refine iteT ⟨_, rfl, _, rfl, _, rfl, Y, _, rfl, .inl (.inl (.inl eY5)), st, _, rfl, gE.2.1 hs4, by rw [List.length_map]; omega, by rw [List.length_map]; omega, fun r Ha r0 r1 ga => ?_⟩
        rw [List.length_map] at r1
        obtain ⟨x, hx, hat⟩ := ints_at (l := rowsL ds) r0 r1
        exact ⟨Y, _, r, _, rfl, rfl, .inl (.inl (ga.1 _ _ nYs lst_tbl eY5)), hat, k _ _ ⟨gE.trans ga, x, rows_rng hp x hx, rfl⟩⟩
    obtain ⟨g5, r1, h1, rfl⟩ := y
    have g35 := g34.trans g5
    have hs5 := g5.2.1 hs4
    refine seqA (fun v H' => Gx st H5 H' ∧ ∃ l : Int, (0 ≤ l ∧ l ≤ 1000) ∧ v = .int l) (fun Q' k => ?_) (fun v H6 y => ?_)
    · refine ⟨_, rfl, st, 9, rfl, hs5, by decide, by decide, fun r Ha r0 rr ga => ⟨_, _, rfl, rfl, _, rfl, ite2 (fun _ => ?_) (fun _ => ?_)⟩⟩
      · exact ⟨_, rfl, k _ _ ⟨ga, r1, h1, rfl⟩⟩
      · exact ⟨_, rfl, st, 30, rfl, ga.2.1 hs5, by decide, by decide, fun r' Hb r0' r1' gb => k _ _ ⟨ga.trans gb, r', ⟨r0', by omega⟩, rfl⟩⟩
    obtain ⟨g6, rw1, ⟨hrw, hrw9⟩, rfl⟩ := y
    have g36 := g35.trans g6
    have hs6 := g6.2.1 hs5
    have gH6 := g2.trans g36
    clear g2 g3 g4 g5 g6 g34 g35 g36 hs2 hs3 hs4 hs5 eX eY eX2 eY2 ht
    refine ⟨_, rfl, st, 10, rfl, hs6, by decide, by decide, fun d H7 d0 d1 g7 => ?_⟩
    have hs7 := g7.2.1 hs6
    refine ⟨_, rfl, (by show 2 ≤ sizeLine; decide), fun p2 np2 => ?_⟩
    obtain ⟨s8, e8⟩ := new_at (.lst [.int 24, .int 3]) np2
    have np2' := sx_ne hs7 np2
    generalize upd H7 p2 (.lst [.int 24, .int 3]) = H8 at s8 e8 ⊢
    have g8 := g7.trans (gx_same (st := st) s8)
    have hs8 := g8.2.1 hs6
    refine ⟨_, rfl, st, 2, rfl, hs8, by decide, by decide, fun r9 H9 a9 b9 g9 => ?_⟩
    obtain ⟨m, m0, m1, em⟩ : ∃ m : Int, 0 < m ∧ m ≤ 24 ∧ atI [V.int 24, .int 3] r9 = some (.int m) := by
      rcases (by omega : r9 = 0 ∨ r9 = 1) with e | e <;> subst e
      · exact ⟨24, by omega, by omega, rfl⟩
      · exact ⟨3, by omega, by omega, rfl⟩
    have hs9 := g9.2.1 hs8
    refine ⟨p2, _, r9, _, rfl, rfl, .inl (.inl (g9.1 _ _ np2' lst_tbl e8)), em, st, m, rfl, hs9, m0, by omega, fun h H10 h0 h1' g10 => ?_⟩
    refine ⟨_, _, rfl, rfl, _, _, rfl, ?_⟩
    have gA : Gx st H H10 := (gH6.trans g8).trans (g9.trans g10)
    have hsA := gA.2.1 hs
    clear gH6 g7 s8 e8 np2 np2' g8 hs8 g9 hs9 g10 hs6 hs7 em
    -- the table
    refine fun D nD => ?_
    have nDs := sx_ne hsA nD
    obtain ⟨s1, e1⟩ := new_at (.dK []) nD
    generalize upd H10 D (.dK []) = H11 at s1 e1 ⊢
    refine ⟨(by show 0 ≤ sizeLine; decide), fun t0 n0 => ?_⟩
    obtain ⟨s2, e2⟩ := new_at (.tup []) n0
    generalize upd H11 t0 (.tup []) = H12 at s2 e2 ⊢
    refine ⟨_, rfl, _, rfl, _, rfl, (by show 3 ≤ sizeLine; decide), fun t1 n1 => ?_⟩
    obtain ⟨s3, e3⟩ := new_at (.tup [.int l, .int d, .int (1 + h)]) n1
    generalize upd H12 t1 (.tup [.int l, .int d, .int (1 + h)]) = H13 at s3 e3 ⊢
    refine ⟨_, rfl, _, rfl, (by show 2 ≤ sizeLine; decide), fun t2 n2 => ?_⟩
    obtain ⟨s4, e4⟩ := new_at (.tup [.int rw1, .int d]) n2
    generalize upd H13 t2 (.tup [.int rw1, .int d]) = H14 at s4 e4 ⊢
    refine ⟨_, rfl, _, rfl, (by show 2 ≤ sizeLine; decide), fun t3 n3 => ?_⟩
    obtain ⟨s5, e5⟩ := new_at (.tup [.int rw1, .int (1 + h)]) n3
    generalize upd H14 t3 (.tup [.int rw1, .int (1 + h)]) = H15 at s5 e5 ⊢
    refine ⟨_, rfl, (by show 1 ≤ sizeLine; decide), fun t4 n4 => ?_⟩
    obtain ⟨s6, e6⟩ := new_at (.tup [.int rw1]) n4
    generalize upd H15 t4 (.tup [.int rw1]) = H16 at s6 e6 ⊢
    have s56 := s5.trans s6
    have s46 := s4.trans s56
    have s36 := s3.trans s46
    have s26 := s2.trans s36
    have eD6 := s26 _ _ e1
    have g16 : Gx st H10 H16 := gx_same (s1.trans s26)
    refine ⟨eD6, [(wK "layer", .ref t0), (wK "row", .ref t1), (wK "draw", .ref t2), (wK "hold", .ref t3), (wK "drop", .ref t4)], rfl, (by show 5 ≤ 15; decide), ?_⟩
    have g17 := gx_updD g16 nD nDs eD6 (mergeK [] [(wK "layer", .ref t0), (wK "row", .ref t1), (wK "draw", .ref t2), (wK "hold", .ref t3), (wK "drop", .ref t4)])
    have k17 : TKeep K H16 (upd H16 D (.dK (mergeK [] [(wK "layer", .ref t0), (wK "row", .ref t1), (wK "draw", .ref t2), (wK "hold", .ref t3), (wK "drop", .ref t4)]))) := tk_d eD6
    have eD7 : upd H16 D (.dK (mergeK [] [(wK "layer", .ref t0), (wK "row", .ref t1), (wK "draw", .ref t2), (wK "hold", .ref t3), (wK "drop", .ref t4)])) D = some (.dK (mergeK [] [(wK "layer", .ref t0), (wK "row", .ref t1), (wK "draw", .ref t2), (wK "hold", .ref t3), (wK "drop", .ref t4)])) := upd_same
    generalize upd H16 D (.dK (mergeK [] [(wK "layer", .ref t0), (wK "row", .ref t1), (wK "draw", .ref t2), (wK "hold", .ref t3), (wK "drop", .ref t4)])) = H17 at g17 k17 eD7 ⊢
    have q0 : SqT K H17 t0 [] := k17 _ _ (.inl (.inl (s36 _ _ e2)))
    have q1 : SqT K H17 t1 [.int l, .int d, .int (1 + h)] := k17 _ _ (.inl (.inl (s46 _ _ e3)))
    have q2 : SqT K H17 t2 [.int rw1, .int d] := k17 _ _ (.inl (.inl (s56 _ _ e4)))
    have q3 : SqT K H17 t3 [.int rw1, .int (1 + h)] := k17 _ _ (.inl (.inl (s6 _ _ e5)))
    have q4 : SqT K H17 t4 [.int rw1] := k17 _ _ (.inl (.inl e6))
    have h5 := len5 (.ref t0) (.ref t1) (.ref t2) (.ref t3) (.ref t4)
    clear s1 e1 s2 e2 s3 e3 s4 e4 s5 e5 s6 e6 s56 s46 s36 s26 eD6 g16 k17 n0 n1 n2 n3 n4
    -- round and straight
    refine ⟨_, rfl, (by show 1 ≤ sizeLine; decide), fun t5 n5 => ?_⟩
    obtain ⟨s5, e5⟩ := new_at (.tup [.int rw1]) n5
    generalize upd H17 t5 (.tup [.int rw1]) = H18 at s5 e5 ⊢
    have g18 := g17.trans (gx_same (st := st) s5)
    have hs18 := g18.2.1 hsA
    refine ⟨_, rfl, st, 9, rfl, hs18, by decide, by decide, fun r H19 r0 rr g19 => ⟨_, _, rfl, rfl, _, rfl, ?_⟩⟩
    refine ite_any (fun v => ∃ x : Int, (0 ≤ x ∧ x ≤ 1000) ∧ v = .int x) (fun v hv => ?_) ⟨l, ⟨l0, l9⟩, rfl⟩ ⟨rw1, ⟨hrw, hrw9⟩, rfl⟩ rfl rfl
    obtain ⟨x, ⟨x0, x9⟩, rfl⟩ := hv
    refine ⟨(by show 1 ≤ sizeLine; decide), fun t6 n6 => ?_⟩
    obtain ⟨s6, e6⟩ := new_at (.tup [.int x]) n6
    generalize upd H19 t6 (.tup [.int x]) = H20 at s6 e6 ⊢
    refine ⟨(by show 2 ≤ sizeLine; decide), fun t7 n7 => ?_⟩
    obtain ⟨s7, e7⟩ := new_at (.tup [.ref t5, .ref t6]) n7
    generalize upd H20 t7 (.tup [.ref t5, .ref t6]) = H21 at s7 e7 ⊢
    have k18 : TKeep K H17 H18 := Same.tk s5
    have k19 : TKeep K H18 H19 := g19.tk hs18
    have k21 : TKeep K H19 H21 := Same.tk (s6.trans s7)
    have k1 : TKeep K H17 H21 := fun a zs hz => k21 a zs (k19 a zs (k18 a zs hz))
    have g20 := g19.trans (gx_same (st := st) (s6.trans s7))
    have g21 := g18.trans g20
    have eD21 := g20.1 _ _ nDs dk_tbl (s5 _ _ eD7)
    have q5 : SqT K H21 t5 [.int rw1] := k21 _ _ (k19 _ _ (.inl (.inl e5)))
    have q6 : SqT K H21 t6 [.int x] := .inl (.inl (s7 _ _ e6))
    have hs21 := g21.2.1 hsA
    replace q0 := k1 _ _ q0
    replace q1 := k1 _ _ q1
    replace q2 := k1 _ _ q2
    replace q3 := k1 _ _ q3
    replace q4 := k1 _ _ q4
    clear g17 eD7 s5 e5 g18 hs18 g19 s6 e6 s7 k18 k19 k21 k1 g20 n5 n6 n7
    generalize hM : mergeK [] [(wK "layer", V.ref t0), (wK "row", .ref t1), (wK "draw", .ref t2), (wK "hold", .ref t3), (wK "drop", .ref t4)] = M0 at eD21 h5
    have l6 := putK_len (l := M0) (k := wK "round") (v := .ref t5)
    have l7 := putK_len (l := putK M0 (wK "round") (.ref t5)) (k := wK "straight") (v := .ref t6)
    refine ⟨t7, _, rfl, .inl (.inl e7), rfl, _, _, rfl, ⟨_, rfl, D, _, rfl, DPut.k (k := wK "round") eD21 (small1000 (by omega)), ?_⟩⟩
    refine ⟨_, _, rfl, ⟨_, rfl, D, _, rfl, DPut.k (k := wK "straight") upd_same (small1000 (by omega)), rfl, ?_⟩⟩
    have g22 := gx_updD g21 nD nDs eD21 (putK M0 (wK "round") (.ref t5))
    have g23 := gx_updD g22 nD nDs upd_same (putK (putK M0 (wK "round") (.ref t5)) (wK "straight") (.ref t6))
    have k23 : TKeep K H21 (upd (upd H21 D (.dK (putK M0 (wK "round") (.ref t5)))) D (.dK (putK (putK M0 (wK "round") (.ref t5)) (wK "straight") (.ref t6)))) := fun a zs hz => tk_d upd_same a zs (tk_d eD21 a zs hz)
    have eD23 : upd (upd H21 D (.dK (putK M0 (wK "round") (.ref t5)))) D (.dK (putK (putK M0 (wK "round") (.ref t5)) (wK "straight") (.ref t6))) D = some (.dK (putK (putK M0 (wK "round") (.ref t5)) (wK "straight") (.ref t6))) := upd_same
    generalize upd (upd H21 D (.dK (putK M0 (wK "round") (.ref t5)))) D (.dK (putK (putK M0 (wK "round") (.ref t5)) (wK "straight") (.ref t6))) = H23 at g23 k23 eD23 ⊢
    have hs23 := g23.2.1 hsA
    -- move
    refine ⟨_, rfl, st, 41, rfl, hs23, by decide, by decide, fun a Ha a0 a1 ga => ⟨_, _, rfl, rfl, ?_⟩⟩
    have hsa := ga.2.1 hs23
    refine ⟨_, rfl, st, 41, rfl, hsa, by decide, by decide, fun b Hb b0 b1 gb => ⟨_, _, rfl, rfl, ?_⟩⟩
    have hsb := gb.2.1 hsa
    refine ⟨_, rfl, st, 25, rfl, hsb, by decide, by decide, fun c Hc c0 c1 gc => ?_⟩
    refine ⟨(by show 3 ≤ sizeLine; decide), fun t8 n8 => ?_⟩
    obtain ⟨s8, e8⟩ := new_at (.tup [.int (a - 20), .int (b - 20), .int c]) n8
    generalize upd Hc t8 (.tup [.int (a - 20), .int (b - 20), .int c]) = H24 at s8 e8 ⊢
    have g24 := (ga.trans gb).trans (gc.trans (gx_same (st := st) s8))
    have k24 : TKeep K H23 H24 := g24.tk hs23
    have eD24 := g24.1 _ _ nDs dk_tbl eD23
    have g25 := gx_updD (g23.trans g24) nD nDs eD24 (putK (putK (putK M0 (wK "round") (.ref t5)) (wK "straight") (.ref t6)) (wK "move") (.ref t8))
    refine ⟨_, rfl, D, _, rfl, DPut.k (k := wK "move") eD24 (small1000 (by omega)), ?_⟩
    have k25 : TKeep K H24 (upd H24 D (.dK (putK (putK (putK M0 (wK "round") (.ref t5)) (wK "straight") (.ref t6)) (wK "move") (.ref t8)))) := tk_d eD24
    have eD25 : upd H24 D (.dK (putK (putK (putK M0 (wK "round") (.ref t5)) (wK "straight") (.ref t6)) (wK "move") (.ref t8))) D = some (.dK (restK (.ref t0) (.ref t1) (.ref t2) (.ref t3) (.ref t4) (.ref t5) (.ref t6) (.ref t8))) := by rw [upd_same, ← hM]; rfl
    generalize upd H24 D (.dK (putK (putK (putK M0 (wK "round") (.ref t5)) (wK "straight") (.ref t6)) (wK "move") (.ref t8))) = H25 at g25 k25 eD25 ⊢
    have k : TKeep K H21 H25 := fun a zs hz => k25 a zs (k24 a zs (k23 a zs hz))
    refine ⟨_, rfl, (by show 1 ≤ sizeLine; decide), fun t9 n9 => ?_⟩
    obtain ⟨s9, e9⟩ := new_at (.tup [.str z]) n9
    generalize upd H25 t9 (.tup [.str z]) = H26 at s9 e9 ⊢
    have kF : TKeep K H21 H26 := fun a zs hz => Same.tk s9 a zs (k a zs hz)
    have gF : Gx st H H26 := gA.trans (g25.trans (gx_same s9))
    have eDF := s9 _ _ eD25
    have fin : ∀ (t : Addr) (δ : Dd), valV (restK (.ref t0) (.ref t1) (.ref t2) (.ref t3) (.ref t4) (.ref t5) (.ref t6) (.ref t8)) (wK z) = some (.ref t) → δ.word = z → SqT K H26 t (δ.nums.map V.int) → GoodD δ → SmD δ → δ.nums.length ≤ 3 → DGet H26 D (.str z) (some (.ref t)) ∧ rCatA K (.ref t9) (.ref t) H26 Q := fun t δ hv hw hq hg hsm hl => by
      refine ⟨by rw [← hv]; exact DGet.k (k := wK z) eDF, t9, t, _, _, rfl, rfl, .inl (.inl e9), hq, ?_, (fun z => by cases z), fun _ he => ?_, fun _ _ p np => ?_⟩
      · rw [List.length_map]
        exact Nat.le_of_lt (small1000 (by show 1 + δ.nums.length ≤ 1000; omega))
      · refine q _ _ δ gF ⟨t9, rfl, ?_⟩ hg hsm
        unfold ddV
        rw [he, hw]
        exact .inl (.inl e9)
      · refine q _ _ δ (gF.trans (gx_same (same_upd np))) ⟨p, rfl, ?_⟩ hg hsm
        unfold ddV
        rw [hw]
        exact .inl (.inl upd_same)
    rcases hz with e | e | e | e | e | e | e | e <;> subst e
    · obtain ⟨f1, f2⟩ := fin t0 .layer (rest_layer _ _ _ _ _ _ _ _) rfl (kF _ _ q0) trivial (by intro n hn; cases hn) (by decide)
      exact ⟨_, rfl, _, rfl, D, _, rfl, f1, f2⟩
    · obtain ⟨f1, f2⟩ := fin t1 (.row l d (1 + h)) (rest_row _ _ _ _ _ _ _ _) rfl (kF _ _ q1) ⟨l0, ⟨d0, by omega⟩, by omega, by omega⟩ (by intro n hn; simp only [Dd.nums, List.mem_cons, List.not_mem_nil, or_false] at hn; omega) (Nat.le_refl _)
      exact ⟨_, rfl, _, rfl, D, _, rfl, f1, f2⟩
    · obtain ⟨f1, f2⟩ := fin t2 (.draw rw1 d) (rest_draw _ _ _ _ _ _ _ _) rfl (kF _ _ q2) ⟨hrw, d0, by omega⟩ (by intro n hn; simp only [Dd.nums, List.mem_cons, List.not_mem_nil, or_false] at hn; omega) (by show 2 ≤ 3; decide)
      exact ⟨_, rfl, _, rfl, D, _, rfl, f1, f2⟩
    · obtain ⟨f1, f2⟩ := fin t3 (.hold rw1 (1 + h)) (rest_hold _ _ _ _ _ _ _ _) rfl (kF _ _ q3) ⟨hrw, by omega, by omega⟩ (by intro n hn; simp only [Dd.nums, List.mem_cons, List.not_mem_nil, or_false] at hn; omega) (by show 2 ≤ 3; decide)
      exact ⟨_, rfl, _, rfl, D, _, rfl, f1, f2⟩
    · obtain ⟨f1, f2⟩ := fin t4 (.drop rw1) (rest_drop _ _ _ _ _ _ _ _) rfl (kF _ _ q4) hrw (by intro n hn; simp only [Dd.nums, List.mem_cons, List.not_mem_nil, or_false] at hn; omega) (by show 1 ≤ 3; decide)
      exact ⟨_, rfl, _, rfl, D, _, rfl, f1, f2⟩
    · obtain ⟨f1, f2⟩ := fin t5 (.round rw1) (rest_round _ _ _ _ _ _ _ _) rfl (kF _ _ q5) hrw (by intro n hn; simp only [Dd.nums, List.mem_cons, List.not_mem_nil, or_false] at hn; omega) (by show 1 ≤ 3; decide)
      exact ⟨_, rfl, _, rfl, D, _, rfl, f1, f2⟩
    · obtain ⟨f1, f2⟩ := fin t6 (.straight x) (rest_straight _ _ _ _ _ _ _ _) rfl (kF _ _ q6) x0 (by intro n hn; simp only [Dd.nums, List.mem_cons, List.not_mem_nil, or_false] at hn; omega) (by show 1 ≤ 3; decide)
      exact ⟨_, rfl, _, rfl, D, _, rfl, f1, f2⟩
    · obtain ⟨f1, f2⟩ := fin t8 (.move (a - 20) (b - 20) c) (rest_move _ _ _ _ _ _ _ _) rfl (Same.tk s9 _ _ (k25 _ _ (.inl (.inl e8)))) ⟨⟨by omega, by omega⟩, ⟨by omega, by omega⟩, c0, by omega⟩ (by intro n hn; simp only [Dd.nums, List.mem_cons, List.not_mem_nil, or_false] at hn; omega) (Nat.le_refl _)
      exact ⟨_, rfl, _, rfl, D, _, rfl, f1, f2⟩
end

/-! ### what is due -/
inductive Out where
  | ref : Int → Out
  | many : Int → Int → Out
  | lean : List Int → Out
  | num : Int → Out
  | nil : Out
deriving DecidableEq
def Out.w : Out → Str
  | .ref _ => "refused"
  | .many _ _ => "many"
  | .lean _ => "leaned"
  | .num _ => "told"
  | .nil => "told"
def Out.x : Out → PyData
  | .ref i => .int i
  | .many a b => .tuple [.int a, .int b]
  | .lean ns => .tuple (ns.map .int)
  | .num n => .int n
  | .nil => .none
def Out.d (o : Out) : PyData := .tuple [.str o.w, o.x]
theorem Out.sd (o : Out) : Sd 2 o.d := Sd.tup fun e he => by
  rcases mem2 he with rfl | rfl
  · cases o with
    | ref i => exact (show Sd 1 (.str "refused") from Sd.st (by decide +kernel))
    | many a b => exact (show Sd 1 (.str "many") from Sd.st (by decide +kernel))
    | lean ns => exact (show Sd 1 (.str "leaned") from Sd.st (by decide +kernel))
    | num n => exact (show Sd 1 (.str "told") from Sd.st (by decide +kernel))
    | nil => exact (show Sd 1 (.str "told") from Sd.st (by decide +kernel))
  · cases o with
    | ref i => exact Sd.int i
    | many a b => exact Sd.tup fun z hz => by rcases mem2 hz with rfl | rfl <;> exact Sd.int _
    | lean ns => exact Sd.intsT
    | num n => exact Sd.int n
    | nil => exact Sd.none
def DueAt (K : PySem.W.Frag) (H : Hp) (v : V) (o : Out) : Prop := ∃ u x, v = .ref u ∧ SqT K H u [.str o.w, x] ∧ Dk K H x o.x
theorem DueAt.keep {K : PySem.W.Frag} {H H' : Hp} {v : V} {o : Out} (k : TKeep K H H') (h : DueAt K H v o) : DueAt K H' v o := by
  obtain ⟨u, x, e, h1, h2⟩ := h
  exact ⟨u, x, e, k _ _ h1, h2.keep k⟩
theorem DueAt.dp {K : PySem.W.Frag} {H : Hp} {v : V} {o : Out} (h : DueAt K H v o) : Dp K H v o.d := by
  obtain ⟨u, x, rfl, h1, h2⟩ := h
  exact .tup h1 (.cons (.str _) (.cons h2.dp .nil))
theorem dk_int {K : PySem.W.Frag} {H : Hp} {n : Int} : Dk K H (.int n) (.int n) := fun _ _ => .int n
theorem dk_non {K : PySem.W.Frag} {H : Hp} : Dk K H .non .none := fun _ _ => .non
theorem dk_ints {K : PySem.W.Frag} {H : Hp} {t : Addr} {ns : List Int} (h : SqT K H t (ns.map V.int)) : Dk K H (.ref t) (.tuple (ns.map .int)) := fun _ k => .tup (k _ _ h) (ints_dp _)
theorem dk_two {K : PySem.W.Frag} {H : Hp} {t : Addr} {a b : Int} (h : SqT K H t [.int a, .int b]) : Dk K H (.ref t) (.tuple [.int a, .int b]) := fun _ k => .tup (k _ _ h) (.cons (.int a) (.cons (.int b) .nil))
/-- the law's word on a deed put, and what then stands -/
def putO (ds : List (Int × Dd)) (n : Int) (δ : Dd) : Out := if fitsL ds δ = true then (match roomS (mkS (ds ++ [(n, δ)])) with | some x => .many x.1 x.2 | none => .num n) else .ref 11
def putS (ds : List (Int × Dd)) (n : Int) (δ : Dd) : List (Int × Dd) := if fitsL ds δ = true ∧ roomS (mkS (ds ++ [(n, δ)])) = none then ds ++ [(n, δ)] else ds
def keyB (ds : List (Int × Dd)) (d : PyData) : Bool := match d with
  | .int n => decide (n ∈ ds.map (·.1))
  | _ => false
def intD (d : PyData) : Int := match d with
  | .int n => n
  | _ => 0
def undO (ds : List (Int × Dd)) (d : PyData) : Out := if keyB ds d = true then (if leanL ds (intD d) = [] then (match roomS (mkS (asDrop ds (intD d))) with | some x => .many x.1 x.2 | none => .nil) else .lean (leanL ds (intD d))) else .ref 5
def undS (ds : List (Int × Dd)) (d : PyData) : List (Int × Dd) := if keyB ds d = true ∧ leanL ds (intD d) = [] ∧ roomS (mkS (asDrop ds (intD d))) = none then asDrop ds (intD d) else ds
theorem nd_snoc {ds : List (Int × Dd)} {n : Int} {δ : Dd} (nd : (ds.map (·.1)).Nodup) (h : n ∉ ds.map (·.1)) : ((ds ++ [(n, δ)]).map (·.1)).Nodup := by
  rw [List.map_append, List.nodup_append]
  refine ⟨nd, by simp, fun a ha b hb => ?_⟩
  rw [List.mem_singleton.mp hb]
  intro z
  rw [z] at ha
  exact h ha
theorem LdK.snoc {K : PySem.W.Frag} {H : Hp} {us : List V} {ds : List (Int × Dd)} (pd : Paired (NdAt K H) us ds) {C t : Addr} {v : V} {n : Int} {δ : Dd} (e : H C = some (.lst (us ++ [.ref t]))) (ht : SqT K H t [.int n, v]) (hv : DeedAt K H v δ) : LdK K H C (ds ++ [(n, δ)]) := ⟨_, e, Paired.snocP pd ⟨t, v, rfl, ht, hv⟩⟩
section
variable {P : Program} {w : World} {K : PySem.W.Frag} {mg : Str → Option Value} {base : Heap}
end

theorem keyB_no {ds : List (Int × Dd)} {d : PyData} (h : isB d = true ∨ isI d = false) : keyB ds d = false := by
  cases d <;> first | rfl | (rcases h with h | h <;> cases h)
theorem dg_num {K : PySem.W.Frag} {fx H : Hp} {b : Bool} {v : V} {d : PyData} (hd : Dg K fx H b v d) (h0 : ¬ isB d = true) (h1 : isI d = true) : ∃ n, v = .int n ∧ d = .int n := by
  cases hd with
  | bl x => exact absurd rfl h0
  | int n => exact ⟨n, rfl, rfl⟩
  | non => cases h1
  | str x => cases h1
  | tup h q => cases h1
  | lst n h q => cases h1
  | dic0 n h => cases h1
  | dic1 n h => cases h1
theorem filter_yes {α : Type} (l : List α) : l.filter (fun _ => true) = l := List.filter_eq_self.mpr fun _ _ => rfl
theorem lean_len {ds : List (Int × Dd)} {k : Int} : (leanL ds k).length ≤ ds.length := filter_map_len
def ndD (x : Int × Dd) : PyData := .tuple [.int x.1, ddD x.2]
theorem NdAt.dp {K : PySem.W.Frag} {H : Hp} {v : V} {x : Int × Dd} (h : NdAt K H v x) : Dp K H v (ndD x) := by
  obtain ⟨t, u, rfl, h1, p, rfl, h2⟩ := h
  exact .tup h1 (.cons (.int _) (.cons (.tup h2 (.cons (.str _) (ints_dp _))) .nil))
theorem word_ok (δ : Dd) : PyData.strOk δ.word = true := by
  cases δ with
  | layer => decide +kernel
  | row a b c => show PyData.strOk "row" = true; decide +kernel
  | draw a b => show PyData.strOk "draw" = true; decide +kernel
  | hold a b => show PyData.strOk "hold" = true; decide +kernel
  | drop a => show PyData.strOk "drop" = true; decide +kernel
  | round a => show PyData.strOk "round" = true; decide +kernel
  | straight a => show PyData.strOk "straight" = true; decide +kernel
  | move a b c => show PyData.strOk "move" = true; decide +kernel
theorem sd_nd (x : Int × Dd) : Sd 2 (ndD x) := Sd.tup fun e he => by
  rcases mem2 he with rfl | rfl
  · exact Sd.int _
  · refine Sd.tup fun e he => ?_
    rcases List.mem_cons.mp he with rfl | he
    · exact Sd.st (word_ok _)
    · obtain ⟨i, _, rfl⟩ := List.mem_map.mp he
      exact Sd.int i
theorem sd_nds (ds : List (Int × Dd)) : Sd 3 (.list (ds.map ndD)) := Sd.lst fun e he => by
  obtain ⟨x, _, rfl⟩ := List.mem_map.mp he
  exact sd_nd x
theorem eq_eqd {K : PySem.W.Frag} {H : Hp} {x y : V} {d : PyData} {k : Nat} {Q : VK} (hx : Dp K H x d) (hy : Dp K H y d) (sd : Sd k d) (hk : k ≤ 64) (q : Q (.bl true) H) : rEqD K x y H Q := eq_data hx hy sd sd hk fun b hb => by rw [hb.mpr rfl]; exact q
section
variable {P : Program} {w : World} {K : PySem.W.Frag} {mg : Str → Option Value} {base : Heap}
end

theorem seqI {t u : TS} {D : Ends} {σ : L2.St} {H : Hp} (R : L2.St → Hp → Prop) (h : ∀ nx : L2.St → Hp → Prop, (∀ σ' H', R σ' H' → nx σ' H') → t { D with nx := nx } σ H) (k : ∀ σ' H', R σ' H' → u D σ' H') : tSeq t u D σ H := h _ k
theorem kL (ds : List PyData) : kitB (tyn (.list ds)) "list" = some true := by
  simp only [tyn]
  decide +kernel
theorem std_int {ds : List (Int × Dd)} (hp : ∀ x ∈ ds, 0 ≤ x.1) (k : Int) : stdD ds (.int k) = decide (k ∈ ds.map (·.1)) := by
  have h := asV_some (l := ds) (k := k)
  show (decide (0 ≤ k) && (asV ds k).isSome) = _
  by_cases hm : k ∈ ds.map (·.1)
  · have h0 : 0 ≤ k := by
      obtain ⟨x, hx, rfl⟩ := List.mem_map.mp hm
      exact hp x hx
    rw [decide_eq_true hm, h.mpr hm, decide_eq_true h0]
    rfl
  · rw [decide_eq_false hm, Bool.eq_false_iff.mpr fun z => hm (h.mp z), Bool.and_false]
theorem RollC.gw {K : PySem.W.Frag} {CT : Nat → Addr} {H H' : Hp} {p D m L R B M st : Addr} {n : Int} {ds : List (Int × Dd)} {TS : List (Addr × Str)} (rc : RollC K CT H p D m L R B M n ds) (hs : IsSx H st) (nL : L ≠ st) (nM : M ≠ st) (g : Gw TS st H H') : RollC K CT H' p D m L R B M n ds := by
  obtain ⟨⟨dx, h1⟩, ⟨kvs, h2, h3⟩, h4, a, b, c⟩ := rc
  have hs0 := hs
  obtain ⟨u, v, es, _⟩ := hs
  have tk : TKeep K H H' := g.tk hs0
  have hd := h4
  obtain ⟨⟨dm, m1⟩, m2, ⟨kr, m3, _⟩, ⟨kb, m4, _⟩, ⟨ms, m5, _⟩, _, _⟩ := hd
  refine ⟨⟨dx, g.1 _ _ (ne_of h1 es (by intro z; cases z)) ins_tbl h1⟩, ⟨kvs, g.1 _ _ (ne_of h2 es (by intro z; cases z)) dk_tbl h2, AsP.mono (fun _ _ => DeedAt.keep tk) h3⟩, h4.keep tk (fun o e => ?_) (fun o e => ?_) (fun o e => ?_) (fun o e => ?_) (fun o e => ?_), a, b, c⟩
  · rw [m1] at e
    cases e
    exact g.1 _ _ (ne_of m1 es (by intro z; cases z)) ins_tbl m1
  · rw [m2] at e
    cases e
    exact g.1 _ _ nL lst_tbl m2
  · rw [m3] at e
    cases e
    exact g.1 _ _ (ne_of m3 es (by intro z; cases z)) dk_tbl m3
  · rw [m4] at e
    cases e
    exact g.1 _ _ (ne_of m4 es (by intro z; cases z)) dk_tbl m4
  · rw [m5] at e
    cases e
    exact g.1 _ _ nM lst_tbl m5
theorem LdK.gw {K : PySem.W.Frag} {H H' : Hp} {A st : Addr} {ds : List (Int × Dd)} {TS : List (Addr × Str)} (h : LdK K H A ds) (hs : IsSx H st) (nA : A ≠ st) (g : Gw TS st H H') : LdK K H' A ds := by
  obtain ⟨us, e, pd⟩ := h
  exact ⟨us, g.1 _ _ nA lst_tbl e, Paired.mono pd fun _ _ => NdAt.keep (g.tk hs)⟩
section
variable {P : Program} {w : World} {K : PySem.W.Frag} {mg : Str → Option Value} {base : Heap}
end

/-! ### the law of rolls -/
def KeepL (H H' : Hp) : Prop := ∀ y o, H y = some o → (∀ C dx fs, o ≠ .ins C dx fs) → (∀ kvs, o ≠ .dK kvs) → H' y = some o
theorem keep2 {H H' : Hp} {p D : Addr} {C dx : Addr} {fs : List (Str × V)} {kvs : List (Key × V)} (hp : H p = some (.ins C dx fs)) (hD : H D = some (.dK kvs)) (k : ∀ y o, y ≠ p → y ≠ D → H y = some o → H' y = some o) : KeepL H H' := fun y o e h1 h2 => k y o (fun z => by rw [z, hp] at e; exact h1 _ _ _ (Option.some.inj e).symm) (fun z => by rw [z, hD] at e; exact h2 _ (Option.some.inj e).symm) e
theorem keep1 {H H' : Hp} {p : Addr} {C dx : Addr} {fs : List (Str × V)} (hp : H p = some (.ins C dx fs)) (k : ∀ y o, y ≠ p → H y = some o → H' y = some o) : KeepL H H' := fun y o e h1 _ => k y o (fun z => by rw [z, hp] at e; exact h1 _ _ _ (Option.some.inj e).symm) e
theorem KeepL.of {H H' : Hp} (s : Same H H') : KeepL H H' := fun y o e _ _ => s y o e
section
variable {K : PySem.W.Frag} {H H' : Hp}
theorem KeepL.tk (k : KeepL H H') : TKeep K H H' := fun a xs h => by
  rcases h with (h | ⟨o, h⟩) | h
  · exact .inl (.inl (k _ _ h (by intro _ _ _ z; cases z) (by intro _ z; cases z)))
  · exact .inl (.inr ⟨o, k _ _ h (by intro _ _ _ z; cases z) (by intro _ z; cases z)⟩)
  · exact .inr h
theorem KeepL.sqL (k : KeepL H H') {a : Addr} {xs : List V} (h : SqL K H a xs) : SqL K H' a xs := by
  rcases h with (h | ⟨o, h⟩) | h
  · exact .inl (.inl (k _ _ h (by intro _ _ _ z; cases z) (by intro _ z; cases z)))
  · exact .inl (.inr ⟨o, k _ _ h (by intro _ _ _ z; cases z) (by intro _ z; cases z)⟩)
  · exact .inr h
theorem KeepL.sx (k : KeepL H H') {st : Addr} (h : IsSx H st) : IsSx H' st := by
  obtain ⟨a, b, e, r⟩ := h
  exact ⟨a, b, k _ _ e (by intro _ _ _ z; cases z) (by intro _ z; cases z), r⟩
theorem KeepL.tabs (k : KeepL H H') {T : List (Addr × Str)} (h : LamX.Tabs T H) : LamX.Tabs T H' := fun p hp => by
  obtain ⟨ps, a1, a2, a3⟩ := h p hp
  refine ⟨ps, k _ _ a1 (by intro _ _ _ z; cases z) (by intro _ z; cases z), a2, fun pos cv hc => ?_⟩
  obtain ⟨c0, e1, e2⟩ := a3 pos cv hc
  exact ⟨c0, e1, k _ _ e2 (by intro _ _ _ z; unfold LamX.CodeO at z; cases z) (by intro _ z; unfold LamX.CodeO at z; cases z)⟩
theorem KeepL.ld (k : KeepL H H') {A : Addr} {ds : List (Int × Dd)} (h : LdK K H A ds) : LdK K H' A ds := by
  obtain ⟨us, e, pd⟩ := h
  exact ⟨us, k _ _ e (by intro _ _ _ z; cases z) (by intro _ z; cases z), Paired.mono pd fun _ _ => NdAt.keep k.tk⟩
end
/-- the numbers and deeds that the law keeps -/
structure DsI (ds : List (Int × Dd)) (n : Int) (N : Nat) : Prop where
  wf : WFd ds
  nd : (ds.map (·.1)).Nodup
  pos : ∀ x ∈ ds, 0 ≤ x.1
  lt : ∀ x ∈ ds, x.1 < n
  n0 : 0 ≤ n
  len : ds.length ≤ N
def putN (ds : List (Int × Dd)) (n : Int) (δ : Dd) : Int := if fitsL ds δ = true ∧ roomS (mkS (ds ++ [(n, δ)])) = none then n + 1 else n
theorem DsI.put {ds : List (Int × Dd)} {n : Int} {N : Nat} (h : DsI ds n N) (δ : Dd) : DsI (putS ds n δ) (putN ds n δ) (N + 1) := by
  obtain ⟨wf, nd, pos, lt, n0, len⟩ := h
  unfold putS putN
  by_cases hc : fitsL ds δ = true ∧ roomS (mkS (ds ++ [(n, δ)])) = none
  · rw [if_pos hc, if_pos hc]
    have hn : n ∉ ds.map (·.1) := fun z => by
      obtain ⟨x, hx, e⟩ := List.mem_map.mp z
      have := lt x hx
      omega
    refine ⟨wf_snoc wf (fits_ok (lnk wf nd) hc.1), nd_snoc nd hn, fun x hx => ?_, fun x hx => ?_, by omega, by rw [List.length_append]; exact Nat.succ_le_succ len⟩
    · rcases List.mem_append.mp hx with hx | hx
      · exact pos x hx
      · rw [List.mem_singleton.mp hx]; exact n0
    · rcases List.mem_append.mp hx with hx | hx
      · have := lt x hx
        omega
      · rw [List.mem_singleton.mp hx]
        show n < n + 1
        omega
  · rw [if_neg hc, if_neg hc]
    exact ⟨wf, nd, pos, lt, n0, by omega⟩
theorem DsI.und {ds : List (Int × Dd)} {n : Int} {N : Nat} (h : DsI ds n N) (d : PyData) : DsI (undS ds d) n N := by
  obtain ⟨wf, nd, pos, lt, n0, len⟩ := h
  unfold undS
  by_cases hc : keyB ds d = true ∧ leanL ds (intD d) = [] ∧ roomS (mkS (asDrop ds (intD d))) = none
  · rw [if_pos hc]
    exact ⟨wf_drop wf nd hc.2.1, drop_nodup nd, fun x hx => pos x (List.mem_filter.mp hx).1, fun x hx => lt x (List.mem_filter.mp hx).1, n0, Nat.le_trans asDrop_len len⟩
  · rw [if_neg hc]
    exact ⟨wf, nd, pos, lt, n0, len⟩
theorem DsI.notin {ds : List (Int × Dd)} {n : Int} {N : Nat} (h : DsI ds n N) : n ∉ ds.map (·.1) := fun z => by
  obtain ⟨x, hx, e⟩ := List.mem_map.mp z
  have := h.lt x hx
  omega
theorem DsI.small {ds : List (Int × Dd)} {n : Int} {N : Nat} (h : DsI ds n N) {k : Nat} (hk : N ≤ k) : (mkS ds).small k := by
  have := mkS_small h.wf ds.length (Nat.le_refl _)
  rw [List.take_length] at this
  obtain ⟨a1, a2, a3, a4⟩ := this
  have := h.len
  exact ⟨by omega, by omega, by omega, by omega⟩
theorem std_key {ds : List (Int × Dd)} (hp : ∀ x ∈ ds, 0 ≤ x.1) (d : PyData) : stdD ds d = keyB ds d := by
  cases d with
  | int k => exact std_int hp k
  | _ => rfl
theorem put_told {ds : List (Int × Dd)} {n : Int} {δ : Dd} : (if (putO ds n δ).w = ("told" : Str) then (1 : Int) else 0) + n = putN ds n δ := by
  by_cases hf : fitsL ds δ = true
  · cases hr : roomS (mkS (ds ++ [(n, δ)])) with
    | none =>
      have eo : putO ds n δ = .num n := by
        unfold putO
        rw [if_pos hf, hr]
      rw [eo, show putN ds n δ = n + 1 from if_pos ⟨hf, hr⟩]
      show (if ("told" : Str) = "told" then (1 : Int) else 0) + n = _
      rw [if_pos rfl]
      omega
    | some x =>
      have eo : putO ds n δ = .many x.1 x.2 := by
        unfold putO
        rw [if_pos hf, hr]
      rw [eo, show putN ds n δ = n from if_neg (fun z => by rw [hr] at z; exact nomatch z.2)]
      show (if ("many" : Str) = "told" then (1 : Int) else 0) + n = _
      rw [if_neg (by decide +kernel)]
      omega
  · have eo : putO ds n δ = .ref 11 := if_neg hf
    rw [eo, show putN ds n δ = n from if_neg fun z => hf z.1]
    show (if ("refused" : Str) = "told" then (1 : Int) else 0) + n = _
    rw [if_neg (by decide +kernel)]
    omega
/-- what stands between two turns -/
structure RI (K : PySem.W.Frag) (CT : Nat → Addr) (TS : List (Addr × Str)) (H : Hp) (st p A a : Addr) (n : Int) (ds : List (Int × Dd)) (ns : List Int) : Prop where
  hs : IsSx H st
  ht : LamX.Tabs TS H
  hS : SqL K H a (ns.map V.int)
  na : a ≠ st ∨ ∀ H', SqL K H' a (ns.map V.int)
  rc : ∃ D m L R B M, RollC K CT H p D m L R B M n ds ∧ L ≠ st ∧ M ≠ st
  hA : LdK K H A ds
  nA : A ≠ st
theorem Gw.sqL {TS : List (Addr × Str)} {K : PySem.W.Frag} {H H' : Hp} {a st : Addr} {xs : List V} (g : Gw TS st H H') (n : a ≠ st ∨ ∀ H', SqL K H' a xs) (h : SqL K H a xs) : SqL K H' a xs := by
  rcases n with n | n
  rotate_left 1
  · exact n _
  rcases h with (h | ⟨o, h⟩) | h
  · exact .inl (.inl (g.1 _ _ n lst_tbl h))
  · exact .inl (.inr ⟨o, g.1 _ _ n (fun ps z => by cases z) h⟩)
  · exact .inr h
theorem RI.gw {K : PySem.W.Frag} {CT : Nat → Addr} {TS : List (Addr × Str)} {H H' : Hp} {st p A a : Addr} {n : Int} {ds : List (Int × Dd)} {ns : List Int} (h : RI K CT TS H st p A a n ds ns) (g : Gw TS st H H') : RI K CT TS H' st p A a n ds ns := by
  obtain ⟨hs, ht, hS, na, ⟨D, m, L, R, B, M, rc, nL, nM⟩, hA, nA⟩ := h
  exact ⟨g.2.1 hs, g.2.2 ht, g.sqL na hS, na, ⟨D, m, L, R, B, M, rc.gw hs nL nM g, nL, nM⟩, hA.gw hs nA g, nA⟩
def DgK (K : PySem.W.Frag) (H : Hp) (v : V) (d : PyData) : Prop := ∀ H', TKeep K H H' → Dg K (fun _ => none) H' true v d
theorem DgK.keep {K : PySem.W.Frag} {H H' : Hp} {v : V} {d : PyData} (h : DgK K H v d) (k : TKeep K H H') : DgK K H' v d := fun H2 k2 => h H2 fun a xs z => k2 _ _ (k _ _ z)

/-! ### rows of a desk -/
def nbW (w : Str) : Option Int := match partsOf w with
  | some ps => some (ps.length : Int)
  | none => nbOf w
theorem nbW_some {w : Str} {ps : List Str} (h : partsOf w = some ps) : nbW w = some (ps.length : Int) := by
  unfold nbW
  rw [h]
theorem nbW_none {w : Str} (h : partsOf w = none) : nbW w = nbOf w := by
  unfold nbW
  rw [h]
def rowOkW (w : Str) (r : List Str) : Bool := decide (nbW w = some (r.length : Int)) && r.all wrN
def spT (ns : List Int) : Str := Txt.join " " (ns.map nT)
def frT (p : RW) : Str := ((Str.empty ++ nT p.1) ++ "/") ++ nT p.2
def picT (c : PIC) : Str := ((Str.empty ++ spT c.1) ++ " at ") ++ Txt.join " " [frT c.2.1, frT c.2.2]
def lenT (r : Option Int) : Str := match r with
  | none => "endless"
  | some k => nT k
def dOf (w : Str) (ns : List Int) : Option Dd := match ns with
  | [] => if w = "layer" then some .layer else none
  | [a] => if w = "drop" then some (.drop a) else if w = "round" then some (.round a) else if w = "straight" then some (.straight a) else none
  | [a, b] => if w = "draw" then some (.draw a b) else if w = "hold" then some (.hold a b) else none
  | [a, b, c] => if w = "row" then some (.row a b c) else if w = "move" then some (.move a b c) else none
  | _ => none
theorem dOf_some {w : Str} {ps : List Str} {ns : List Int} (h : partsOf w = some ps) (hl : ns.length = ps.length) : ∃ δ, dOf w ns = some δ ∧ δ.word = w ∧ δ.nums = ns := by
  have two : ∀ (n : Nat) (ns : List Int), ns.length = n → (n = 0 → ns = []) ∧ (n = 1 → ∃ a, ns = [a]) ∧ (n = 2 → ∃ a b, ns = [a, b]) ∧ (n = 3 → ∃ a b c, ns = [a, b, c]) := fun n ns e => by
    refine ⟨fun z => ?_, fun z => ?_, fun z => ?_, fun z => ?_⟩
    · exact List.length_eq_zero_iff.mp (e.trans z)
    · exact List.length_eq_one_iff.mp (e.trans z)
    · match ns, e.trans z with
      | [a, b], _ => exact ⟨a, b, rfl⟩
    · match ns, e.trans z with
      | [a, b, c], _ => exact ⟨a, b, c, rfl⟩
  obtain ⟨t0, t1, t2, t3⟩ := two _ ns hl
  unfold partsOf at h
  split at h
  · cases h
    subst_vars
    rw [t0 rfl]
    exact ⟨.layer, by decide +kernel, rfl, rfl⟩
  split at h
  · cases h
    subst_vars
    obtain ⟨a, b, c, rfl⟩ := t3 rfl
    exact ⟨.row a b c, by unfold dOf; dsimp only; rw [if_pos rfl], rfl, rfl⟩
  split at h
  · cases h
    subst_vars
    obtain ⟨a, b, rfl⟩ := t2 rfl
    exact ⟨.draw a b, by unfold dOf; dsimp only; rw [if_pos rfl], rfl, rfl⟩
  split at h
  · cases h
    subst_vars
    obtain ⟨a, b, rfl⟩ := t2 rfl
    exact ⟨.hold a b, by unfold dOf; dsimp only; rw [if_neg (by decide +kernel), if_pos rfl], rfl, rfl⟩
  split at h
  · cases h
    subst_vars
    obtain ⟨a, rfl⟩ := t1 rfl
    exact ⟨.drop a, by unfold dOf; dsimp only; rw [if_pos rfl], rfl, rfl⟩
  split at h
  · cases h
    subst_vars
    obtain ⟨a, rfl⟩ := t1 rfl
    exact ⟨.round a, by unfold dOf; dsimp only; rw [if_neg (by decide +kernel), if_pos rfl], rfl, rfl⟩
  split at h
  · cases h
    subst_vars
    obtain ⟨a, rfl⟩ := t1 rfl
    exact ⟨.straight a, by unfold dOf; dsimp only; rw [if_neg (by decide +kernel), if_neg (by decide +kernel), if_pos rfl], rfl, rfl⟩
  split at h
  · cases h
    subst_vars
    obtain ⟨a, b, c, rfl⟩ := t3 rfl
    exact ⟨.move a b c, by unfold dOf; dsimp only; rw [if_neg (by decide +kernel), if_pos rfl], rfl, rfl⟩
  · cases h
/-! ### what is taken is right -/
theorem fit_l {S : MS} {n : Int} (h : fitD S "layer" (.int n) = true) : 0 ≤ n := by
  have h : (if ("layer" : Str) = "layer" then isWf (.int n) 0 && memI (.int n) S.layers else if ("layer" : Str) = "row" then isWf (.int n) 0 && keyI (.int n) S.rows else plainD "layer" (.int n)) = true := h
  rw [if_pos rfl] at h
  exact of_decide_eq_true (Bool.and_eq_true_iff.mp h).1
theorem fit_r {S : MS} {n : Int} (h : fitD S "row" (.int n) = true) : 0 ≤ n ∧ (asV S.rows n).isSome = true := by
  have h : (if ("row" : Str) = "layer" then isWf (.int n) 0 && memI (.int n) S.layers else if ("row" : Str) = "row" then isWf (.int n) 0 && keyI (.int n) S.rows else plainD "row" (.int n)) = true := h
  rw [if_neg (by decide +kernel), if_pos rfl] at h
  exact ⟨of_decide_eq_true (Bool.and_eq_true_iff.mp h).1, (Bool.and_eq_true_iff.mp h).2⟩
theorem isW_int {n l m : Int} (h : isW (.int n) l m = true) : l ≤ n ∧ n ≤ m := of_decide_eq_true h
theorem tak_good {S : MS} {δ : Dd} (h : takD S (ddD δ) = true) : GoodD δ ∧ rowOk S δ := by
  cases δ with
  | layer => exact ⟨trivial, trivial⟩
  | row l d k =>
    rw [show ddD (.row l d k) = .tuple (.str "row" :: [.int l, .int d, .int k]) from rfl, tak_some (ps := ["layer", "drawing", "hold"]) (by decide +kernel)] at h
    have h : (true && (fitD S "layer" (.int l) && (fitD S "drawing" (.int d) && (fitD S "hold" (.int k) && true)))) = true := h
    rw [fit_drawing, fit_hold, Bool.true_and, Bool.and_true] at h
    obtain ⟨h1, h2⟩ := Bool.and_eq_true_iff.mp h
    obtain ⟨h2, h3⟩ := Bool.and_eq_true_iff.mp h2
    exact ⟨⟨fit_l h1, isW_int h2, isW_int h3⟩, trivial⟩
  | draw r d =>
    rw [show ddD (.draw r d) = .tuple (.str "draw" :: [.int r, .int d]) from rfl, tak_some (ps := ["row", "drawing"]) (by decide +kernel)] at h
    have h : (true && (fitD S "row" (.int r) && (fitD S "drawing" (.int d) && true))) = true := h
    rw [fit_drawing, Bool.true_and, Bool.and_true] at h
    obtain ⟨h1, h2⟩ := Bool.and_eq_true_iff.mp h
    exact ⟨⟨(fit_r h1).1, isW_int h2⟩, (fit_r h1).2⟩
  | hold r d =>
    rw [show ddD (.hold r d) = .tuple (.str "hold" :: [.int r, .int d]) from rfl, tak_some (ps := ["row", "hold"]) (by decide +kernel)] at h
    have h : (true && (fitD S "row" (.int r) && (fitD S "hold" (.int d) && true))) = true := h
    rw [fit_hold, Bool.true_and, Bool.and_true] at h
    obtain ⟨h1, h2⟩ := Bool.and_eq_true_iff.mp h
    exact ⟨⟨(fit_r h1).1, isW_int h2⟩, (fit_r h1).2⟩
  | drop r =>
    rw [show ddD (.drop r) = .tuple (.str "drop" :: [.int r]) from rfl, tak_some (ps := ["row"]) (by decide +kernel)] at h
    have h : (true && (fitD S "row" (.int r) && true)) = true := h
    rw [Bool.true_and, Bool.and_true] at h
    exact fit_r h
  | round r =>
    rw [show ddD (.round r) = .tuple (.str "round" :: [.int r]) from rfl, tak_some (ps := ["row"]) (by decide +kernel)] at h
    have h : (true && (fitD S "row" (.int r) && true)) = true := h
    rw [Bool.true_and, Bool.and_true] at h
    exact fit_r h
  | straight l =>
    rw [show ddD (.straight l) = .tuple (.str "straight" :: [.int l]) from rfl, tak_some (ps := ["layer"]) (by decide +kernel)] at h
    have h : (true && (fitD S "layer" (.int l) && true)) = true := h
    rw [Bool.true_and, Bool.and_true] at h
    exact ⟨fit_l h, trivial⟩
  | move x y m =>
    rw [show ddD (.move x y m) = .tuple (.str "move" :: [.int x, .int y, .int m]) from rfl, tak_some (ps := ["way", "way", "many"]) (by decide +kernel)] at h
    have h : (true && (fitD S "way" (.int x) && (fitD S "way" (.int y) && (fitD S "many" (.int m) && true)))) = true := h
    rw [fit_way, fit_way, fit_many, Bool.true_and, Bool.and_true] at h
    obtain ⟨h1, h2⟩ := Bool.and_eq_true_iff.mp h
    obtain ⟨h2, h3⟩ := Bool.and_eq_true_iff.mp h2
    exact ⟨⟨isW_int h1, isW_int h2, isW_int h3⟩, trivial⟩
/-! ### the sheet of right deeds is one -/
def MS.ok (S : MS) : Prop := (∀ r ∈ S.rows, VRow (r.2.2.1, r.2.2.2)) ∧ ∀ m ∈ S.moves, VMove m
theorem put_all {α : Type} {p : α → Prop} {l : List (Int × α)} {k : Int} {v : α} (h : ∀ r ∈ l, p r.2) (hv : p v) : ∀ r ∈ asPut l k v, p r.2 := by
  intro r hr
  unfold asPut at hr
  split at hr
  · obtain ⟨x, hx, rfl⟩ := List.mem_map.mp hr
    split
    · exact hv
    · exact h x hx
  · rcases List.mem_append.mp hr with hr | hr
    · exact h r hr
    · rw [List.mem_singleton.mp hr]
      exact hv
theorem fol_okS {S : MS} {n : Int} {δ : Dd} (h : S.ok) (g : GoodD δ) : (fol S n δ).ok := by
  obtain ⟨h1, h2⟩ := h
  have get : ∀ {r : Int} {x : T3}, asV S.rows r = some x → VRow (x.2.1, x.2.2) := fun {r x} e => by
    unfold asV at e
    cases hf : S.rows.find? (fun kv => decide (kv.1 = r)) with
    | none => rw [hf] at e; cases e
    | some y =>
      rw [hf] at e
      have := h1 y (List.mem_of_find?_eq_some hf)
      rw [← Option.some.inj e]
      exact this
  cases δ with
  | layer => exact ⟨h1, h2⟩
  | row l d k => exact ⟨put_all (p := fun x : T3 => VRow (x.2.1, x.2.2)) h1 ⟨g.2.1.1, g.2.1.2, g.2.2.1, g.2.2.2⟩, h2⟩
  | draw r d =>
    cases e : asV S.rows r with
    | none =>
      rw [show fol S n (.draw r d) = S by show (match asV S.rows r with | some x => _ | none => S) = S; rw [e]]
      exact ⟨h1, h2⟩
    | some x =>
      rw [fol_draw e]
      obtain ⟨a, b, c, d'⟩ := get e
      exact ⟨put_all (p := fun x : T3 => VRow (x.2.1, x.2.2)) h1 ⟨g.2.1, g.2.2, c, d'⟩, h2⟩
  | hold r d =>
    cases e : asV S.rows r with
    | none =>
      rw [show fol S n (.hold r d) = S by show (match asV S.rows r with | some x => _ | none => S) = S; rw [e]]
      exact ⟨h1, h2⟩
    | some x =>
      rw [fol_hold e]
      obtain ⟨a, b, c, d'⟩ := get e
      exact ⟨put_all (p := fun x : T3 => VRow (x.2.1, x.2.2)) h1 ⟨a, b, g.2.1, g.2.2⟩, h2⟩
  | drop r => exact ⟨fun x hx => h1 x (List.mem_filter.mp hx).1, h2⟩
  | round r =>
    cases e : asV S.rows r with
    | none =>
      rw [show fol S n (.round r) = S by show (match asV S.rows r with | some x => _ | none => S) = S; rw [e]]
      exact ⟨h1, h2⟩
    | some x =>
      rw [fol_round e]
      exact ⟨h1, h2⟩
  | straight l => exact ⟨h1, h2⟩
  | move x y m =>
    refine ⟨h1, fun z hz => ?_⟩
    rcases List.mem_append.mp hz with hz | hz
    · exact h2 z hz
    · rw [List.mem_singleton.mp hz]
      exact ⟨g.1, g.2.1, g.2.2.1, g.2.2.2⟩
theorem mk_okS : ∀ (ds : List (Int × Dd)) (S : MS), S.ok → (∀ x ∈ ds, GoodD x.2) → (ds.foldl (fun S x => fol S x.1 x.2) S).ok
  | [], _, h, _ => h
  | x :: ds, _, h, g => mk_okS ds _ (fol_okS h (g x List.mem_cons_self)) fun y hy => g y (List.mem_cons_of_mem _ hy)
theorem roomL_le {S : MS} : ∀ {ls : List Int}, roomL S ls = none → ∀ l ∈ ls, (rowsIn S l).length ≤ 8
  | [], _, l, h => by cases h
  | a :: ls, h, l, hl => by
    have h : (if 8 < (rowsIn S a).length then some (((rowsIn S a).length : Int), (8 : Int)) else roomL S ls) = none := h
    split at h
    · cases h
    · rename_i ha
      rcases List.mem_cons.mp hl with rfl | hl
      · omega
      · exact roomL_le h l hl
theorem room_le {S : MS} (h : roomS S = none) : S.layers.length ≤ 4 ∧ (∀ l ∈ S.layers, (rowsIn S l).length ≤ 8) ∧ S.moves.length ≤ 8 := by
  unfold roomS at h
  split at h
  · cases h
  · rename_i h4
    cases e : roomL S S.layers with
    | some x => rw [e] at h; cases h
    | none =>
      rw [e] at h
      have h : (if 8 < S.moves.length then some ((S.moves.length : Int), (8 : Int)) else none) = none := h
      split at h
      · cases h
      · rename_i h8
        exact ⟨by omega, roomL_le e, by omega⟩
theorem roll_valid {ds : List (Int × Dd)} (gd : ∀ x ∈ ds, GoodD x.2) (rm : roomS (mkS ds) = none) (ne : (mkS ds).layers ≠ []) : VLays (sheetS (mkS ds)) ∧ VWin 0 0 (mkS ds).moves := by
  obtain ⟨o1, o2⟩ := mk_okS ds MS.nil ⟨(fun r hr => by cases hr), (fun m hm => by cases hm)⟩ gd
  obtain ⟨r1, r2, r3⟩ := room_le rm
  refine ⟨⟨?_, ?_, fun l hl => ?_⟩, by decide, by decide, r3, o2⟩
  · show 1 ≤ ((mkS ds).layers.map _).length
    rw [List.length_map]
    exact List.length_pos_iff.mpr ne
  · show ((mkS ds).layers.map _).length ≤ 4
    rw [List.length_map]
    exact r1
  · obtain ⟨n, hn, rfl⟩ := List.mem_map.mp hl
    have lr : (rowsOf (mkS ds) n).length = (rowsIn (mkS ds) n).length := by
      unfold rowsOf rowsIn
      rw [List.length_map, List.length_map]
    refine ⟨⟨?_, fun r hr => ?_⟩, fun i hi => ?_⟩
    · show (rowsOf (mkS ds) n).length ≤ 8
      rw [lr]
      exact r2 n hn
    · obtain ⟨x, hx, rfl⟩ := List.mem_map.mp hr
      exact o1 x (List.mem_filter.mp hx).1
    · have hi : backI (mkS ds) n = some i := hi
      show 0 ≤ i ∧ i < ((rowsOf (mkS ds) n).length : Int)
      rw [lr]
      unfold backI at hi
      split at hi
      · cases hi
      · rename_i b _
        split at hi
        · rename_i hb
          cases hi
          have := List.idxOf_lt_length_iff.mpr hb
          omega
        · cases hi
structure DkI (ds : List (Int × Dd)) (n : Int) (N : Nat) : Prop where
  J : DsI ds n N
  nN : n ≤ (N : Int)
  gd : ∀ x ∈ ds, GoodD x.2
  rm : roomS (mkS ds) = none
theorem DkI.put {ds : List (Int × Dd)} {n : Int} {N : Nat} (h : DkI ds n N) {δ : Dd} (ht : takD (mkS ds) (ddD δ) = true) (hr : roomS (fol (mkS ds) n δ) = none) : DkI (ds ++ [(n, δ)]) (n + 1) (N + 1) := by
  obtain ⟨g, ok⟩ := tak_good ht
  have L := lnk h.J.wf h.J.nd
  rw [tak_fits L g] at ht
  rw [← mkS_snoc] at hr
  have J := h.J.put δ
  rw [show putS ds n δ = ds ++ [(n, δ)] from if_pos ⟨ht, hr⟩, show putN ds n δ = n + 1 from if_pos ⟨ht, hr⟩] at J
  refine ⟨J, by have := h.nN; omega, fun x hx => ?_, hr⟩
  rcases List.mem_append.mp hx with hx | hx
  · exact h.gd x hx
  · rw [List.mem_singleton.mp hx]
    exact g
theorem DkI.und {ds : List (Int × Dd)} {n : Int} {N : Nat} (h : DkI ds n N) {k : Int} (hl : leanL ds k = []) (hr : roomS (mkS (asDrop ds k)) = none) : DkI (asDrop ds k) n N :=
  ⟨⟨wf_drop h.J.wf h.J.nd hl, drop_nodup h.J.nd, fun x hx => h.J.pos x (List.mem_filter.mp hx).1, fun x hx => h.J.lt x (List.mem_filter.mp hx).1, h.J.n0, Nat.le_trans asDrop_len h.J.len⟩, h.nN, fun x hx => h.gd x (List.mem_filter.mp hx).1, hr⟩
/-! ### small numbers -/
theorem lo_small {t b : Int} (hb : 1 ≤ b ∧ b ≤ 24) (ht : t.natAbs ≤ 100000) : (lo t b).1.natAbs ≤ 100000 ∧ (lo t b).2.natAbs ≤ 24 := by
  unfold lo
  refine ⟨?_, ?_⟩
  · show (t / _).natAbs ≤ _
    exact Nat.le_trans (Int.natAbs_ediv_le_natAbs _ _) ht
  · show (b / _).natAbs ≤ _
    have := Int.natAbs_ediv_le_natAbs b ((Nat.gcd t.natAbs b.natAbs : Nat) : Int)
    omega
theorem mul_abs {a b : Int} {m n : Nat} (ha : a.natAbs ≤ m) (hb : b.natAbs ≤ n) : (a * b).natAbs ≤ m * n := by
  rw [Int.natAbs_mul]
  exact Nat.mul_le_mul ha hb
theorem plc_small : ∀ (ms : List MV) (x y t : Int), (-20 ≤ x ∧ x ≤ 20) → (-20 ≤ y ∧ y ≤ 20) → 0 ≤ t → (∀ m ∈ ms, VMove m) → ((plc x y ms t).1.1.natAbs ≤ 100000 ∧ (plc x y ms t).1.2.natAbs ≤ 24) ∧ ((plc x y ms t).2.1.natAbs ≤ 100000 ∧ (plc x y ms t).2.2.natAbs ≤ 24)
  | [], x, y, t, hx, hy, _, _ => by
    rw [plc_nil]
    show (x.natAbs ≤ 100000 ∧ (1 : Int).natAbs ≤ 24) ∧ (y.natAbs ≤ 100000 ∧ (1 : Int).natAbs ≤ 24)
    omega
  | m :: r, x, y, t, hx, hy, ht, h => by
    have hm := h m List.mem_cons_self
    obtain ⟨m1, m2, m3, m4⟩ := hm
    rw [plc_cons]
    split
    · rename_i hlt
      have one : ∀ (s g : Int), (-20 ≤ s ∧ s ≤ 20) → (-20 ≤ g ∧ g ≤ 20) → (s * m.2.2 + (g - s) * (t + 1)).natAbs ≤ 100000 := fun s g hs hg => by
        have h1 := mul_abs (a := s) (b := m.2.2) (m := 20) (n := 24) (by omega) (by omega)
        have h2 := mul_abs (a := g - s) (b := t + 1) (m := 40) (n := 24) (by omega) (by omega)
        have := Int.natAbs_add_le (s * m.2.2) ((g - s) * (t + 1))
        omega
      exact ⟨lo_small ⟨by omega, m4⟩ (one x m.1 hx m1), lo_small ⟨by omega, m4⟩ (one y m.2.1 hy m2)⟩
    · exact plc_small r m.1 m.2.1 (t - m.2.2) m1 m2 (by omega) fun z hz => h z (List.mem_cons_of_mem _ hz)

/-! ### what a text writes, by the program and by the law -/
def tupD (b z : Str) : PyData := .tuple ((Txt.split z b).map numD)
def winInD (z : Str) : PyData := match Txt.split z " " with
  | w0 :: w1 :: w2 :: ws => if w0 = "window" then .tuple [numD w1, numD w2, .tuple (ws.map (tupD ","))] else .none
  | _ => .none
def layInD (z : Str) : PyData := match Txt.split z " " with
  | w0 :: w1 :: ws => if w0 = "layer" then .tuple [.tuple (ws.map (tupD "x")), if w1 = "-" then .none else numD w1] else .none
  | _ => .none
def linD (ps : List Str) : PyData := match ps with
  | l0 :: ls => .tuple [.tuple (ls.map layInD), winInD l0]
  | [] => .none
def shInD (z : Str) : PyData := if Txt.endswith z "\n" = true then linD (Txt.split (cutS z none (some (-1))) "\n") else .none
def inB (n : Int) (b : RW) : Bool := decide (b.1 ≤ n ∧ n ≤ b.2)
def lnums (b : Str) (bs : List RW) (z : Str) : Option (List Int) := if ((Txt.split z b).length = bs.length ∧ ((((Txt.split z b).map lnum).zip bs).all fun p => inB p.1 p.2) = true) then some ((Txt.split z b).map lnum) else none
abbrev RB : List RW := [(0, 9), (1, 24)]
abbrev MB : List RW := [(-20, 20), (-20, 20), (0, 24)]
def rowW (z : Str) : RW := match lnums "x" RB z with
  | some [a, b] => (a, b)
  | _ => (0, 0)
def movW (z : Str) : MV := match lnums "," MB z with
  | some [a, b, c] => (a, b, c)
  | _ => (0, 0, 0)
theorem split1 {z : Str} {b : Str} : Txt.split z b ≠ [] := fun e => by
  have := split_pos z b
  rw [e] at this
  exact absurd this (by decide)
theorem row_rel (z : Str) : (∃ r : RW, isRowD (tupD "x" z) = true ∧ lnums "x" RB z = some [r.1, r.2] ∧ rowW z = r ∧ tupD "x" z = rwD r ∧ VRow r) ∨ (isRowD (tupD "x" z) = false ∧ lnums "x" RB z = none) := by
  unfold tupD rowW lnums
  generalize Txt.split z "x" = ps
  match ps with
  | [] => exact .inr ⟨rfl, rfl⟩
  | [_] => exact .inr ⟨rfl, rfl⟩
  | [a, b] =>
    have e : isRowD (.tuple ([a, b].map numD)) = (decide (0 ≤ lnum a ∧ lnum a ≤ 9) && decide (1 ≤ lnum b ∧ lnum b ≤ 24)) := by
      show (isW (numD a) 0 9 && isW (numD b) 1 24) = _
      rw [numW a (by decide) (by decide), numW b (by decide) (by decide)]
    have f : ((([a, b].map lnum).zip RB).all fun p => inB p.1 p.2) = (decide (0 ≤ lnum a ∧ lnum a ≤ 9) && (decide (1 ≤ lnum b ∧ lnum b ≤ 24) && true)) := rfl
    rw [Bool.and_true] at f
    by_cases h : (0 ≤ lnum a ∧ lnum a ≤ 9) ∧ (1 ≤ lnum b ∧ lnum b ≤ 24)
    · have t : (decide (0 ≤ lnum a ∧ lnum a ≤ 9) && decide (1 ≤ lnum b ∧ lnum b ≤ 24)) = true := by rw [decide_eq_true h.1, decide_eq_true h.2]; rfl
      rw [t] at e f
      refine .inl ⟨(lnum a, lnum b), e, if_pos ⟨rfl, f⟩, ?_, ?_, ⟨h.1.1, h.1.2, h.2.1, h.2.2⟩⟩
      · rw [if_pos ⟨rfl, f⟩]
        rfl
      · show PyData.tuple [numD a, numD b] = _
        rw [numI a (by decide) (by decide) h.1, numI b (by decide) (by decide) h.2]
        rfl
    · have t : (decide (0 ≤ lnum a ∧ lnum a ≤ 9) && decide (1 ≤ lnum b ∧ lnum b ≤ 24)) = false := by
        rw [Bool.and_eq_false_iff]
        by_cases h1 : 0 ≤ lnum a ∧ lnum a ≤ 9
        · exact .inr (decide_eq_false fun h2 => h ⟨h1, h2⟩)
        · exact .inl (decide_eq_false h1)
      rw [t] at e f
      exact .inr ⟨e, if_neg fun z => by rw [f] at z; cases z.2⟩
  | _ :: _ :: _ :: _ => exact .inr ⟨rfl, if_neg fun z => by simp at z⟩
theorem mov_rel (z : Str) : (∃ r : MV, isMoveD (tupD "," z) = true ∧ lnums "," MB z = some [r.1, r.2.1, r.2.2] ∧ movW z = r ∧ tupD "," z = mvD r ∧ VMove r) ∨ (isMoveD (tupD "," z) = false ∧ lnums "," MB z = none) := by
  unfold tupD movW lnums
  generalize Txt.split z "," = ps
  match ps with
  | [] => exact .inr ⟨rfl, rfl⟩
  | [_] => exact .inr ⟨rfl, rfl⟩
  | [_, _] => exact .inr ⟨rfl, rfl⟩
  | [a, b, c] =>
    have e : isMoveD (.tuple ([a, b, c].map numD)) = ((decide (-20 ≤ lnum a ∧ lnum a ≤ 20) && decide (-20 ≤ lnum b ∧ lnum b ≤ 20)) && decide (0 ≤ lnum c ∧ lnum c ≤ 24)) := by
      show ((isW (numD a) (-20) 20 && isW (numD b) (-20) 20) && isW (numD c) 0 24) = _
      rw [numW a (by decide) (by decide), numW b (by decide) (by decide), numW c (by decide) (by decide)]
    have f : ((([a, b, c].map lnum).zip MB).all fun p => inB p.1 p.2) = (decide (-20 ≤ lnum a ∧ lnum a ≤ 20) && (decide (-20 ≤ lnum b ∧ lnum b ≤ 20) && (decide (0 ≤ lnum c ∧ lnum c ≤ 24) && true))) := rfl
    rw [Bool.and_true, ← Bool.and_assoc] at f
    by_cases h : (-20 ≤ lnum a ∧ lnum a ≤ 20) ∧ (-20 ≤ lnum b ∧ lnum b ≤ 20) ∧ (0 ≤ lnum c ∧ lnum c ≤ 24)
    · have t : ((decide (-20 ≤ lnum a ∧ lnum a ≤ 20) && decide (-20 ≤ lnum b ∧ lnum b ≤ 20)) && decide (0 ≤ lnum c ∧ lnum c ≤ 24)) = true := by rw [decide_eq_true h.1, decide_eq_true h.2.1, decide_eq_true h.2.2]; rfl
      rw [t] at e f
      refine .inl ⟨(lnum a, lnum b, lnum c), e, if_pos ⟨rfl, f⟩, ?_, ?_, ⟨h.1, h.2.1, h.2.2⟩⟩
      · rw [if_pos ⟨rfl, f⟩]
        rfl
      · show PyData.tuple [numD a, numD b, numD c] = _
        rw [numI a (by decide) (by decide) h.1, numI b (by decide) (by decide) h.2.1, numI c (by decide) (by decide) h.2.2]
        rfl
    · have t : ((decide (-20 ≤ lnum a ∧ lnum a ≤ 20) && decide (-20 ≤ lnum b ∧ lnum b ≤ 20)) && decide (0 ≤ lnum c ∧ lnum c ≤ 24)) = false := by
        cases e1 : ((decide (-20 ≤ lnum a ∧ lnum a ≤ 20) && decide (-20 ≤ lnum b ∧ lnum b ≤ 20)) && decide (0 ≤ lnum c ∧ lnum c ≤ 24)) with
        | false => rfl
        | true =>
          simp only [Bool.and_eq_true, decide_eq_true_eq] at e1
          exact absurd ⟨e1.1.1, e1.1.2, e1.2⟩ h
      rw [t] at e f
      exact .inr ⟨e, if_neg fun z => by rw [f] at z; cases z.2⟩
  | _ :: _ :: _ :: _ :: _ => exact .inr ⟨rfl, if_neg fun z => by simp at z⟩
def allR (ws : List Str) : Bool := ws.all fun w => (lnums "x" RB w).isSome
def allM (ws : List Str) : Bool := ws.all fun w => (lnums "," MB w).isSome
theorem rows_rel : ∀ ws : List Str, (ws.map (tupD "x")).all isRowD = allR ws ∧ (allR ws = true → ws.map (tupD "x") = (ws.map rowW).map rwD ∧ ∀ r ∈ ws.map rowW, VRow r)
  | [] => ⟨rfl, fun _ => ⟨rfl, fun r hr => nomatch hr⟩⟩
  | w :: ws => by
    have ih := rows_rel ws
    show (isRowD (tupD "x" w) && (ws.map (tupD "x")).all isRowD) = ((lnums "x" RB w).isSome && allR ws) ∧ (((lnums "x" RB w).isSome && allR ws) = true → tupD "x" w :: ws.map (tupD "x") = rwD (rowW w) :: (ws.map rowW).map rwD ∧ ∀ r ∈ rowW w :: ws.map rowW, VRow r)
    rcases row_rel w with ⟨r, e1, e2, e3, e4, vr⟩ | ⟨e1, e2⟩
    · rw [e1, e2, ih.1]
      refine ⟨rfl, fun h => ?_⟩
      have h' : allR ws = true := h
      obtain ⟨a, b⟩ := ih.2 h'
      refine ⟨by rw [e4, e3, a], fun r' hr' => ?_⟩
      rcases List.mem_cons.mp hr' with rfl | z
      · rw [e3]; exact vr
      · exact b r' z
    · rw [e1, e2]
      exact ⟨rfl, fun h => nomatch h⟩
theorem movs_rel : ∀ ws : List Str, (ws.map (tupD ",")).all isMoveD = allM ws ∧ (allM ws = true → ws.map (tupD ",") = (ws.map movW).map mvD ∧ ∀ r ∈ ws.map movW, VMove r)
  | [] => ⟨rfl, fun _ => ⟨rfl, fun r hr => nomatch hr⟩⟩
  | w :: ws => by
    have ih := movs_rel ws
    show (isMoveD (tupD "," w) && (ws.map (tupD ",")).all isMoveD) = ((lnums "," MB w).isSome && allM ws) ∧ (((lnums "," MB w).isSome && allM ws) = true → tupD "," w :: ws.map (tupD ",") = mvD (movW w) :: (ws.map movW).map mvD ∧ ∀ r ∈ movW w :: ws.map movW, VMove r)
    rcases mov_rel w with ⟨r, e1, e2, e3, e4, vr⟩ | ⟨e1, e2⟩
    · rw [e1, e2, ih.1]
      refine ⟨rfl, fun h => ?_⟩
      have h' : allM ws = true := h
      obtain ⟨a, b⟩ := ih.2 h'
      refine ⟨by rw [e4, e3, a], fun r' hr' => ?_⟩
      rcases List.mem_cons.mp hr' with rfl | z
      · rw [e3]; exact vr
      · exact b r' z
    · rw [e1, e2]
      exact ⟨rfl, fun h => nomatch h⟩
def bkW (w : Str) : Option Int := if w = "-" then none else some (lnum w)
def bkL (o : Option Int) (n : Nat) : Bool := match o with
  | none => true
  | some b => decide (0 ≤ b ∧ b < (n : Int))
def llayW (ws : List Str) : Option LY := match ws with
  | w0 :: w1 :: ws => if (w0 = "layer" ∧ ws.length ≤ 8) ∧ allR ws = true ∧ bkL (bkW w1) ws.length = true then some (ws.map rowW, bkW w1) else none
  | _ => none
def llay (z : Str) : Option LY := llayW (Txt.split z " ")
theorem lay_rel (z : Str) : (∃ l : LY, isLayD (layInD z) = true ∧ llay z = some l ∧ layInD z = lyD l ∧ VLy l) ∨ (isLayD (layInD z) = false ∧ llay z = none) := by
  unfold layInD llay llayW
  generalize Txt.split z " " = ps
  match ps with
  | [] => exact .inr ⟨rfl, rfl⟩
  | [_] => exact .inr ⟨rfl, rfl⟩
  | w0 :: w1 :: ws =>
    show (∃ l : LY, isLayD (if w0 = "layer" then PyData.tuple [.tuple (ws.map (tupD "x")), if w1 = "-" then .none else numD w1] else .none) = true ∧ (if (w0 = "layer" ∧ ws.length ≤ 8) ∧ allR ws = true ∧ bkL (bkW w1) ws.length = true then some (ws.map rowW, bkW w1) else none) = some l ∧ (if w0 = "layer" then PyData.tuple [.tuple (ws.map (tupD "x")), if w1 = "-" then .none else numD w1] else .none) = lyD l ∧ VLy l) ∨
      (isLayD (if w0 = "layer" then PyData.tuple [.tuple (ws.map (tupD "x")), if w1 = "-" then .none else numD w1] else .none) = false ∧ (if (w0 = "layer" ∧ ws.length ≤ 8) ∧ allR ws = true ∧ bkL (bkW w1) ws.length = true then some (ws.map rowW, bkW w1) else none) = none)
    by_cases h0 : w0 = "layer"
    · rw [if_pos h0]
      obtain ⟨ra, rb⟩ := rows_rel ws
      have eL : isLayD (PyData.tuple [.tuple (ws.map (tupD "x")), if w1 = "-" then .none else numD w1]) = (decide (ws.length ≤ 8) && allR ws && bkOk (if w1 = "-" then .none else numD w1) ((ws.length : Int) - 1)) := by
        show (decide ((ws.map (tupD "x")).length ≤ 8) && (ws.map (tupD "x")).all isRowD && bkOk (if w1 = "-" then .none else numD w1) (((ws.map (tupD "x")).length : Int) - 1)) = _
        rw [ra, List.length_map]
      by_cases h8 : ws.length ≤ 8
      · have eB : bkOk (if w1 = "-" then .none else numD w1) ((ws.length : Int) - 1) = bkL (bkW w1) ws.length := by
          unfold bkW
          by_cases h1 : w1 = "-"
          · rw [if_pos h1, if_pos h1]; rfl
          · rw [if_neg h1, if_neg h1]
            have e : bkOk (numD w1) ((ws.length : Int) - 1) = isW (numD w1) 0 ((ws.length : Int) - 1) := by
              unfold numD
              split <;> rfl
            rw [e, numW w1 (by decide) (by omega)]
            show _ = decide (0 ≤ lnum w1 ∧ lnum w1 < (ws.length : Int))
            congr 1
            rw [eq_iff_iff]
            constructor <;> (intro h; omega)
        rw [eB, decide_eq_true h8, Bool.true_and] at eL
        by_cases hg : allR ws = true ∧ bkL (bkW w1) ws.length = true
        · refine .inl ⟨_, by rw [eL, hg.1, hg.2]; rfl, if_pos ⟨⟨h0, h8⟩, hg⟩, ?_, ⟨⟨by rw [List.length_map]; exact h8, (rb hg.1).2⟩, ?_⟩⟩
          · rw [(rb hg.1).1]
            show PyData.tuple [.tuple ((ws.map rowW).map rwD), _] = .tuple [.tuple ((ws.map rowW).map rwD), bkD (bkW w1)]
            congr 3
            have hb := hg.2
            unfold bkW at hb ⊢
            by_cases h1 : w1 = "-"
            · rw [if_pos h1, if_pos h1]; rfl
            · rw [if_neg h1] at hb
              rw [if_neg h1, if_neg h1]
              have hb' := of_decide_eq_true hb
              exact numI w1 (l := 0) (h := 99) (by decide) (by decide) ⟨hb'.1, by omega⟩
          · intro i hi
            have hb := hg.2
            rw [show bkW w1 = some i from hi] at hb
            have hb' := of_decide_eq_true hb
            show 0 ≤ i ∧ i < ((ws.map rowW).length : Int)
            rw [List.length_map]
            exact hb'
        · refine .inr ⟨?_, if_neg fun z => hg z.2⟩
          rw [eL]
          cases e1 : allR ws with
          | false => rfl
          | true =>
            cases e2 : bkL (bkW w1) ws.length with
            | false => rfl
            | true => exact absurd ⟨e1, e2⟩ hg
      · refine .inr ⟨?_, if_neg fun z => h8 z.1.2⟩
        rw [eL, decide_eq_false h8]
        rfl
    · rw [if_neg h0]
      exact .inr ⟨rfl, if_neg fun z => h0 z.1.1⟩

def lwinW (ws : List Str) : Option (Int × Int × List MV) := match ws with
  | w0 :: w1 :: w2 :: ws => if (w0 = "window" ∧ ws.length ≤ 8) ∧ allM ws = true ∧ inB (lnum w1) (-20, 20) = true ∧ inB (lnum w2) (-20, 20) = true then some (lnum w1, lnum w2, ws.map movW) else none
  | _ => none
def lwin (z : Str) : Option (Int × Int × List MV) := lwinW (Txt.split z " ")
theorem win_rel (z : Str) : (∃ x y ms, isWinD (winInD z) = true ∧ lwin z = some (x, y, ms) ∧ winInD z = winD x y ms ∧ VWin x y ms) ∨ (isWinD (winInD z) = false ∧ lwin z = none) := by
  unfold winInD lwin lwinW
  generalize Txt.split z " " = ps
  match ps with
  | [] => exact .inr ⟨rfl, rfl⟩
  | [_] => exact .inr ⟨rfl, rfl⟩
  | [_, _] => exact .inr ⟨rfl, rfl⟩
  | w0 :: w1 :: w2 :: ws =>
    show (∃ x y ms, isWinD (if w0 = "window" then PyData.tuple [numD w1, numD w2, .tuple (ws.map (tupD ","))] else .none) = true ∧ (if (w0 = "window" ∧ ws.length ≤ 8) ∧ allM ws = true ∧ inB (lnum w1) (-20, 20) = true ∧ inB (lnum w2) (-20, 20) = true then some (lnum w1, lnum w2, ws.map movW) else none) = some (x, y, ms) ∧ (if w0 = "window" then PyData.tuple [numD w1, numD w2, .tuple (ws.map (tupD ","))] else .none) = winD x y ms ∧ VWin x y ms) ∨
      (isWinD (if w0 = "window" then PyData.tuple [numD w1, numD w2, .tuple (ws.map (tupD ","))] else .none) = false ∧ (if (w0 = "window" ∧ ws.length ≤ 8) ∧ allM ws = true ∧ inB (lnum w1) (-20, 20) = true ∧ inB (lnum w2) (-20, 20) = true then some (lnum w1, lnum w2, ws.map movW) else none) = none)
    by_cases h0 : w0 = "window"
    · rw [if_pos h0]
      obtain ⟨ra, rb⟩ := movs_rel ws
      have eL : isWinD (PyData.tuple [numD w1, numD w2, .tuple (ws.map (tupD ","))]) = ((inB (lnum w1) (-20, 20) && inB (lnum w2) (-20, 20)) && decide (ws.length ≤ 8) && allM ws) := by
        show ((isW (numD w1) (-20) 20 && isW (numD w2) (-20) 20) && decide ((ws.map (tupD ",")).length ≤ 8) && (ws.map (tupD ",")).all isMoveD) = _
        rw [ra, List.length_map, numW w1 (by decide) (by decide), numW w2 (by decide) (by decide)]
        rfl
      by_cases hg : ws.length ≤ 8 ∧ allM ws = true ∧ inB (lnum w1) (-20, 20) = true ∧ inB (lnum w2) (-20, 20) = true
      · obtain ⟨h8, ha, b1, b2⟩ := hg
        have c1 := of_decide_eq_true b1
        have c2 := of_decide_eq_true b2
        refine .inl ⟨_, _, _, by rw [eL, b1, b2, ha, decide_eq_true h8]; rfl, if_pos ⟨⟨h0, h8⟩, ha, b1, b2⟩, ?_, ⟨c1, c2, by rw [List.length_map]; exact h8, (rb ha).2⟩⟩
        rw [(rb ha).1, numI w1 (by decide) (by decide) c1, numI w2 (by decide) (by decide) c2]
        rfl
      · refine .inr ⟨?_, if_neg fun z => hg ⟨z.1.2, z.2⟩⟩
        rw [eL]
        cases e : ((inB (lnum w1) (-20, 20) && inB (lnum w2) (-20, 20)) && decide (ws.length ≤ 8) && allM ws) with
        | false => rfl
        | true =>
          simp only [Bool.and_eq_true, decide_eq_true_eq] at e
          exact absurd ⟨e.1.2, e.2, e.1.1.1, e.1.1.2⟩ hg
    · rw [if_neg h0]
      exact .inr ⟨rfl, if_neg fun z => h0 z.1.1⟩
def layWW (z : Str) : LY := (llay z).getD ([], none)
def allL (zs : List Str) : Bool := zs.all fun z => (llay z).isSome
theorem lays_rel : ∀ ws : List Str, (ws.map layInD).all isLayD = allL ws ∧ (allL ws = true → ws.map layInD = (ws.map layWW).map lyD ∧ ∀ r ∈ ws.map layWW, VLy r)
  | [] => ⟨rfl, fun _ => ⟨rfl, fun r hr => nomatch hr⟩⟩
  | w :: ws => by
    have ih := lays_rel ws
    show (isLayD (layInD w) && (ws.map layInD).all isLayD) = ((llay w).isSome && allL ws) ∧ (((llay w).isSome && allL ws) = true → layInD w :: ws.map layInD = lyD (layWW w) :: (ws.map layWW).map lyD ∧ ∀ r ∈ layWW w :: ws.map layWW, VLy r)
    rcases lay_rel w with ⟨r, e1, e2, e4, vr⟩ | ⟨e1, e2⟩
    · have e3 : layWW w = r := by unfold layWW; rw [e2]; rfl
      rw [e1, e2, ih.1]
      refine ⟨rfl, fun h => ?_⟩
      have h' : allL ws = true := h
      obtain ⟨a, b⟩ := ih.2 h'
      refine ⟨by rw [e4, e3, a], fun r' hr' => ?_⟩
      rcases List.mem_cons.mp hr' with rfl | z
      · rw [e3]; exact vr
      · exact b r' z
    · rw [e1, e2]
      exact ⟨rfl, fun h => nomatch h⟩
abbrev SH4 := List LY × Int × Int × List MV
def lreadL (ls : List Str) : Option SH4 := match ls with
  | l0 :: rest => if (rest.getLast? = some ("" : Str) ∧ 2 ≤ rest.length ∧ rest.length ≤ 5) ∧ allL rest.dropLast = true then (lwin l0).map fun w => (rest.dropLast.map layWW, w) else none
  | [] => none
def lread (z : Str) : Option SH4 := lreadL (Txt.split z "\n")
theorem joinL_nl : ∀ {ps : List (List Nat)}, ps ≠ [] → TL.joinL [10] (ps ++ [[]]) = TL.joinL [10] ps ++ [10]
  | [], h => absurd rfl h
  | [p], _ => by simp [TL.joinL]
  | p :: q :: r, _ => by
    have ih := joinL_nl (ps := q :: r) (by simp)
    show p ++ ([10] ++ TL.joinL [10] ((q :: r) ++ [[]])) = (p ++ ([10] ++ TL.joinL [10] (q :: r))) ++ [10]
    rw [ih]
    simp
theorem tl_n : TL.tl ("\n" : Str) = [10] := by decide +kernel
theorem n_eq : ("\n" : Str) = ⟨#[10]⟩ := by decide +kernel
theorem join_nl {ps : List Str} (h : ps ≠ []) : Txt.join "\n" (ps ++ [("" : Str)]) = Txt.join "\n" ps ++ "\n" := by
  refine TL.ext_tl ?_
  rw [tl_txt, TL.tl_append, tl_txt, tl_n, List.map_append]
  have e : [("" : Str)].map TL.tl = [[]] := by decide +kernel
  rw [e]
  exact joinL_nl (by cases ps with | nil => exact absurd rfl h | cons a t => simp)
theorem join_split' (z : Str) : Txt.join "\n" (Txt.split z "\n") = z := by
  rw [TL.join_eq]
  exact PySem.StrLaws.join_split z "\n"
theorem split_nl (u : Str) : Txt.split (u ++ "\n") "\n" = Txt.split u "\n" ++ [("" : Str)] := by
  have e : u ++ "\n" = Txt.join "\n" (Txt.split u "\n" ++ [("" : Str)]) := by rw [join_nl split1, join_split']
  rw [e]
  refine TL.split_join (s := 10) (S := []) tl_n (by decide +kernel) (by simp) fun p hp => ?_
  rcases List.mem_append.mp hp with z | z
  · have := PySem.StrLaws.split_free u 10 p (by rw [← n_eq]; exact z)
    exact this
  · rw [List.mem_singleton.mp z]
    decide +kernel
theorem ends_ex {z : Str} (h : Txt.endswith z "\n" = true) : ∃ u, z = u ++ "\n" := by
  unfold Txt.endswith at h
  rw [Bool.and_eq_true, decide_eq_true_eq] at h
  obtain ⟨h1, h2⟩ := h
  rw [show ("\n" : Str).length = 1 by decide] at h1 h2
  have h3 := (PySem.StrLaws.subAt_one z 10 (z.length - 1)).mp ⟨by show z.length - 1 + 1 ≤ z.length; omega, by rw [← n_eq]; exact h2⟩
  have h4 : (TL.tl z)[(TL.tl z).length - 1]? = some 10 := by rw [← TL.len_tl]; exact h3
  have ne : TL.tl z ≠ [] := fun e => by rw [TL.len_tl, e] at h1; exact absurd h1 (by decide)
  refine ⟨⟨((TL.tl z).dropLast).toArray⟩, TL.ext_tl ?_⟩
  rw [TL.tl_append, tl_n]
  show TL.tl z = (TL.tl z).dropLast ++ [10]
  have hl := List.dropLast_concat_getLast ne
  rw [List.getElem?_eq_some_iff] at h4
  obtain ⟨h5, h6⟩ := h4
  rw [List.getLast_eq_getElem, h6] at hl
  exact hl.symm
theorem read_rel (z : Str) : (∃ ls x y ms, isShD (shInD z) = true ∧ lread z = some (ls, x, y, ms) ∧ shInD z = shD ls x y ms ∧ VLays ls ∧ VWin x y ms) ∨ (isShD (shInD z) = false ∧ lread z = none) := by
  unfold shInD
  by_cases h : Txt.endswith z "\n" = true
  · rw [if_pos h]
    obtain ⟨u, rfl⟩ := ends_ex h
    rw [cut_nl]
    unfold lread
    rw [split_nl]
    have hne : Txt.split u "\n" ≠ [] := split1
    match hs : Txt.split u "\n", hne with
    | l0 :: ls, _ =>
      show (∃ ls' x y ms, isShD (PyData.tuple [.tuple (ls.map layInD), winInD l0]) = true ∧ lreadL (l0 :: (ls ++ [("" : Str)])) = some (ls', x, y, ms) ∧ PyData.tuple [.tuple (ls.map layInD), winInD l0] = shD ls' x y ms ∧ VLays ls' ∧ VWin x y ms) ∨ (isShD (PyData.tuple [.tuple (ls.map layInD), winInD l0]) = false ∧ lreadL (l0 :: (ls ++ [("" : Str)])) = none)
      obtain ⟨ra, rb⟩ := lays_rel ls
      have eS : isShD (PyData.tuple [.tuple (ls.map layInD), winInD l0]) = (decide (1 ≤ ls.length ∧ ls.length ≤ 4) && allL ls && isWinD (winInD l0)) := by
        show (decide (1 ≤ (ls.map layInD).length ∧ (ls.map layInD).length ≤ 4) && (ls.map layInD).all isLayD && isWinD (winInD l0)) = _
        rw [ra, List.length_map]
      have eR : lreadL (l0 :: (ls ++ [("" : Str)])) = if (1 ≤ ls.length ∧ ls.length ≤ 4) ∧ allL ls = true then (lwin l0).map fun w => (ls.map layWW, w) else none := by
        show (if ((ls ++ [("" : Str)]).getLast? = some ("" : Str) ∧ 2 ≤ (ls ++ [("" : Str)]).length ∧ (ls ++ [("" : Str)]).length ≤ 5) ∧ allL (ls ++ [("" : Str)]).dropLast = true then (lwin l0).map fun w => ((ls ++ [("" : Str)]).dropLast.map layWW, w) else none) = _
        rw [List.dropLast_concat, List.length_append, List.getLast?_concat]
        have : (((some ("" : Str) = some ("" : Str)) ∧ 2 ≤ ls.length + [("" : Str)].length ∧ ls.length + [("" : Str)].length ≤ 5) ∧ allL ls = true) ↔ ((1 ≤ ls.length ∧ ls.length ≤ 4) ∧ allL ls = true) := by
          show ((_ ∧ 2 ≤ ls.length + 1 ∧ ls.length + 1 ≤ 5) ∧ _) ↔ _
          constructor
          · rintro ⟨⟨_, a, b⟩, c⟩
            exact ⟨⟨by omega, by omega⟩, c⟩
          · rintro ⟨⟨a, b⟩, c⟩
            exact ⟨⟨rfl, by omega, by omega⟩, c⟩
        by_cases c : (1 ≤ ls.length ∧ ls.length ≤ 4) ∧ allL ls = true
        · rw [if_pos c, if_pos (this.mpr c)]
        · rw [if_neg c, if_neg fun z => c (this.mp z)]
      rw [eS, eR]
      by_cases c : (1 ≤ ls.length ∧ ls.length ≤ 4) ∧ allL ls = true
      · rw [if_pos c, decide_eq_true c.1, c.2]
        rcases win_rel l0 with ⟨x, y, ms, e1, e2, e3, vw⟩ | ⟨e1, e2⟩
        · rw [e1, e2]
          refine .inl ⟨_, _, _, _, rfl, rfl, ?_, ⟨by rw [List.length_map]; exact c.1.1, by rw [List.length_map]; exact c.1.2, (rb c.2).2⟩, vw⟩
          rw [(rb c.2).1, e3]
          rfl
        · rw [e1, e2]
          exact .inr ⟨rfl, rfl⟩
      · rw [if_neg c]
        refine .inr ⟨?_, rfl⟩
        cases e : (decide (1 ≤ ls.length ∧ ls.length ≤ 4) && allL ls && isWinD (winInD l0)) with
        | false => rfl
        | true =>
          simp only [Bool.and_eq_true, decide_eq_true_eq] at e
          exact absurd ⟨e.1.1, e.1.2⟩ c
  · rw [if_neg h]
    refine .inr ⟨rfl, ?_⟩
    unfold lread
    have hj := join_split' z
    have hne : Txt.split z "\n" ≠ [] := split1
    match hs : Txt.split z "\n", hne with
    | l0 :: rest, _ =>
      refine if_neg fun c => h ?_
      obtain ⟨⟨c1, c2, c3⟩, _⟩ := c
      have nr : rest ≠ [] := fun e => by rw [e] at c2; exact absurd c2 (by decide)
      have e : rest = rest.dropLast ++ [("" : Str)] := by
        have := List.dropLast_concat_getLast nr
        rw [List.getLast?_eq_some_getLast nr] at c1
        rw [Option.some.inj c1] at this
        exact this.symm
      rw [hs, e, ← List.cons_append, join_nl (by simp)] at hj
      rw [← hj]
      exact ends_nl _
theorem pd_eq {α : Type} : ∀ {ts as : List α}, Paired (fun v d => v = d) ts as → ts = as
  | _, _, .nil => rfl
  | _, _, .cons h t => by rw [h, pd_eq t]
theorem list_str2 {v : V} {xs : List Str} {i : Nat} (h : (xs.map V.str)[i]? = some v) : ∃ z, xs[i]? = some z ∧ v = .str z := by
  rw [List.getElem?_map] at h
  cases e : xs[i]? with
  | none => rw [e] at h; cases h
  | some z => rw [e] at h; exact ⟨z, rfl, (Option.some.inj h).symm⟩
/-! ### signs that there are -/
def Uok (z : Str) : Prop := ∀ c ∈ TL.tl z, c < 1114112
theorem uok_app {a b : Str} (ha : Uok a) (hb : Uok b) : Uok (a ++ b) := fun c hc => by
  rw [TL.tl_append] at hc
  rcases List.mem_append.mp hc with h | h
  · exact ha c h
  · exact hb c h
theorem uok_cut {z : Str} (h : Uok z) (lo hi : Option Int) : Uok (cutS z lo hi) := fun c hc => by
  have hc' : c ∈ ((TL.tl z).drop (HT.sIx z.length 0 lo)).take (HT.sIx z.length z.length hi - HT.sIx z.length 0 lo) := hc
  exact h c (List.mem_of_mem_drop (List.mem_of_mem_take hc'))
theorem mem_joinL' {S : List Nat} {c : Nat} : ∀ {ps : List (List Nat)} {p : List Nat}, p ∈ ps → c ∈ p → c ∈ TL.joinL S ps
  | [], _, h, _ => nomatch h
  | [q], p, h, hc => by
    rw [List.mem_singleton.mp h] at hc
    exact hc
  | q :: r :: t, p, h, hc => by
    show c ∈ q ++ (S ++ TL.joinL S (r :: t))
    rcases List.mem_cons.mp h with rfl | h
    · exact List.mem_append_left _ hc
    · exact List.mem_append_right _ (List.mem_append_right _ (mem_joinL' h hc))
theorem uok_part {z b p : Str} (h : Uok z) (hp : p ∈ Txt.split z b) : Uok p := fun c hc => by
  have e := PySem.StrLaws.join_split z b
  rw [← TL.join_eq] at e
  refine h c ?_
  rw [← e, tl_txt]
  exact mem_joinL' (List.mem_map_of_mem hp) hc
theorem uok_join {b : Str} {ps : List Str} (hb : Uok b) (h : ∀ p ∈ ps, Uok p) : Uok (Txt.join b ps) := fun c hc => by
  rw [tl_txt] at hc
  rcases mem_joinL hc with y | ⟨p, hp, y⟩
  · exact hb c y
  · obtain ⟨q, hq, rfl⟩ := List.mem_map.mp hp
    exact h q hq c y
theorem uok_str {z : Str} (h : Uok z) : PyData.strOk z = true := by
  unfold PyData.strOk
  rw [← Array.all_toList, List.all_eq_true]
  intro c hc
  exact decide_eq_true (h c hc)
theorem uok_asc {z : Str} (h : ∀ c ∈ TL.tl z, c < 128) : Uok z := fun c hc => Nat.lt_trans (h c hc) (by decide)
theorem uok_figs {z : Str} (h : Uok z) : Uok (figs z) := fun c hc => by
  rcases figs_or z with ⟨e, _⟩ | ⟨e, _⟩
  · exact h c (by rw [e]; exact List.mem_cons_of_mem _ hc)
  · rw [e] at hc
    exact h c hc
/-- the signs that are no figures -/
def nofig (c : Nat) : Bool := !decide (c ∈ TL.tl ("0123456789" : Str))
theorem nofig_iff (c : Nat) : nofig c = false ↔ 48 ≤ c ∧ c ≤ 57 := by
  have e : TL.tl ("0123456789" : Str) = [48, 49, 50, 51, 52, 53, 54, 55, 56, 57] := by decide +kernel
  unfold nofig
  rw [e, Bool.not_eq_false', decide_eq_true_eq]
  simp only [List.mem_cons, List.not_mem_nil, or_false]
  omega
def sg (c : Nat) : Str := ⟨#[c]⟩
theorem filt_nil {cs : List Nat} : cs.filter nofig = [] ↔ NumText.AllDigits cs := by
  rw [List.filter_eq_nil_iff]
  constructor
  · intro h c hc
    have := h c hc
    exact (nofig_iff c).mp (by cases e : nofig c with | true => exact absurd e this | false => rfl)
  · intro h c hc
    rw [(nofig_iff c).mpr (h c hc)]
    decide

/-! ### the texts of numbers -/
theorem numL_head : ∀ n : Nat, 0 < n → (TL.numL n)[0]? ≠ some 48 := fun n => by
  induction n using Nat.strongRecOn with
  | _ n ih =>
    intro hn
    by_cases h : n < 10
    · rw [TL.numL_lt h]
      intro e
      have : 48 + n = 48 := Option.some.inj e
      omega
    · rw [TL.numL_step (by omega)]
      have h1 := ih (n / 10) (by omega) (by omega)
      have ne := TL.numL_ne (n / 10)
      cases e : TL.numL (n / 10) with
      | nil => exact absurd e ne
      | cons a r => rw [e] at h1; exact h1
theorem nT_nat {n : Nat} (h : n < 10 ^ 30) : wrN (nT n) = true ∧ iv (nT n) = (n : Int) ∧ 32 ∉ TL.tl (nT n) := by
  have e : TL.tl (nT n) = TL.numL n := TL.tl_num n
  have ns : Txt.startswith (nT n) "-" = false := by
    cases hs : Txt.startswith (nT n) "-" with
    | false => rfl
    | true =>
      have h0 := (st_iff _).mp hs
      rw [e] at h0
      have := TL.numL_digits n 45 (List.mem_of_getElem? h0)
      omega
  have ef : figs (nT n) = nT n := by
    unfold figs
    rw [if_neg (by rw [ns]; decide)]
  refine ⟨decide_eq_true ⟨⟨?_, ?_, ?_⟩, ?_⟩, ?_, ?_⟩
  · rw [ef, e]; exact TL.numL_ne n
  · rw [ef, e]; exact TL.numL_digits n
  · rcases Nat.eq_zero_or_pos n with rfl | hp
    · exact .inl (by decide +kernel)
    · exact .inr (by rw [ef, e]; exact numL_head n hp)
  · rw [ef, TL.len_tl, e]
    exact TL.numL_len (by decide) h
  · unfold iv
    rw [if_neg (by rw [ns]; decide), ef, e, TL.numL_val]
  · rw [e]
    exact TL.numL_free (.inl (by decide))
theorem nT_neg : ∀ k : Nat, k < 21 → wrN (nT (-(k : Int))) = true ∧ iv (nT (-(k : Int))) = -(k : Int) ∧ (TL.tl (nT (-(k : Int)))).all (fun c => c != 32) = true := by decide +kernel
theorem nT_ok {i : Int} (h : -20 ≤ i) (h2 : i ≤ 1000000000) : wrN (nT i) = true ∧ iv (nT i) = i ∧ 32 ∉ TL.tl (nT i) := by
  by_cases h0 : 0 ≤ i
  · obtain ⟨n, rfl⟩ := Int.eq_ofNat_of_zero_le h0
    exact nT_nat (Nat.lt_of_le_of_lt (show n ≤ 1000000000 by omega) (by decide))
  · obtain ⟨k, hk⟩ := Int.eq_ofNat_of_zero_le (show 0 ≤ -i by omega)
    have e : i = -(k : Int) := by omega
    rw [e]
    obtain ⟨a, b, c⟩ := nT_neg k (by omega)
    refine ⟨a, b, fun hm => ?_⟩
    have := List.all_eq_true.mp c 32 hm
    exact absurd this (by decide)
theorem nT_sm {i : Int} (h : Sm i) : wrN (nT i) = true ∧ iv (nT i) = i ∧ 32 ∉ TL.tl (nT i) := nT_ok h.1 (by have := h.2; omega)
theorem wr_no {z : Str} (h : ¬ (Txt.isascii (figs z) = true ∧ Txt.isdigit (figs z) = true)) : wrN z = false := decide_eq_false fun g => h ((ascdig _).mpr ⟨g.1.1, g.1.2.1⟩)
theorem str_lst (ws : List Str) (k : Nat) (z : Str) (h : ws[k]? = some z) : (ws.map V.str)[k]? = some (.str z) := by
  rw [List.getElem?_map, h]
  rfl
abbrev FX0 : Hp := fun _ => some (.lst [])
abbrev DT (K : PySem.W.Frag) (H : Hp) (v : V) (d : PyData) : Prop := Dg K FX0 H true v d
theorem DT.keep {K : PySem.W.Frag} {H H' : Hp} {v : V} {d : PyData} (t : TKeep K H H') (h : DT K H v d) : DT K H' v d := Dg.kp t (fun _ _ e => by cases e) h
theorem dt_all {K : PySem.W.Frag} {H : Hp} : ∀ {vs : List V} {ds : List PyData}, Paired (DT K H) vs ds → DgAll K FX0 H true vs ds
  | _, _, .nil => .nil
  | _, _, .cons h t => .cons h (dt_all t)
theorem num_dt {K : PySem.W.Frag} {H : Hp} (z : Str) : DT K H (numV z) (numD z) := by
  unfold numV numD
  split
  · exact .int _
  · exact .str _
theorem nums_dt {K : PySem.W.Frag} {H : Hp} : ∀ zs : List Str, DgAll K FX0 H true (zs.map numV) (zs.map numD)
  | [] => .nil
  | z :: zs => .cons (num_dt z) (nums_dt zs)
theorem split_len {z b : Str} (hz : z.length ≤ 8000) : (Txt.split z b).length ≤ 8002 := Nat.le_trans (split_le z b) (by omega)
theorem lcnewB_list {α : Type} {K : PySem.W.Frag} {a : Addr} {xs : List V} {g : TG} {tt : TT} {te : TE} {vs : List Nat} {σ : L2.St} {H1 : Hp} {D : Addr} {Qd : Hp → Prop} (At : Hp → V → α → Prop) (as : List α) (keep : ∀ {H H' : Hp} {v : V} {c : α}, TKeep K H H' → At H v c → At H' v c) (hl : as.length = xs.length) (hz : xs.length ≤ 10000) (hS : SqL K H1 a xs) (hD : H1 D = none)
    (hs : ∀ (i : Nat) (x : V) (c : α) (H : Hp) (R : V → Hp → Prop) (Z : Hp → Prop), xs[i]? = some x → as[i]? = some c → Same H1 H → (∀ y H4, Same H H4 → At H4 y c → R y H4) → g x (wipe σ vs) H fun σ2 H2 => wipe σ2 vs = wipe σ vs ∧ tt σ2 H2 fun b H3 => if b = true then te σ2 H3 R else Z H3)
    (hd : ∀ H ts, Same H1 H → H D = some (.lst ts) → Paired (At H) ts as → Qd H) :
    ∃ W : Nat → Nat → Hp → Prop, (∃ m, W 0 m (upd H1 D (.lst []))) ∧ ∀ i m H, W i m H →
      ((Itl K a).stop i H ∧ Qd H) ∨ ((Itl K a).go i H ∧ ∃ Nx : Hp → Prop, (∀ H', Nx H' → ∃ m', m' < m ∧ W (i + 1) m' H') ∧ ∀ x H', (Itl K a).yld i H x H' → g x (wipe σ vs) H' fun σ2 H2 => wipe σ2 vs = wipe σ vs ∧ tt σ2 H2 fun b H3 =>
        if b = true then te σ2 H3 fun y H4 => ∃ acc, H4 D = some (.lst acc) ∧ acc.length < sizeLine ∧ Nx (upd H4 D (.lst (acc ++ [y]))) else Nx H3) := by
  refine lc_list (K := K) (a := a) (xs := xs) (fun i H => Same H1 H ∧ ∃ ts, H D = some (.lst ts) ∧ ts.length = i ∧ Paired (At H) ts (as.take i)) ⟨same_upd hD, [], upd_same, rfl, .nil⟩ (fun i H _ p => p.1.seq hS) (fun i x H hx p => ?_) (fun H p => ?_)
  · have hi : i < xs.length := (List.getElem?_eq_some_iff.mp hx).1
    obtain ⟨c, hc⟩ : ∃ c, as[i]? = some c := ⟨_, List.getElem?_eq_getElem (by omega)⟩
    obtain ⟨s0, ts, eD, lt, pd⟩ := p
    refine hs i x c H _ _ hx hc s0 (fun y H4 s4 hy => ⟨ts, s4 _ _ eD, Nat.lt_of_le_of_lt (show ts.length ≤ 10000 by omega) (by decide), ?_, ts ++ [y], upd_same, by rw [List.length_append, lt]; rfl, ?_⟩)
    · intro b o e
      rw [upd_ne (ne_of_none e hD)]
      exact s4 _ _ (s0 _ _ e)
    · have k : TKeep K H4 (upd H4 D (.lst (ts ++ [y]))) := fun a zs h => tk_updL (s4 _ _ eD) _ _ h
      rw [List.take_add_one, hc]
      exact Paired.snocP (Paired.mono pd fun _ _ h => keep k (keep (Same.tk s4) h)) (keep k hy)
  · obtain ⟨s0, ts, eD, lt, pd⟩ := p
    refine hd H ts s0 eD ?_
    rw [List.take_of_length_le (by omega)] at pd
    exact pd
section
variable {P : Program} {w : World} {K : PySem.W.Frag} {mg : Str → Option Value} {base : Heap}
def sp_writes_number (K : PySem.W.Frag) : Sp := fun vs H Q _ => ∃ z : Str, vs = [.str z] ∧ z.length ≤ 8000 ∧ Q (.bl (wrN z)) H
theorem ok_writes_number {f : Addr} {fd : FuncData} (F : Fun K "writes_number" "writes_number" s_writes_number f fd) (T : Txt K mg) : FnOk P w K mg base CX0 1 f fd ["word"] (sp_writes_number K) := by
  refine F.ok sc_writes_number (fun vs H Q E h => ?_) (fun cdv A outer s H vs Q E hr h => ?_)
  · obtain ⟨z, rfl, _⟩ := h
    rfl
  · obtain ⟨z, rfl, hz, q⟩ := h
    have l3 : z.length ≤ sizeLine := Nat.le_trans hz (by decide)
    have f3 : (figs z).length ≤ sizeLine := Nat.le_trans (figs_len z) l3
    have qt : wrN z = true → Q (.bl true) H := fun e => by rw [e] at q; exact q
    have qf : wrN z = false → Q (.bl false) H := fun e => by rw [e] at q; exact q
    refine ⟨_, (C8.pss_cut (ps_set (i := 1) sc_writes_number.nd rfl (Or.inl rfl) (pe_ifExp (pt_val (pe_bm PySem.F.plainAttrs_str PySem.F.slot_str_startswith PySem.F.type_str_startswith mt_startswith (pv 0) (pa_cons pe_str pa_nil))) (pe_slice sl_str (pv 0) (po_some pe_int) po_none) (pv 0)))
      (pss_cons (ps_if (PW.pt (pw_or (pt_not (pt_val (pe_bm0 PySem.F.plainAttrs_str PySem.F.slot_str_isascii PySem.F.type_str_isascii mt_isascii (pv 1)))) (pw_or (pt_not (pt_val (pe_bm0 PySem.F.plainAttrs_str PySem.F.slot_str_isdigit PySem.F.type_str_isdigit mt_isdigit (pv 1)))) (pw_or1 (pt_cmpR op_gt (pe_callB call_len_str (by rfl) T.b_len (by decide +kernel) (pa_cons (pv 1) pa_nil)) (pe_gint (by rfl) T.c_MOST_FIGURES) (nomark _)))))) (pss_one (ps_ret pe_bl)) pss_nil)
      (pss_one (ps_ret (pe_or (pe_cmpR op_eq (pv 0) pe_str (nomark _)) (pe_one (pe_cmpR op_ne (pe_ix ix_str (pv 1) pe_int (fun _ _ => rfl)) pe_str (nomark _)))))))), ?_⟩
    refine ⟨fun σ' H' => σ' = [some (.str z), some (.str (figs z))] ∧ H' = H, ?_, ?_⟩
    · refine ⟨_, rfl, rfl, _, _, rfl, rfl, _, rfl, ite2 (fun e => ?_) (fun e => ?_)⟩
      · refine ⟨_, rfl, 1, rfl, _, rfl, l3, ?_, rfl⟩
        show _ = [some (V.str z), some (V.str (if Txt.startswith z "-" = true then cutS z (some 1) none else z))]
        rw [if_pos e]
        rfl
      · refine ⟨_, rfl, ?_, rfl⟩
        show _ = [some (V.str z), some (V.str (if Txt.startswith z "-" = true then cutS z (some 1) none else z))]
        rw [if_neg e]
        rfl
    rintro σ H1 ⟨rfl, rfl⟩
    refine ⟨_, rfl, rfl, _, rfl, rfl, trivial, _, rfl, ?_⟩
    cases ea : Txt.isascii (figs z) with
    | false => exact iteT (qf (wr_no fun g => by rw [ea] at g; cases g.1))
    | true =>
    refine iteF ?_
    refine ⟨_, rfl, rfl, _, rfl, rfl, trivial, _, rfl, ?_⟩
    cases ed : Txt.isdigit (figs z) with
    | false => exact iteT (qf (wr_no fun g => by rw [ed] at g; cases g.2))
    | true =>
    refine iteF ?_
    obtain ⟨ne, ad⟩ := (ascdig (figs z)).mp ⟨ea, ed⟩
    refine ⟨_, rfl, _, rfl, f3, _, _, rfl, rfl, _, rfl, ite2 (fun e => ?_) (fun e => ?_)⟩
    · have e' : ((figs z).length : Int) > 30 := of_decide_eq_true e
      exact qf (decide_eq_false fun g => by have := g.2; omega)
    have l30 : (figs z).length ≤ 30 := by
      have : ¬ ((figs z).length : Int) > 30 := fun h => e (decide_eq_true h)
      omega
    obtain ⟨c, r, ec⟩ : ∃ c r, TL.tl (figs z) = c :: r := by
      cases e1 : TL.tl (figs z) with
      | nil => exact absurd e1 ne
      | cons c r => exact ⟨c, r, rfl⟩
    refine ⟨_, rfl, rfl, _, rfl, ite2 (fun e => ?_) (fun e => ?_)⟩
    · have e' : V.str z = .str "0" := of_decide_eq_true e
      exact qt (decide_eq_true ⟨⟨ne, ad, .inl (V.str.inj e')⟩, l30⟩)
    · have nz : z ≠ "0" := fun h => e (decide_eq_true (by rw [h]))
      refine ⟨_, rfl, _, _, c, rfl, rfl, f3, (by show atI (TL.tl (figs z)) 0 = some c; rw [ec]; exact at0), rfl, ?_⟩
      have e0 : ("0" : Str) = ⟨#[48]⟩ := by decide +kernel
      by_cases h48 : c = 48
      · have hv : V.str ⟨#[c]⟩ = .str "0" := by rw [h48, e0]
        rw [decide_eq_true hv]
        refine qf (decide_eq_false fun g => ?_)
        rcases g.1.2.2 with y | y
        · exact nz y
        · exact y (by rw [ec, h48]; rfl)
      · have hv : ¬ V.str ⟨#[c]⟩ = .str "0" := fun h => by
          have := V.str.inj h
          rw [e0] at this
          injection this with this
          injection this with this
          injection this with this
          exact h48 this
        rw [decide_eq_false hv]
        refine qt (decide_eq_true ⟨⟨ne, ad, .inr fun y => ?_⟩, l30⟩)
        rw [ec] at y
        exact h48 (Option.some.inj y)
def sp_number_in (K : PySem.W.Frag) : Sp := fun vs H Q _ => ∃ i : Int, vs = [.str (nT i)] ∧ Sm i ∧ Q (.int i) H
theorem ok_number_in {f : Addr} {fd : FuncData} (F : Fun K "number_in" "number_in" s_number_in f fd) (T : Txt K mg) (D_writes_number : Cl P w K mg base 1 "writes_number" ["word"] (sp_writes_number K)) : FnOk P w K mg base CX0 2 f fd ["word"] (sp_number_in K) := by
  refine F.ok sc_number_in (fun vs H Q E h => ?_) (fun cdv A outer s H vs Q E hr h => ?_)
  · obtain ⟨i, rfl, _⟩ := h
    rfl
  · obtain ⟨i, rfl, hi, q⟩ := h
    refine ⟨_, (pss_one (ps_ret (pe_ifExp (pt_val (pe_own D_writes_number (hr.mono (by omega)) (by rfl) (pa_cons (pv 0) pa_nil))) (pe_callTy call_int_str (by rfl) T.b_int (by decide +kernel) (pa_cons (pv 0) pa_nil)) (pv 0)))), ?_⟩
    exact ⟨_, rfl, _, rfl, Nat.le_trans hi.f.len (by decide), _, rfl, by rw [(nT_sm hi).1]; exact iteT ⟨_, rfl, _, i, rfl, hi.f.int, Nat.le_trans hi.f.len (by decide), q⟩⟩
def sp_numbers_in (K : PySem.W.Frag) : Sp := fun vs H Q _ => ∃ (z b : Str) (ns : List Int), vs = [.str z, .str b] ∧ Txt.split z b = ns.map nT ∧ (∀ n ∈ ns, Sm n) ∧ z.length ≤ 1000 ∧ b.length = 1 ∧ ns.length ≤ 3 ∧ ∀ H' p, Same H H' → SqT K H' p (ns.map V.int) → Q (.ref p) H'
theorem ok_numbers_in {f : Addr} {fd : FuncData} (F : Fun K "numbers_in" "numbers_in" s_numbers_in f fd) (T : Txt K mg) (D_number_in : Cl P w K mg base 2 "number_in" ["word"] (sp_number_in K)) : FnOk P w K mg base CX0 3 f fd ["word", "between"] (sp_numbers_in K) := by
  refine F.ok sc_numbers_in (fun vs H Q E h => ?_) (fun cdv A outer s H vs Q E hr h => ?_)
  · obtain ⟨z, b, ns, rfl, _⟩ := h
    rfl
  · obtain ⟨z, b, ns, rfl, hsp, hn, hz, hb, hl, q⟩ := h
    refine ⟨_, (pss_one (ps_ret (pe_callTy call_tuple_of (by rfl) T.b_tuple (by decide +kernel) (pa_cons (pe_lc (own := [("part", 2)]) (g := (gName 2)) (tt := tYes) (by rfl) sc_numbers_in.nd (pi_list (pe_bm PySem.F.plainAttrs_str PySem.F.slot_str_split PySem.F.type_str_split mt_split (pv 0) (pa_cons (pv 1) pa_nil))) (blkOk_by (own := [("part", 2)]) (N := ["word", "between", "part"]) (sc := defScope s_numbers_in) (by decide +kernel)) (fun _ _ _ _ _ => (pg_name (i := 2) sc_numbers_in.nd rfl (Or.inl rfl))) (fun _ _ _ _ _ => pts_nil) (fun _ _ _ _ _ => (pe_own D_number_in (hr.mono (by omega)) (by rfl) (pa_cons (pv 2) pa_nil)))) pa_nil)))), ?_⟩
    refine ⟨_, rfl, rfl, _, rfl, _, _, rfl, rfl, by rw [hb]; rfl, Nat.le_trans (Nat.add_le_add_right hz 2) (by decide), fun p1 np1 => ?_⟩
    rw [hsp]
    obtain ⟨s1, e1⟩ := new_at (.lst ((ns.map nT).map V.str)) np1
    generalize upd H p1 (.lst ((ns.map nT).map V.str)) = H1 at s1 e1 ⊢
    refine ⟨p1, rfl, ⟨_, .inl (.inl e1)⟩, fun D hD => ?_⟩
    refine lcmap_list (ns.map V.int) (by simp) (by rw [List.length_map, List.length_map]; omega) (.inl (.inl e1)) hD (fun i x y H2 R Z hx hy s2 hR => ?_) (fun H2 s2 hL => ?_)
    · obtain ⟨x', hx', rfl⟩ := list_str2 hx
      obtain ⟨n, hn1, rfl⟩ : ∃ n, ns[i]? = some n ∧ x' = nT n := by
        rw [List.getElem?_map] at hx'
        cases e : ns[i]? with
        | none => rw [e] at hx'; cases hx'
        | some n => rw [e] at hx'; exact ⟨n, rfl, (Option.some.inj hx').symm⟩
      rw [List.getElem?_map, hn1] at hy
      cases hy
      exact ⟨rfl, yes_ok ⟨_, rfl, n, rfl, hn n (List.mem_of_getElem? hn1), hR _ (Same.refl _)⟩⟩
    · refine ⟨D, _, rfl, .inl ⟨.inl (.inl hL), fun l nl => ?_⟩⟩
      exact q _ l ((s1.trans s2).trans (same_upd nl)) (.inl (.inl upd_same))
end

section
variable {P : Program} {w : World} {K : PySem.W.Frag} {mg : Str → Option Value} {base : Heap}
def sp_move_text (K : PySem.W.Frag) : Sp := fun vs H Q _ => ∃ (v : V) (m : MV), vs = [v] ∧ MoveAt K H v m ∧ VMove m ∧ ∀ H', Same H H' → Q (.str (mvT m)) H'
theorem ok_move_text {f : Addr} {fd : FuncData} (F : Fun K "move_text" "move_text" s_move_text f fd) (T : Txt K mg) : FnOk P w K mg base CX0 1 f fd ["move"] (sp_move_text K) := by
  refine F.ok sc_move_text (fun vs H Q E h => ?_) (fun cdv A outer s H vs Q E hr h => ?_)
  · obtain ⟨v, m, rfl, _⟩ := h
    rfl
  · obtain ⟨v, ⟨m1, m2, m3⟩, rfl, ⟨p, rfl, hp⟩, vm, q⟩ := h
    obtain ⟨a1, a2, a3⟩ := vm_sm vm
    refine ⟨_, (pss_one (ps_ret (pe_bm PySem.F.plainAttrs_str PySem.F.slot_str_join PySem.F.type_str_join mt_join pe_str (pa_cons (pe_lc (own := [("number", 1)]) (g := (gName 1)) (tt := tYes) (by rfl) sc_move_text.nd (pi_tup (pv 0)) (blkOk_by (own := [("number", 1)]) (N := ["move", "number"]) (sc := defScope s_move_text) (by decide +kernel)) (fun _ _ _ _ _ => (pg_name (i := 1) sc_move_text.nd rfl (Or.inl rfl))) (fun _ _ _ _ _ => pts_nil) (fun _ _ _ _ _ => (pe_callTy call_str_int (by rfl) T.b_str (by decide +kernel) (pa_cons (pv 1) pa_nil)))) pa_nil)))), ?_⟩
    refine ⟨rfl, _, rfl, p, rfl, ⟨_, hp⟩, fun D hD => ?_⟩
    refine lcmap_tup (xs := [.int m1, .int m2, .int m3]) ([nT m1, nT m2, nT m3].map V.str) rfl (by show 3 ≤ 1000; decide) hp hD (fun i x y H2 R Z hx hy s2 hR => ?_) (fun H2 s2 hL => ?_)
    · obtain ⟨n, rfl, rfl, sn⟩ : ∃ n, x = .int n ∧ y = .str (nT n) ∧ Sm n := by
        match i, hx, hy with
        | 0, hx, hy => cases hx; cases hy; exact ⟨_, rfl, rfl, a1⟩
        | 1, hx, hy => cases hx; cases hy; exact ⟨_, rfl, rfl, a2⟩
        | 2, hx, hy => cases hx; cases hy; exact ⟨_, rfl, rfl, a3⟩
        | k + 3, hx, hy => cases hx
      exact ⟨rfl, yes_ok ⟨_, rfl, n, rfl, log_small sn, hR _ (Same.refl _)⟩⟩
    · refine ⟨_, D, _, rfl, rfl, .inl (.inl (.inl hL)), ?_, q _ s2⟩
      exact Nat.le_trans (join_bound (n := 3) (B := 3) (by decide) (fun p hp => (mv_parts vm p hp).1) (by show 3 ≤ 3; decide)) (by decide)
def sp_row_text (K : PySem.W.Frag) : Sp := fun vs H Q _ => ∃ (v : V) (r : RW), vs = [v] ∧ RowAt K H v r ∧ VRow r ∧ ∀ H', Same H H' → Q (.str (rwT r)) H'
theorem ok_row_text {f : Addr} {fd : FuncData} (F : Fun K "row_text" "row_text" s_row_text f fd) (T : Txt K mg) : FnOk P w K mg base CX0 1 f fd ["row"] (sp_row_text K) := by
  refine F.ok sc_row_text (fun vs H Q E h => ?_) (fun cdv A outer s H vs Q E hr h => ?_)
  · obtain ⟨v, m, rfl, _⟩ := h
    rfl
  · obtain ⟨v, ⟨m1, m2⟩, rfl, ⟨p, rfl, hp⟩, vm, q⟩ := h
    obtain ⟨a1, a2⟩ := vr_sm vm
    refine ⟨_, (pss_one (ps_ret (pe_bm PySem.F.plainAttrs_str PySem.F.slot_str_join PySem.F.type_str_join mt_join pe_str (pa_cons (pe_lc (own := [("number", 1)]) (g := (gName 1)) (tt := tYes) (by rfl) sc_row_text.nd (pi_tup (pv 0)) (blkOk_by (own := [("number", 1)]) (N := ["row", "number"]) (sc := defScope s_row_text) (by decide +kernel)) (fun _ _ _ _ _ => (pg_name (i := 1) sc_row_text.nd rfl (Or.inl rfl))) (fun _ _ _ _ _ => pts_nil) (fun _ _ _ _ _ => (pe_callTy call_str_int (by rfl) T.b_str (by decide +kernel) (pa_cons (pv 1) pa_nil)))) pa_nil)))), ?_⟩
    refine ⟨rfl, _, rfl, p, rfl, ⟨_, hp⟩, fun D hD => ?_⟩
    refine lcmap_tup (xs := [.int m1, .int m2]) ([nT m1, nT m2].map V.str) rfl (by show 2 ≤ 1000; decide) hp hD (fun i x y H2 R Z hx hy s2 hR => ?_) (fun H2 s2 hL => ?_)
    · obtain ⟨n, rfl, rfl, sn⟩ : ∃ n, x = .int n ∧ y = .str (nT n) ∧ Sm n := by
        match i, hx, hy with
        | 0, hx, hy => cases hx; cases hy; exact ⟨_, rfl, rfl, a1⟩
        | 1, hx, hy => cases hx; cases hy; exact ⟨_, rfl, rfl, a2⟩
        | k + 2, hx, hy => cases hx
      exact ⟨rfl, yes_ok ⟨_, rfl, n, rfl, log_small sn, hR _ (Same.refl _)⟩⟩
    · refine ⟨_, D, _, rfl, rfl, .inl (.inl (.inl hL)), ?_, q _ s2⟩
      exact Nat.le_trans (join_bound (n := 2) (B := 3) (by decide) (fun p hp => (rw_parts vm p hp).1) (by show 2 ≤ 2; decide)) (by decide)
def sp_window_text (K : PySem.W.Frag) : Sp := fun vs H Q _ => ∃ (v : V) (x y : Int) (ms : List MV), vs = [v] ∧ WinAt K H v x y ms ∧ VWin x y ms ∧ ∀ H', Same H H' → Q (.str (winT x y ms)) H'
theorem ok_window_text {f : Addr} {fd : FuncData} (F : Fun K "window_text" "window_text" s_window_text f fd) (T : Txt K mg) (D_move_text : Cl P w K mg base 1 "move_text" ["move"] (sp_move_text K)) : FnOk P w K mg base CX0 2 f fd ["window"] (sp_window_text K) := by
  refine F.ok sc_window_text (fun vs H Q E h => ?_) (fun cdv A outer s H vs Q E hr h => ?_)
  · obtain ⟨v, x, y, ms, rfl, _⟩ := h
    rfl
  · obtain ⟨v, x, y, ms, rfl, ⟨p, mv, rfl, hp, pm, us, rfl, hm, pd⟩, vw, q⟩ := h
    have lus := Paired.length pd
    have sx : Sm x := ⟨by have := vw.1; omega, by have := vw.1; omega⟩
    have sy : Sm y := ⟨by have := vw.2.1; omega, by have := vw.2.1; omega⟩
    have l8 := vw.2.2.1
    refine ⟨_, (pss_cons (ps_asg (pv 0) (pg_tup (by rfl) (pgs_cons (pg_name (i := 1) sc_window_text.nd rfl (Or.inl rfl)) (pgs_cons (pg_name (i := 2) sc_window_text.nd rfl (Or.inl rfl)) (pgs_cons (pg_name (i := 3) sc_window_text.nd rfl (Or.inl rfl)) pgs_nil)))))
      (pss_one (ps_ret (pe_bm PySem.F.plainAttrs_str PySem.F.slot_str_join PySem.F.type_str_join mt_join pe_str (pa_cons (pe_op op_cat (pe_lst (pa_cons pe_str (pa_cons (pe_callTy call_str_int (by rfl) T.b_str (by decide +kernel) (pa_cons (pv 1) pa_nil)) (pa_cons (pe_callTy call_str_int (by rfl) T.b_str (by decide +kernel) (pa_cons (pv 2) pa_nil)) pa_nil)))) (pe_lc (own := [("move", 4)]) (g := (gName 4)) (tt := tYes) (by rfl) sc_window_text.nd (pi_tup (pv 3)) (blkOk_by (own := [("move", 4)]) (N := ["window", "x", "y", "moves", "move"]) (sc := defScope s_window_text) (by decide +kernel)) (fun _ _ _ _ _ => (pg_name (i := 4) sc_window_text.nd rfl (Or.inl rfl))) (fun _ _ _ _ _ => pts_nil) (fun _ _ _ _ _ => (pe_own D_move_text (hr.mono (by omega)) (by rfl) (pa_cons (pv 4) pa_nil))))) pa_nil))))), ?_⟩
    refine ⟨_, rfl, p, _, rfl, hp, rfl, _, _, rfl, _, _, rfl, _, _, rfl, rfl, ?_⟩
    refine ⟨rfl, _, rfl, _, rfl, log_small sx, _, rfl, _, rfl, log_small sy, (by show 3 ≤ sizeLine; decide), fun p1 np1 => ?_⟩
    obtain ⟨s1, e1⟩ := new_at (.lst [.str "window", .str (Str.ofString (toString x)), .str (Str.ofString (toString y))]) np1
    generalize upd H p1 (.lst [.str "window", .str (Str.ofString (toString x)), .str (Str.ofString (toString y))]) = H1 at s1 e1 ⊢
    refine ⟨_, rfl, pm, rfl, ⟨_, Same.sqT s1 hm⟩, fun D hD => ?_⟩
    refine lcmap_tup (xs := us) ((ms.map mvT).map V.str) (by rw [List.length_map, List.length_map, lus]) (by omega) (Same.sqT s1 hm) hD (fun i u y H2 R Z hx hy s2 hR => ?_) (fun H2 s2 hL => ?_)
    · obtain ⟨m, hm1, hmv⟩ := Paired.at pd hx
      rw [List.getElem?_map, List.getElem?_map, hm1] at hy
      cases hy
      exact ⟨rfl, yes_ok ⟨_, rfl, u, m, rfl, hmv.keep (Same.tk (s1.trans s2)), vw.2.2.2 m (List.mem_of_getElem? hm1), hR⟩⟩
    · refine ⟨p1, D, _, _, rfl, rfl, s2 _ _ e1, hL, ?_, fun p3 np3 => ?_⟩
      · rw [List.length_map, List.length_map]
        exact Nat.le_of_lt (small1000 (by show 3 + ms.length ≤ 1000; omega))
      refine ⟨_, p3, winW x y ms, rfl, rfl, .inl (.inl (.inl ?_)), ?_, q _ ((s1.trans s2).trans (same_upd np3))⟩
      · rw [upd_same]
        unfold winW
        rw [List.map_append]
        rfl
      · exact Nat.le_trans (join_bound (n := 11) (B := 12) (by decide) (fun p hp => (winW_f vw p hp).1) (winW_len vw)) (by decide)
def sp_layer_text (K : PySem.W.Frag) : Sp := fun vs H Q _ => ∃ (v : V) (l : LY), vs = [v] ∧ LyAt K H v l ∧ VLy l ∧ ∀ H', Same H H' → Q (.str (layT l)) H'
theorem ok_layer_text {f : Addr} {fd : FuncData} (F : Fun K "layer_text" "layer_text" s_layer_text f fd) (T : Txt K mg) (D_row_text : Cl P w K mg base 1 "row_text" ["row"] (sp_row_text K)) : FnOk P w K mg base CX0 2 f fd ["layer"] (sp_layer_text K) := by
  refine F.ok sc_layer_text (fun vs H Q E h => ?_) (fun cdv A outer s H vs Q E hr h => ?_)
  · obtain ⟨v, l, rfl, _⟩ := h
    rfl
  · obtain ⟨v, ⟨rs, bk⟩, rfl, ⟨p, rv, rfl, hp, pr, us, rfl, hm, pd⟩, vl, q⟩ := h
    have lus : us.length = rs.length := Paired.length pd
    have l8 : rs.length ≤ 8 := vl.1.1
    refine ⟨_, (pss_cons (ps_asg (pv 0) (pg_tup (by rfl) (pgs_cons (pg_name (i := 1) sc_layer_text.nd rfl (Or.inl rfl)) (pgs_cons (pg_name (i := 2) sc_layer_text.nd rfl (Or.inl rfl)) pgs_nil))))
      (pss_one (ps_ret (pe_bm PySem.F.plainAttrs_str PySem.F.slot_str_join PySem.F.type_str_join mt_join pe_str (pa_cons (pe_op op_cat (pe_lst (pa_cons pe_str (pa_cons (pe_ifExp (pt_cmpR op_isN (pv 2) pe_non (nomark _)) pe_str (pe_callTy call_str_int (by rfl) T.b_str (by decide +kernel) (pa_cons (pv 2) pa_nil))) pa_nil))) (pe_lc (own := [("row", 3)]) (g := (gName 3)) (tt := tYes) (by rfl) sc_layer_text.nd (pi_tup (pv 1)) (blkOk_by (own := [("row", 3)]) (N := ["layer", "rows", "back", "row"]) (sc := defScope s_layer_text) (by decide +kernel)) (fun _ _ _ _ _ => (pg_name (i := 3) sc_layer_text.nd rfl (Or.inl rfl))) (fun _ _ _ _ _ => pts_nil) (fun _ _ _ _ _ => (pe_own D_row_text (hr.mono (by omega)) (by rfl) (pa_cons (pv 3) pa_nil))))) pa_nil))))), ?_⟩
    refine ⟨_, rfl, p, _, rfl, hp, rfl, _, _, rfl, _, _, rfl, rfl, ?_⟩
    refine ⟨rfl, _, rfl, rfl, _, rfl, ite2 (fun e => ?g1) (fun e => ?g2)⟩
    case' g1 =>
      obtain ⟨z, ez, hz⟩ : ∃ z : Str, z = "-" ∧ z = bkT bk := by
        cases bk with
        | none => exact ⟨_, rfl, rfl⟩
        | some b => cases e
      rw [← ez]
    case' g2 =>
      obtain ⟨b, rfl⟩ : ∃ b, bk = some b := by
        cases bk with
        | none => exact absurd rfl e
        | some b => exact ⟨b, rfl⟩
      refine ⟨_, rfl, b, rfl, log_small (vb_sm vl rfl), ?_⟩
      obtain ⟨z, ez, hz⟩ : ∃ z : Str, z = Str.ofString (toString b) ∧ z = bkT (some b) := ⟨_, rfl, rfl⟩
      rw [← ez]
    all_goals
      refine ⟨(by show 2 ≤ sizeLine; decide), fun p1 np1 => ?_⟩
      obtain ⟨s1, e1⟩ := new_at (.lst [.str "layer", .str z]) np1
      generalize upd H p1 (.lst [.str "layer", .str z]) = H1 at s1 e1 ⊢
      refine ⟨_, rfl, pr, rfl, ⟨_, Same.sqT s1 hm⟩, fun D hD => ?_⟩
      refine lcmap_tup (xs := us) ((rs.map rwT).map V.str) (by rw [List.length_map, List.length_map, lus]) (by omega) (Same.sqT s1 hm) hD (fun i u y H2 R Z hx hy s2 hR => ?_) (fun H2 s2 hL => ?_)
      · obtain ⟨m, hm1, hmv⟩ := Paired.at pd hx
        rw [List.getElem?_map, List.getElem?_map, hm1] at hy
        cases hy
        exact ⟨rfl, yes_ok ⟨_, rfl, u, m, rfl, hmv.keep (Same.tk (s1.trans s2)), vl.1.2 m (List.mem_of_getElem? hm1), hR⟩⟩
      · refine ⟨p1, D, _, _, rfl, rfl, s2 _ _ e1, hL, ?_, fun p3 np3 => ?_⟩
        · rw [List.length_map, List.length_map]
          exact Nat.le_of_lt (small1000 (by show 2 + rs.length ≤ 1000; omega))
        refine ⟨_, p3, layW (rs, _), rfl, rfl, .inl (.inl (.inl ?_)), ?_, q _ ((s1.trans s2).trans (same_upd np3))⟩
        · rw [upd_same]
          unfold layW
          rw [List.map_append, hz]
          rfl
        · exact Nat.le_trans (join_bound (n := 11) (B := 12) (by decide) (fun p hp => (layW_f vl p hp).1) (layW_len vl)) (by decide)
def sp_text_of (K : PySem.W.Frag) : Sp := fun vs H Q _ => ∃ (v : V) (ls : List LY) (x y : Int) (ms : List MV), vs = [v] ∧ ShAt K H v ls x y ms ∧ VLays ls ∧ VWin x y ms ∧ ∀ H', Same H H' → Q (.str (shT ls x y ms)) H'
theorem ok_text_of {f : Addr} {fd : FuncData} (F : Fun K "text_of" "text_of" s_text_of f fd) (T : Txt K mg) (D_window_text : Cl P w K mg base 2 "window_text" ["window"] (sp_window_text K)) (D_layer_text : Cl P w K mg base 2 "layer_text" ["layer"] (sp_layer_text K)) : FnOk P w K mg base CX0 3 f fd ["sheet"] (sp_text_of K) := by
  refine F.ok sc_text_of (fun vs H Q E h => ?_) (fun cdv A outer s H vs Q E hr h => ?_)
  · obtain ⟨v, ls, x, y, ms, rfl, _⟩ := h
    rfl
  · obtain ⟨v, ls, x, y, ms, rfl, ⟨p, lv, wv, rfl, hp, ⟨pl, us, rfl, hm, pd⟩, hw⟩, vL, vw, q⟩ := h
    have lus := Paired.length pd
    have l4 := vL.2.1
    refine ⟨_, (pss_cons (ps_asg (pv 0) (pg_tup (by rfl) (pgs_cons (pg_name (i := 1) sc_text_of.nd rfl (Or.inl rfl)) (pgs_cons (pg_name (i := 2) sc_text_of.nd rfl (Or.inl rfl)) pgs_nil))))
      (pss_cons (ps_set (i := 3) sc_text_of.nd rfl (Or.inl rfl) (pe_op op_cat (pe_lst (pa_cons (pe_own D_window_text (hr.mono (by omega)) (by rfl) (pa_cons (pv 2) pa_nil)) pa_nil)) (pe_lc (own := [("layer", 4)]) (g := (gName 4)) (tt := tYes) (by rfl) sc_text_of.nd (pi_tup (pv 1)) (blkOk_by (own := [("layer", 4)]) (N := ["sheet", "layers", "window", "lines", "layer", "line"]) (sc := defScope s_text_of) (by decide +kernel)) (fun _ _ _ _ _ => (pg_name (i := 4) sc_text_of.nd rfl (Or.inl rfl))) (fun _ _ _ _ _ => pts_nil) (fun _ _ _ _ _ => (pe_own D_layer_text (hr.mono (by omega)) (by rfl) (pa_cons (pv 4) pa_nil))))))
      (pss_one (ps_ret (pe_bm PySem.F.plainAttrs_str PySem.F.slot_str_join PySem.F.type_str_join mt_join pe_str (pa_cons (pe_lc (own := [("line", 5)]) (g := (gName 5)) (tt := tYes) (by rfl) sc_text_of.nd (pi_list (pv 3)) (blkOk_by (own := [("line", 5)]) (N := ["sheet", "layers", "window", "lines", "layer", "line"]) (sc := defScope s_text_of) (by decide +kernel)) (fun _ _ _ _ _ => (pg_name (i := 5) sc_text_of.nd rfl (Or.inl rfl))) (fun _ _ _ _ _ => pts_nil) (fun _ _ _ _ _ => (pe_op op_add_str (pv 5) pe_str))) pa_nil)))))), ?_⟩
    refine ⟨_, rfl, p, _, rfl, hp, rfl, _, _, rfl, _, _, rfl, rfl, ?_⟩
    refine ⟨_, rfl, wv, x, y, ms, rfl, hw, vw, fun H1 s1 => ⟨(by show 1 ≤ sizeLine; decide), fun p2 np2 => ?_⟩⟩
    obtain ⟨s2, e2⟩ := new_at (.lst [.str (winT x y ms)]) np2
    generalize upd H1 p2 (.lst [.str (winT x y ms)]) = H2 at s2 e2 ⊢
    have s12 := s1.trans s2
    refine ⟨_, rfl, pl, rfl, ⟨_, Same.sqT s12 hm⟩, fun D hD => ?_⟩
    refine lcmap_tup (xs := us) ((ls.map layT).map V.str) (by rw [List.length_map, List.length_map, lus]) (by omega) (Same.sqT s12 hm) hD (fun i u y H3 R Z hx hy s3 hR => ?_) (fun H3 s3 hL => ?_)
    · obtain ⟨l, hl1, hly⟩ := Paired.at pd hx
      rw [List.getElem?_map, List.getElem?_map, hl1] at hy
      cases hy
      exact ⟨rfl, yes_ok ⟨_, rfl, u, l, rfl, hly.keep (Same.tk (s12.trans s3)), vL.2.2 l (List.mem_of_getElem? hl1), hR⟩⟩
    · refine ⟨p2, D, _, _, rfl, rfl, s3 _ _ e2, hL, ?_, fun p4 np4 => ?_⟩
      · rw [List.length_map, List.length_map]
        exact Nat.le_of_lt (small1000 (by show 1 + ls.length ≤ 1000; omega))
      obtain ⟨s4, e4⟩ := new_at (.lst ([V.str (winT x y ms)] ++ (ls.map layT).map V.str)) np4
      generalize upd H3 p4 (.lst ([V.str (winT x y ms)] ++ (ls.map layT).map V.str)) = H4 at s4 e4 ⊢
      have e4' : H4 p4 = some (.lst ((linT ls x y ms).map V.str)) := by
        rw [e4]
        unfold linT
        rw [List.map_append]
        rfl
      have sA := (s12.trans s3).trans s4
      refine ⟨rfl, _, rfl, p4, rfl, ⟨_, .inl (.inl e4')⟩, fun D2 hD2 => ?_⟩
      have ll := linT_len (x := x) (y := y) (ms := ms) vL
      refine lcmap_list (((linT ls x y ms).map fun z : Str => z ++ "\n").map V.str) (by simp) (by rw [List.length_map]; omega) (.inl (.inl e4')) hD2 (fun i u y' H5 R Z hx hy s5 hR => ?_) (fun H5 s5 hL5 => ?_)
      · obtain ⟨z, hz1, rfl⟩ := list_str2 hx
        rw [List.getElem?_map, List.getElem?_map, hz1] at hy
        cases hy
        have lz := (linT_f vL vw z (List.mem_of_getElem? hz1)).1
        exact ⟨rfl, yes_ok ⟨_, rfl, _, _, rfl, rfl, Nat.le_trans (Nat.add_le_add_right lz _) (by decide), hR _ (Same.refl _)⟩⟩
      · refine ⟨_, D2, _, rfl, rfl, .inl (.inl (.inl hL5)), ?_, q _ (sA.trans s5)⟩
        refine Nat.le_trans (join_bound (n := 5) (B := 144) (by decide) (fun p hp => ?_) (by rw [List.length_map]; exact ll)) (by decide)
        obtain ⟨z, hz, rfl⟩ := List.mem_map.mp hp
        have lz := (linT_f vL vw z hz).1
        exact js_len lz (n := 1) (by decide)
end

theorem ShAt.dg {K : PySem.W.Frag} {fx : Hp} {H : Hp} {b : Bool} {v : V} {ls : List LY} {x y : Int} {ms : List MV} : ShAt K H v ls x y ms → Dg K fx H b v (shD ls x y ms) := by
  rintro ⟨p, lv, wv, rfl, hp, ⟨pl, us, rfl, hq, pd⟩, hw⟩
  exact .tup hp (.cons (.tup hq (lays_dg pd)) (.cons hw.dg .nil))
theorem sh_true {ls : List LY} {x y : Int} {ms : List MV} (h : VLays ls) (hw : VWin x y ms) : isShD (shD ls x y ms) = true := by
  show isShD (.tuple [.tuple (ls.map lyD), winD x y ms]) = true
  rw [sh_eq ⟨by rw [List.length_map]; exact h.1, by rw [List.length_map]; exact h.2.1⟩, lays_true h.2.2, win_true hw]
  rfl
section
variable {P : Program} {w : World} {K : PySem.W.Frag} {mg : Str → Option Value} {base : Heap}
def sp_need_sheet (K : PySem.W.Frag) : Sp := fun vs H Q _ => ∃ (v : V) (ls : List LY) (x y : Int) (ms : List MV), vs = [v] ∧ ShAt K H v ls x y ms ∧ VLays ls ∧ VWin x y ms ∧ ∀ H', Same H H' → Q .non H'
theorem ok_need_sheet {f : Addr} {fd : FuncData} (F : Fun K "need_sheet" "need_sheet" s_need_sheet f fd) (T : Txt K mg) (D_is_sheet : Cl P w K mg base 6 "is_sheet" ["thing"] (sp_is_sheet K)) : FnOk P w K mg base CX0 7 f fd ["thing"] (sp_need_sheet K) := by
  refine F.ok sc_need_sheet (fun vs H Q E h => ?_) (fun cdv A outer s H vs Q E hr h => ?_)
  · obtain ⟨v, ls, x, y, ms, rfl, _⟩ := h
    rfl
  · obtain ⟨v, ls, x, y, ms, rfl, hl, v8, vw, q⟩ := h
    refine ⟨_, (pss_one (ps_if (pt_not (pt_val (pe_own D_is_sheet (hr.mono (by omega)) (by rfl) (pa_cons (pv 0) pa_nil)))) (pss_one ps_never) pss_nil)), ?_⟩
    refine ⟨_, rfl, (fun _ => none), false, v, _, rfl, hl.dg, fun H1 s1 => ⟨_, rfl, ?_⟩⟩
    rw [sh_true v8 vw]
    exact iteF (q _ s1)
def sp_need_moment (K : PySem.W.Frag) (c : Nat → Addr) : Sp := fun vs H Q E => ∃ (fx : Hp) (b : Bool) (v : V) (d : PyData), vs = [v] ∧ Dg K fx H b v d ∧ (isW d 0 1000000000 = true → Q .non H) ∧ (isW d 0 1000000000 = false → E (.ref (c 3)) none H)
theorem ok_need_moment {f : Addr} {fd : FuncData} {c : Nat → Addr} {LE : Addr} (F : Fun K "need_moment" "need_moment" s_need_moment f fd) (T : Txt K mg) (TX : ExcN K mg c LE) (D_is_whole : Cl P w K mg base 2 "is_whole" ["thing", "least", "most"] (sp_is_whole K)) : FnOk P w K mg base (L2.CX P w) 3 f fd ["thing"] (sp_need_moment K c) := by
  refine F.okX sc_need_moment (fun vs H Q E h => ?_) (fun cdv A outer s H vs Q E hr h => ?_)
  · obtain ⟨fx, b, v, d, rfl, _⟩ := h
    rfl
  · obtain ⟨fx, b, v, d, rfl, hd, q1, q2⟩ := h
    refine ⟨_, (pss_one (ps_if (pt_not (pt_val (pe_own D_is_whole (hr.mono (by omega)) (by rfl) (pa_cons (pv 0) (pa_cons pe_int (pa_cons (pe_gint (by rfl) T.c_LAST_MOMENT) pa_nil)))))) (pss_one (ps_raise rfl (takes_of rfl rfl rfl rfl) (pmk_own PySem.F.excBase_ValueError (TX.nw 3 (by decide)) (TX.g 3 "NoMoment" rfl) (TX.kp 3 (by decide)) (TX.rs (i := 3) (by decide)) rfl))) pss_nil)), ?_⟩
    refine ⟨_, rfl, fx, b, v, d, 0, 1000000000, rfl, hd, _, rfl, ?_⟩
    cases e : isW d 0 1000000000 with
    | true => exact iteF (q1 e)
    | false => exact iteT (q2 e)
end

section
variable {P : Program} {w : World} {K : PySem.W.Frag} {mg : Str → Option Value} {base : Heap}
def sp_moved (K : PySem.W.Frag) : Sp := fun vs H Q _ => ∃ (v : V) (x y : Int) (ms : List MV), vs = [v] ∧ WinAt K H v x y ms ∧ ms.length ≤ 8 ∧ ∀ H', Same H H' → Q (.int (mtot ms)) H'
theorem ok_moved {f : Addr} {fd : FuncData} (F : Fun K "moved" "moved" s_moved f fd) (T : Txt K mg) : FnOk P w K mg base CX0 1 f fd ["window"] (sp_moved K) := by
  refine F.ok sc_moved (fun vs H Q E h => ?_) (fun cdv A outer s H vs Q E hr h => ?_)
  · obtain ⟨v, x, y, ms, rfl, _⟩ := h
    rfl
  · obtain ⟨v, x, y, ms, rfl, ⟨p, mv, rfl, hp, pm, vs, rfl, hq, pd⟩, hz, q⟩ := h
    have hl : vs.length = ms.length := Paired.length pd
    refine ⟨_, (pss_cons (ps_asg (pv 0) (pg_tup (by rfl) (pgs_cons (pg_name (i := 1) sc_moved.nd rfl (Or.inl rfl)) (pgs_cons (pg_name (i := 2) sc_moved.nd rfl (Or.inl rfl)) (pgs_cons (pg_name (i := 3) sc_moved.nd rfl (Or.inl rfl)) pgs_nil)))))
      (pss_one (ps_ret (pe_callB (cr_sum rfl) (by rfl) T.b_sum (by decide +kernel) (pa_cons (pe_lc (own := [("goal_x", 4), ("goal_y", 5), ("many", 6)]) (g := (gTup _ 3 (gCons (gName 4) (gCons (gName 5) (gCons (gName 6) gNil))))) (tt := tYes) (by rfl) sc_moved.nd (pi_tup (pv 3)) (blkOk_by (own := [("goal_x", 4), ("goal_y", 5), ("many", 6)]) (N := ["window", "x", "y", "moves", "goal_x", "goal_y", "many"]) (sc := defScope s_moved) (by decide +kernel)) (fun _ _ _ _ _ => (pg_tup (by rfl) (pgs_cons (pg_name (i := 4) sc_moved.nd rfl (Or.inl rfl)) (pgs_cons (pg_name (i := 5) sc_moved.nd rfl (Or.inl rfl)) (pgs_cons (pg_name (i := 6) sc_moved.nd rfl (Or.inl rfl)) pgs_nil))))) (fun _ _ _ _ _ => pts_nil) (fun _ _ _ _ _ => (pv 6))) pa_nil))))), ?_⟩
    refine ⟨_, rfl, p, _, rfl, hp, rfl, _, _, rfl, _, _, rfl, _, _, rfl, rfl, ?_⟩
    refine ⟨_, rfl, pm, rfl, ⟨_, hq⟩, fun D hD => ?_⟩
    refine lcmap_tup ((ms.map (·.2.2)).map V.int) (by simp [hl]) (by omega) hq hD (fun i x y H2 R Z hx hy s2 hR => ?_) (fun H2 s2 hL => ?_)
    · obtain ⟨m, hm1, pw, rfl, hrow⟩ := Paired.at pd hx
      have ey : y = .int m.2.2 := by
        rw [List.map_map, List.getElem?_map, hm1] at hy
        exact (Option.some.inj hy).symm
      subst ey
      exact ⟨pw, _, rfl, Same.sqT s2 hrow, rfl, _, _, rfl, _, _, rfl, _, _, rfl, rfl, rfl, yes_ok ⟨_, rfl, hR _ (Same.refl _)⟩⟩
    · exact ⟨D, _, rfl, .inl (.inl hL), q _ s2⟩
end

section
variable {P : Program} {w : World} {K : PySem.W.Frag} {mg : Str → Option Value} {base : Heap}
def sp_held (K : PySem.W.Frag) : Sp := fun vs H Q _ => ∃ (v : V) (rs : List RW), vs = [v] ∧ RowsAt K H v rs ∧ rs.length ≤ 1000 ∧ ∀ H', Same H H' → Q (.int (tot rs)) H'
theorem ok_held {f : Addr} {fd : FuncData} (F : Fun K "held" "held" s_held f fd) (T : Txt K mg) : FnOk P w K mg base CX0 1 f fd ["rows"] (sp_held K) := by
  refine F.ok sc_held (fun vs H Q E h => ?_) (fun cdv A outer s H vs Q E hr h => ?_)
  · obtain ⟨v, rs, rfl, _⟩ := h
    rfl
  · obtain ⟨v, rs, rfl, ⟨pr, vs, rfl, hq, pd⟩, hz, q⟩ := h
    have hl : vs.length = rs.length := Paired.length pd
    refine ⟨_, (pss_one (ps_ret (pe_callB (cr_sum rfl) (by rfl) T.b_sum (by decide +kernel) (pa_cons (pe_lc (own := [("drawing", 1), ("hold", 2)]) (g := (gTup _ 2 (gCons (gName 1) (gCons (gName 2) gNil)))) (tt := tYes) (by rfl) sc_held.nd (pi_tup (pv 0)) (blkOk_by (own := [("drawing", 1), ("hold", 2)]) (N := ["rows", "drawing", "hold"]) (sc := defScope s_held) (by decide +kernel)) (fun _ _ _ _ _ => (pg_tup (by rfl) (pgs_cons (pg_name (i := 1) sc_held.nd rfl (Or.inl rfl)) (pgs_cons (pg_name (i := 2) sc_held.nd rfl (Or.inl rfl)) pgs_nil)))) (fun _ _ _ _ _ => pts_nil) (fun _ _ _ _ _ => (pv 2))) pa_nil)))), ?_⟩
    refine ⟨_, rfl, pr, rfl, ⟨_, hq⟩, fun D hD => ?_⟩
    refine lcmap_tup ((rs.map (·.2)).map V.int) (by simp [hl]) (by omega) hq hD (fun i x y H2 R Z hx hy s2 hR => ?_) (fun H2 s2 hL => ?_)
    · obtain ⟨r, hr1, p, rfl, hrow⟩ := Paired.at pd hx
      have ey : y = .int r.2 := by
        rw [List.map_map, List.getElem?_map, hr1] at hy
        exact (Option.some.inj hy).symm
      subst ey
      exact ⟨p, _, rfl, Same.sqT s2 hrow, rfl, _, _, rfl, _, _, rfl, rfl, rfl, yes_ok ⟨_, rfl, hR _ (Same.refl _)⟩⟩
    · exact ⟨D, _, rfl, .inl (.inl hL), q _ s2⟩
end

section
variable {P : Program} {w : World} {K : PySem.W.Frag} {mg : Str → Option Value} {base : Heap}
def sp_first_time (K : PySem.W.Frag) : Sp := fun vs H Q _ => ∃ (v : V) (rs : List RW) (b m : Int), vs = [v, .int b, .int m] ∧ RowsAt K H v rs ∧ VRows rs ∧ VBack rs (some b) ∧ ∀ H', Same H H' → Q (.int (near rs (some b) m)) H'
theorem ok_first_time {f : Addr} {fd : FuncData} (F : Fun K "first_time" "first_time" s_first_time f fd) (T : Txt K mg) (D_held : Cl P w K mg base 1 "held" ["rows"] (sp_held K)) : FnOk P w K mg base CX0 2 f fd ["rows", "back", "moment"] (sp_first_time K) := by
  refine F.ok sc_first_time (fun vs H Q E h => ?_) (fun cdv A outer s H vs Q E hr h => ?_)
  · obtain ⟨v, rs, b, m, rfl, _⟩ := h
    rfl
  · obtain ⟨v, rs, b, m, rfl, ⟨pr, vs, rfl, hq, pd⟩, ⟨v8, vr⟩, vb, q⟩ := h
    have hb := vb b rfl
    obtain ⟨k, rfl⟩ : ∃ k : Nat, b = (k : Int) := ⟨b.toNat, by omega⟩
    refine ⟨_, (pss_cons (ps_set (i := 3) sc_first_time.nd rfl (Or.inl rfl) (pe_own D_held (hr.mono (by omega)) (by rfl) (pa_cons (pe_slice sl_tupA (pv 0) po_none (po_some (pv 1))) pa_nil)))
      (pss_cons (ps_set (i := 4) sc_first_time.nd rfl (Or.inl rfl) (pe_own D_held (hr.mono (by omega)) (by rfl) (pa_cons (pe_slice sl_tupA (pv 0) (po_some (pv 1)) po_none) pa_nil)))
      (pss_one (ps_ret (pe_ifExp (pt_cmpR op_lt (pv 2) (pv 3) (nomark _)) (pv 2) (pe_op op_add (pv 3) (pe_op op_modN (pe_op op_sub (pv 2) (pv 3)) (pv 4)))))))), ?_⟩
    refine ⟨_, rfl, _, rfl, _, rfl, sl_rows (rs.take k) hq (by rw [cut_to]; exact Paired.takeP k pd) (fun H1 v1 s1 h1 => ?_)⟩
    refine ⟨v1, rs.take k, rfl, h1, by rw [List.length_take]; omega, fun H2 s2 => ?_⟩
    have pd2 : Paired (RowAt K H2) vs rs := Paired.mono pd fun _ _ => RowAt.keep (Same.tk (s1.trans s2))
    have hq2 := Same.sqT (s1.trans s2) hq
    refine ⟨_, rfl, _, rfl, _, rfl, ?_⟩
    dsimp only [tNoPart]
    refine sl_rows (rs.drop k) hq2 (by rw [cut_from]; exact Paired.dropP k pd2) (fun H3 v3 s3 h3 => ?_)
    refine ⟨v3, rs.drop k, rfl, h3, by rw [List.length_drop]; omega, fun H4 s4 => ?_⟩
    have q' := q H4 (((s1.trans s2).trans s3).trans s4)
    unfold near at q'
    dsimp only at q'
    rw [Int.toNat_natCast] at q'
    have cpos : 0 < tot (rs.drop k) := by
      have := (tot_nonneg (rs := rs.drop k) fun q hq => vr q (List.mem_of_mem_drop hq)).1
      rw [List.length_drop] at this
      omega
    refine ⟨_, rfl, _, rfl, m, _, rfl, rfl, _, rfl, ite2 (fun e => ?_) (fun e => ?_)⟩
    · rw [if_pos (of_decide_eq_true e)] at q'
      exact ⟨_, rfl, q'⟩
    · rw [if_neg (fun z => e (decide_eq_true z))] at q'
      refine ⟨_, rfl, _, rfl, _, rfl, _, _, rfl, rfl, _, rfl, _, _, rfl, rfl, by omega, _, _, rfl, rfl, ?_⟩
      rw [Int.fmod_eq_emod_of_nonneg _ (by omega)]
      exact q'
def sp_drawing_of (K : PySem.W.Frag) : Sp := fun vs H Q _ => ∃ (v : V) (rs : List RW) (bk : Option Int) (m : Int), vs = [v, .int m] ∧ LayAt K H v rs bk ∧ VRows rs ∧ VBack rs bk ∧ ∀ H', Same H H' → Q (.int (shown rs bk m)) H'
theorem ok_drawing_of {f : Addr} {fd : FuncData} (F : Fun K "drawing_of" "drawing_of" s_drawing_of f fd) (T : Txt K mg) (D_first_time : Cl P w K mg base 2 "first_time" ["rows", "back", "moment"] (sp_first_time K)) : FnOk P w K mg base CX0 3 f fd ["layer", "moment"] (sp_drawing_of K) := by
  refine F.ok sc_drawing_of (fun vs H Q E h => ?_) (fun cdv A outer s H vs Q E hr h => ?_)
  · obtain ⟨v, rs, bk, m, rfl, _⟩ := h
    rfl
  · obtain ⟨v, rs, bk, m, rfl, ⟨p, rv, rfl, hp, pr, vs, rfl, hq, pd⟩, ⟨v8, vr⟩, vb, q⟩ := h
    have hl : vs.length = rs.length := Paired.length pd
    have key : ∀ R : VK, (∀ H', Same H H' → R (.int (near rs bk m)) H') → tIf (tTest (tOp (fun x y H Q => y = .non ∧ Q (.bl (decide (x = .non))) H) (tVar 3) (tC .non))) (tVar 1) (tCall (sp_first_time K) [] E0 (tCons (tVar 2) (tCons (tVar 3) (tCons (tVar 1) tNil)))) [some (.ref p), some (.int m), some (.ref pr), some (bkV bk), none, none, none] H R := by
      intro R hR
      refine ⟨_, rfl, rfl, _, rfl, ?_⟩
      cases bk with
      | none => exact ite2 (fun _ => ⟨_, rfl, hR _ (Same.refl _)⟩) (fun e => absurd (decide_eq_true rfl) e)
      | some b =>
        refine ite2 (fun e => nomatch (of_decide_eq_true e)) (fun _ => ?_)
        exact ⟨_, rfl, _, rfl, _, rfl, _, rs, b, m, rfl, ⟨pr, vs, rfl, hq, pd⟩, ⟨v8, vr⟩, vb, hR⟩
    refine ⟨_, (pss_cons (ps_asg (pv 0) (pg_tup (by rfl) (pgs_cons (pg_name (i := 2) sc_drawing_of.nd rfl (Or.inl rfl)) (pgs_cons (pg_name (i := 3) sc_drawing_of.nd rfl (Or.inl rfl)) pgs_nil))))
      (pss_cons (ps_set (i := 4) sc_drawing_of.nd rfl (Or.inl rfl) (pe_ifExp (pt_cmpR op_isN (pv 3) pe_non (nomark _)) (pv 1) (pe_own D_first_time (hr.mono (by omega)) (by rfl) (pa_cons (pv 2) (pa_cons (pv 3) (pa_cons (pv 1) pa_nil))))))
      (pss_cons (ps_for PassesOwn.never rfl (pi_tup (pv 2)) (pg_tup (by rfl) (pgs_cons (pg_name (i := 5) sc_drawing_of.nd rfl (Or.inl rfl)) (pgs_cons (pg_name (i := 6) sc_drawing_of.nd rfl (Or.inl rfl)) pgs_nil)))
        (pss_cons (ps_if (pt_cmpR op_lt (pv 4) (pv 6) (nomark _)) (pss_one (ps_ret (pv 5))) pss_nil)
      (pss_one (ps_aug (i := 4) sc_drawing_of.nd rfl (Or.inl rfl) (pv 6) ip_sub))))
      (pss_one (ps_ret pe_int))))), ?_⟩
    refine ⟨_, rfl, p, _, rfl, hp, rfl, _, _, rfl, _, _, rfl, rfl, ?_⟩
    refine key _ (fun H1 s1 => ?_)
    refine ⟨_, rfl, pr, rfl, ⟨_, Same.sqT s1 hq⟩, for_tup (K := K) (a := pr) (xs := vs) (fun i σ H2 => ∃ (n : Int) (x y : Option V), σ = [some (.ref p), some (.int m), some (.ref pr), some (bkV bk), some (.int n), x, y] ∧ Same H H2 ∧ walk (rs.drop i) n = shown rs bk m)
      ⟨_, none, none, rfl, s1, rfl⟩ (fun i σ H2 _ ⟨_, _, _, _, s2, _⟩ => Same.sqT s2 hq) ?_ ?_⟩
    · rintro i x σ H2 hx ⟨n, y1, y2, rfl, s2, e⟩
      obtain ⟨r, hr1, pw, rfl, hrow⟩ := Paired.at pd hx
      have hi : i < rs.length := (List.getElem?_eq_some_iff.mp hr1).1
      have ed : rs.drop i = r :: rs.drop (i + 1) := by
        rw [List.drop_eq_getElem_cons hi]
        congr 1
        rw [List.getElem?_eq_getElem hi] at hr1
        exact Option.some.inj hr1
      rw [ed] at e
      unfold walk at e
      refine ⟨pw, _, rfl, Same.sqT s2 hrow, rfl, _, _, rfl, _, _, rfl, rfl, ?_⟩
      refine ⟨_, rfl, _, rfl, n, r.2, rfl, rfl, _, rfl, ite2 (fun c => ?_) (fun c => ?_)⟩
      · rw [if_pos (of_decide_eq_true c)] at e
        refine ⟨_, rfl, ?_⟩
        show Q (.int r.1) H2
        rw [e]
        exact q _ s2
      · rw [if_neg (fun z => c (decide_eq_true z))] at e
        exact ⟨_, rfl, _, rfl, n, r.2, rfl, rfl, n - r.2, _, _, rfl, s2, e⟩
    · rintro σ H2 ⟨n, y1, y2, rfl, s2, e⟩
      rw [List.drop_of_length_le (by omega)] at e
      show Q (.int 0) H2
      rw [show (0 : Int) = shown rs bk m from e]
      exact q _ s2
end

section
variable {P : Program} {w : World} {K : PySem.W.Frag} {mg : Str → Option Value} {base : Heap}
def sp_common_divisor (K : PySem.W.Frag) : Sp := fun vs H Q _ => ∃ a b : Nat, vs = [.int a, .int b] ∧ Q (.int ((Nat.gcd a b : Nat) : Int)) H
theorem ok_common_divisor {f : Addr} {fd : FuncData} (F : Fun K "common_divisor" "common_divisor" s_common_divisor f fd) (T : Txt K mg) : FnOk P w K mg base CX0 1 f fd ["one", "other"] (sp_common_divisor K) := by
  refine F.ok sc_common_divisor (fun vs H Q E h => ?_) (fun cdv A outer s H vs Q E hr h => ?_)
  · obtain ⟨a, b, rfl, _⟩ := h
    rfl
  · obtain ⟨a, b, rfl, q⟩ := h
    refine ⟨_, (pss_cons (ps_while PassesOwn.never (pt_truth (pv 1) (by intro _; rfl)) (pss_one (ps_par (i := 0) (j := 1) (by rfl) sc_common_divisor.nd rfl rfl (by decide) rfl rfl (pa_cons (pv 1) (pa_cons (pe_op op_modN (pv 0) (pv 1)) pa_nil)) (by rfl))))
      (pss_one (ps_ret (pv 0)))), ?_⟩
    refine while_by (fun σ H' => H = H' ∧ ∃ c d : Nat, σ = [some (.int c), some (.int d)] ∧ Nat.gcd c d = Nat.gcd a b) (fun σ _ => match σ with | [_, some (.int d)] => d.toNat | _ => 0) ⟨rfl, a, b, rfl, rfl⟩ ?_ ?_
    · rintro σ H1 ⟨rfl, c, d, rfl, e⟩
      refine ⟨_, rfl, _, rfl, ite2 (fun hd => ?_) (fun hd => ?_)⟩
      · have d0 : (d : Int) ≠ 0 := fun z => by
          rw [z] at hd
          exact absurd hd (by decide)
        refine ⟨_, rfl, _, rfl, _, rfl, _, _, rfl, rfl, d0, _, _, rfl, ⟨rfl, d, c % d, ?_, ?_⟩, ?_⟩
        · show [some (V.int (d : Int)), some (V.int ((c : Int).fmod (d : Int)))] = _
          rw [Int.fmod_eq_emod_of_nonneg _ (by omega)]
          rfl
        · rw [← e, Nat.gcd_comm c d, Nat.gcd_rec d c, Nat.gcd_comm (c % d) d]
        · show ((c : Int).fmod (d : Int)).toNat < (d : Int).toNat
          have := (fm (x := (c : Int)) (m := (d : Int)) (by omega)).2
          omega
      · have d0 : d = 0 := by
          rcases Nat.eq_zero_or_pos d with z | z
          · exact z
          · exact absurd (show ((d : Int) != 0) = true from bne_iff_ne.mpr (by omega)) hd
        subst d0
        rw [Nat.gcd_zero_right] at e
        refine ⟨_, rfl, ?_⟩
        rw [e]
        exact q
    · rintro σ H1 Q1 Q2 hm ⟨v, e1, k, e2, e3⟩
      exact ⟨v, e1, k, e2, hm _ _ e3⟩
def sp_lowest (K : PySem.W.Frag) : Sp := fun vs H Q _ => ∃ t b : Int, vs = [.int t, .int b] ∧ 1 ≤ b ∧ b ≤ 1000 ∧ ∀ H' v, Same H H' → RowAt K H' v (lo t b) → Q v H'
theorem ok_lowest {f : Addr} {fd : FuncData} (F : Fun K "lowest" "lowest" s_lowest f fd) (T : Txt K mg) (D_common_divisor : Cl P w K mg base 1 "common_divisor" ["one", "other"] (sp_common_divisor K)) : FnOk P w K mg base CX0 2 f fd ["top", "bottom"] (sp_lowest K) := by
  refine F.ok sc_lowest (fun vs H Q E h => ?_) (fun cdv A outer s H vs Q E hr h => ?_)
  · obtain ⟨t, b, rfl, _⟩ := h
    rfl
  · obtain ⟨t, b, rfl, h1, h2, q⟩ := h
    refine ⟨_, (pss_cons (ps_set (i := 2) sc_lowest.nd rfl (Or.inl rfl) (pe_own D_common_divisor (hr.mono (by omega)) (by rfl) (pa_cons (pe_callB call_abs (by rfl) T.b_abs (by decide +kernel) (pa_cons (pv 0) pa_nil)) (pa_cons (pv 1) pa_nil))))
      (pss_one (ps_ret (pe_tup (pa_cons (pe_op op_fdivN (pv 0) (pv 2)) (pa_cons (pe_op op_fdivN (pv 1) (pv 2)) pa_nil)))))), ?_⟩
    obtain ⟨g, t', b', eg, gp, et, eb, bp, el, gle, _⟩ := gcd_facts (t := t) (show 0 < b by omega)
    refine ⟨_, rfl, t, rfl, _, rfl, t.natAbs, b.natAbs, ?_, ?_⟩
    · show [V.int (if t < 0 then -t else t), V.int b] = _
      rw [show (if t < 0 then -t else t) = (t.natAbs : Int) by split <;> omega, show b = ((b.natAbs : Nat) : Int) by omega]
      rfl
    rw [eg]
    refine ⟨_, rfl, _, rfl, t, g, rfl, rfl, ⟨by omega, by omega⟩, _, rfl, _, rfl, b, g, rfl, rfl, ⟨by omega, by omega⟩, (by show 2 ≤ sizeLine; decide), fun p np => ?_⟩
    refine q _ _ (same_upd np) ⟨p, rfl, .inl (.inl ?_)⟩
    rw [upd_same]
    show some (HO.tup [V.int (t.fdiv g), V.int (b.fdiv g)]) = _
    rw [Int.fdiv_eq_ediv_of_nonneg t (show 0 ≤ g by omega), Int.fdiv_eq_ediv_of_nonneg b (show 0 ≤ g by omega)]
    unfold lo
    rw [eg]
def sp_on_the_way (K : PySem.W.Frag) : Sp := fun vs H Q _ => ∃ s g k n : Int, vs = [.int s, .int g, .int k, .int n] ∧ (-20 ≤ s ∧ s ≤ 20) ∧ (-20 ≤ g ∧ g ≤ 20) ∧ 1 ≤ n ∧ n ≤ 1000 ∧ ∀ H' v, Same H H' → RowAt K H' v (lo (s * n + (g - s) * k) n) → Q v H'
theorem ok_on_the_way {f : Addr} {fd : FuncData} (F : Fun K "on_the_way" "on_the_way" s_on_the_way f fd) (T : Txt K mg) (D_lowest : Cl P w K mg base 2 "lowest" ["top", "bottom"] (sp_lowest K)) : FnOk P w K mg base CX0 3 f fd ["start", "goal", "step", "many"] (sp_on_the_way K) := by
  refine F.ok sc_on_the_way (fun vs H Q E h => ?_) (fun cdv A outer s H vs Q E hr h => ?_)
  · obtain ⟨s, g, k, n, rfl, _⟩ := h
    rfl
  · obtain ⟨s0, g, k, n, rfl, hs, hg, h1, h2, q⟩ := h
    refine ⟨_, (pss_one (ps_ret (pe_own D_lowest (hr.mono (by omega)) (by rfl) (pa_cons (pe_op op_add (pe_op op_mul (pv 0) (pv 3)) (pe_op op_mul (pe_op op_sub (pv 1) (pv 0)) (pv 2))) (pa_cons (pv 3) pa_nil))))), ?_⟩
    exact ⟨_, rfl, _, rfl, s0, n, rfl, rfl, .inl ⟨by omega, by omega⟩, _, rfl, _, rfl, g, s0, rfl, rfl, _, rfl, g - s0, k, rfl, rfl, .inl ⟨by omega, by omega⟩, _, _, rfl, rfl, _, rfl, _, n, rfl, h1, h2, q⟩
def sp_place_of (K : PySem.W.Frag) : Sp := fun vs H Q _ => ∃ (v : V) (x y : Int) (ms : List MV) (m : Int), vs = [v, .int m] ∧ WinAt K H v x y ms ∧ VWin x y ms ∧ 0 ≤ m ∧ ∀ H' v, Same H H' → PlAt K H' v (plc x y ms m) → Q v H'
theorem ok_place_of {f : Addr} {fd : FuncData} (F : Fun K "place_of" "place_of" s_place_of f fd) (T : Txt K mg) (D_on_the_way : Cl P w K mg base 3 "on_the_way" ["start", "goal", "step", "many"] (sp_on_the_way K)) : FnOk P w K mg base CX0 4 f fd ["window", "moment"] (sp_place_of K) := by
  refine F.ok sc_place_of (fun vs H Q E h => ?_) (fun cdv A outer s H vs Q E hr h => ?_)
  · obtain ⟨v, x, y, ms, m, rfl, _⟩ := h
    rfl
  · obtain ⟨v, x, y, ms, m, rfl, ⟨p, mv, rfl, hp, pm, vs, rfl, hq, pd⟩, ⟨vx, vy, v8, vm⟩, m0, q⟩ := h
    have hl : vs.length = ms.length := Paired.length pd
    refine ⟨_, (pss_cons (ps_asg (pv 0) (pg_tup (by rfl) (pgs_cons (pg_name (i := 2) sc_place_of.nd rfl (Or.inl rfl)) (pgs_cons (pg_name (i := 3) sc_place_of.nd rfl (Or.inl rfl)) (pgs_cons (pg_name (i := 4) sc_place_of.nd rfl (Or.inl rfl)) pgs_nil)))))
      (pss_cons (ps_set (i := 5) sc_place_of.nd rfl (Or.inl rfl) (pv 1))
      (pss_cons (ps_for PassesOwn.never rfl (pi_tup (pv 4)) (pg_tup (by rfl) (pgs_cons (pg_name (i := 6) sc_place_of.nd rfl (Or.inl rfl)) (pgs_cons (pg_name (i := 7) sc_place_of.nd rfl (Or.inl rfl)) (pgs_cons (pg_name (i := 8) sc_place_of.nd rfl (Or.inl rfl)) pgs_nil))))
        (pss_cons (ps_if (pt_cmpR op_lt (pv 5) (pv 8) (nomark _)) (pss_cons (ps_set (i := 9) sc_place_of.nd rfl (Or.inl rfl) (pe_op op_add (pv 5) pe_int))
      (pss_one (ps_ret (pe_tup (pa_cons (pe_own D_on_the_way (hr.mono (by omega)) (by rfl) (pa_cons (pv 2) (pa_cons (pv 6) (pa_cons (pv 9) (pa_cons (pv 8) pa_nil))))) (pa_cons (pe_own D_on_the_way (hr.mono (by omega)) (by rfl) (pa_cons (pv 3) (pa_cons (pv 7) (pa_cons (pv 9) (pa_cons (pv 8) pa_nil))))) pa_nil)))))) pss_nil)
      (pss_cons (ps_aug (i := 5) sc_place_of.nd rfl (Or.inl rfl) (pv 8) ip_sub)
      (pss_one (ps_par (i := 2) (j := 3) (by rfl) sc_place_of.nd rfl rfl (by decide) rfl rfl (pa_cons (pv 6) (pa_cons (pv 7) pa_nil)) (by rfl))))))
      (pss_one (ps_ret (pe_tup (pa_cons (pe_tup (pa_cons (pv 2) (pa_cons pe_int pa_nil))) (pa_cons (pe_tup (pa_cons (pv 3) (pa_cons pe_int pa_nil))) pa_nil)))))))), ?_⟩
    refine ⟨_, rfl, p, _, rfl, hp, rfl, _, _, rfl, _, _, rfl, _, _, rfl, rfl, ?_⟩
    refine ⟨_, rfl, _, rfl, pm, rfl, ⟨_, hq⟩, for_tup (K := K) (a := pm) (xs := vs) (fun i σ H' => H = H' ∧ ∃ (cx cy t : Int) (y6 y7 y8 y9 : Option V), σ = [some (.ref p), some (.int m), some (.int cx), some (.int cy), some (.ref pm), some (.int t), y6, y7, y8, y9] ∧ (-20 ≤ cx ∧ cx ≤ 20) ∧ (-20 ≤ cy ∧ cy ≤ 20) ∧ 0 ≤ t ∧ plc cx cy (ms.drop i) t = plc x y ms m)
      ⟨rfl, x, y, m, _, _, _, _, rfl, vx, vy, m0, rfl⟩ (fun i σ H' _ z => by rw [← z.1]; exact hq) ?_ ?_⟩
    · rintro i v σ H1 hv ⟨rfl, cx, cy, t, y6, y7, y8, y9, rfl, hcx, hcy, t0, e⟩
      obtain ⟨mm, hm1, pw, rfl, hrow⟩ := Paired.at pd hv
      have hi : i < ms.length := (List.getElem?_eq_some_iff.mp hm1).1
      have ed : ms.drop i = mm :: ms.drop (i + 1) := by
        rw [List.drop_eq_getElem_cons hi]
        congr 1
        rw [List.getElem?_eq_getElem hi] at hm1
        exact Option.some.inj hm1
      rw [ed, plc_cons] at e
      obtain ⟨vmx, vmy, vm3, vm4⟩ := vm mm (List.mem_of_getElem? hm1)
      refine ⟨pw, _, rfl, hrow, rfl, _, _, rfl, _, _, rfl, _, _, rfl, rfl, ?_⟩
      refine ⟨_, rfl, _, rfl, t, mm.2.2, rfl, rfl, _, rfl, ite2 (fun c => ?_) (fun c => ?_)⟩
      · have c1 : t < mm.2.2 := of_decide_eq_true c
        rw [if_pos c1] at e
        refine ⟨_, rfl, t, 1, rfl, rfl, ?_⟩
        refine ⟨_, rfl, _, rfl, _, rfl, _, rfl, cx, mm.1, t + 1, mm.2.2, rfl, hcx, vmx, by omega, by omega, fun H2 v1 s2 r2 => ?_⟩
        refine ⟨_, rfl, _, rfl, _, rfl, _, rfl, cy, mm.2.1, t + 1, mm.2.2, rfl, hcy, vmy, by omega, by omega, fun H3 v2 s3 r3 => ?_⟩
        refine ⟨(by show 2 ≤ sizeLine; decide), fun p4 np4 => ?_⟩
        have s4 := same_upd (o := .tup [v1, v2]) np4
        refine q _ _ ((s2.trans s3).trans s4) ?_
        rw [← e]
        exact ⟨p4, v1, v2, rfl, .inl (.inl upd_same), r2.keep (Same.tk (s3.trans s4)), r3.keep (Same.tk s4)⟩
      · have c1 : ¬ t < mm.2.2 := fun z => c (decide_eq_true z)
        rw [if_neg c1] at e
        refine ⟨_, rfl, _, rfl, t, mm.2.2, rfl, rfl, ?_⟩
        refine ⟨_, rfl, _, rfl, _, _, rfl, ?_⟩
        exact ⟨rfl, mm.1, mm.2.1, t - mm.2.2, _, _, _, _, rfl, vmx, vmy, by omega, e⟩
    · rintro σ H1 ⟨rfl, cx, cy, t, y6, y7, y8, y9, rfl, hcx, hcy, t0, e⟩
      rw [List.drop_of_length_le (by omega), plc_nil] at e
      refine ⟨_, rfl, (by show 2 ≤ sizeLine; decide), fun p1 np1 => ?_⟩
      have s1 := same_upd (o := .tup [.int cx, .int 1]) np1
      refine ⟨_, rfl, (by show 2 ≤ sizeLine; decide), fun p2 np2 => ?_⟩
      have s2 := same_upd (o := .tup [.int cy, .int 1]) np2
      refine ⟨(by show 2 ≤ sizeLine; decide), fun p3 np3 => ?_⟩
      have s3 := same_upd (o := .tup [.ref p1, .ref p2]) np3
      refine q _ _ ((s1.trans s2).trans s3) ?_
      rw [← e]
      exact ⟨p3, _, _, rfl, .inl (.inl upd_same), ⟨p1, rfl, .inl (.inl (s3 _ _ (s2 _ _ upd_same)))⟩, ⟨p2, rfl, .inl (.inl (s3 _ _ upd_same))⟩⟩
end

section
variable {P : Program} {w : World} {K : PySem.W.Frag} {mg : Str → Option Value} {base : Heap}
def sp_length_of (K : PySem.W.Frag) : Sp := fun vs H Q _ => ∃ (v : V) (l : LY), vs = [v] ∧ LyAt K H v l ∧ VLy l ∧ ∀ H', Same H H' → Q (bkV (lenL l)) H'
theorem ok_length_of {f : Addr} {fd : FuncData} (F : Fun K "length_of" "length_of" s_length_of f fd) (T : Txt K mg) (D_held : Cl P w K mg base 1 "held" ["rows"] (sp_held K)) : FnOk P w K mg base CX0 2 f fd ["layer"] (sp_length_of K) := by
  refine F.ok sc_length_of (fun vs H Q E h => ?_) (fun cdv A outer s H vs Q E hr h => ?_)
  · obtain ⟨v, l, rfl, _⟩ := h
    rfl
  · obtain ⟨v, ⟨rs, bk⟩, rfl, ⟨p, rv, rfl, hp, hq⟩, ⟨v8, vb⟩, q⟩ := h
    refine ⟨_, (pss_cons (ps_asg (pv 0) (pg_tup (by rfl) (pgs_cons (pg_name (i := 1) sc_length_of.nd rfl (Or.inl rfl)) (pgs_cons (pg_name (i := 2) sc_length_of.nd rfl (Or.inl rfl)) pgs_nil))))
      (pss_one (ps_ret (pe_ifExp (pt_cmpR op_isN (pv 2) pe_non (nomark _)) (pe_own D_held (hr.mono (by omega)) (by rfl) (pa_cons (pv 1) pa_nil)) pe_non)))), ?_⟩
    refine ⟨_, rfl, p, _, rfl, hp, rfl, _, _, rfl, _, _, rfl, rfl, ?_⟩
    refine ⟨_, rfl, rfl, _, rfl, ?_⟩
    cases bk with
    | none =>
      refine ite2 (fun _ => ?_) (fun e => absurd (decide_eq_true rfl) e)
      have := v8.1
      exact ⟨_, rfl, rv, rs, rfl, hq, by dsimp only at this; omega, q⟩
    | some b => exact ite2 (fun e => nomatch (of_decide_eq_true e)) (fun _ => q _ (Same.refl _))
def sp_full_length (K : PySem.W.Frag) : Sp := fun vs H Q _ => ∃ (v : V) (ls : List LY) (x y : Int) (ms : List MV), vs = [v] ∧ ShAt K H v ls x y ms ∧ VLays ls ∧ VWin x y ms ∧ ∀ H' r, Same H H' → ShLen ls (mtot ms) r → Q (bkV r) H'
theorem ok_full_length {f : Addr} {fd : FuncData} (F : Fun K "full_length" "full_length" s_full_length f fd) (T : Txt K mg) (D_length_of : Cl P w K mg base 2 "length_of" ["layer"] (sp_length_of K)) (D_moved : Cl P w K mg base 1 "moved" ["window"] (sp_moved K)) : FnOk P w K mg base CX0 3 f fd ["sheet"] (sp_full_length K) := by
  refine F.ok sc_full_length (fun vs H Q E h => ?_) (fun cdv A outer s H vs Q E hr h => ?_)
  · obtain ⟨v, ls, x, y, ms, rfl, _⟩ := h
    rfl
  · obtain ⟨v, ls, x, y, ms, rfl, hsh, vL, vw, q⟩ := h
    refine ⟨_, (pss_cons (ps_asg (pv 0) (pg_tup (by rfl) (pgs_cons (pg_name (i := 1) sc_full_length.nd rfl (Or.inl rfl)) (pgs_cons (pg_name (i := 2) sc_full_length.nd rfl (Or.inl rfl)) pgs_nil))))
      (pss_cons (ps_setLc (i := 3) (own := [("layer", 4)]) (g := (gName 4)) (tt := tYes) (by rfl) sc_full_length.nd rfl rfl (sw_true rfl rfl rfl (by decide +kernel)) (pi_tup (pv 1)) (blkOk_by (own := [("layer", 4)]) (N := ["sheet", "layers", "window", "lengths", "layer"]) (sc := defScope s_full_length) (by decide +kernel)) (fun _ _ _ _ _ => (pg_name (i := 4) sc_full_length.nd rfl (Or.inl rfl))) (fun _ _ _ _ _ => pts_nil) (fun _ _ _ _ _ => (pe_own D_length_of (hr.mono (by omega)) (by rfl) (pa_cons (pv 4) pa_nil))))
      (pss_cons (ps_if (pt_cmpR op_in_seq pe_non (pv 3) (by rfl)) (pss_one (ps_ret pe_non)) pss_nil)
      (pss_one (ps_ret (pe_callB (cr_max rfl) (by rfl) T.b_max (by decide +kernel) (pa_cons (pe_op op_cat (pv 3) (pe_lst (pa_cons (pe_own D_moved (hr.mono (by omega)) (by rfl) (pa_cons (pv 2) pa_nil)) pa_nil))) pa_nil))))))), ?_⟩
    obtain ⟨p, lv, wv, rfl, hp, ⟨pl, vs, rfl, hq, pd⟩, hw⟩ := hsh
    obtain ⟨v1, v4, vl⟩ := vL
    have hl : vs.length = ls.length := Paired.length pd
    refine ⟨_, rfl, p, _, rfl, hp, rfl, _, _, rfl, _, _, rfl, rfl, ?_⟩
    refine ⟨_, rfl, pl, rfl, ⟨_, hq⟩, fun D hD => ?_⟩
    refine lcmap_tup (ls.map fun l => bkV (lenL l)) (by simp [hl]) (by omega) hq hD (fun i x y H2 R Z hx hy s2 hR => ?_) (fun H2 s2 hL => ?_)
    · obtain ⟨l, hl1, hly⟩ := Paired.at pd hx
      have ey : y = bkV (lenL l) := by
        rw [List.getElem?_map, hl1] at hy
        exact (Option.some.inj hy).symm
      subst ey
      exact ⟨rfl, yes_ok ⟨_, rfl, x, l, rfl, hly.keep (Same.tk s2), vl l (List.mem_of_getElem? hl1), hR⟩⟩
    · have hfl : (ls.map fun l => bkV (lenL l)).all flatV = true := List.all_eq_true.mpr fun z hz => by
        obtain ⟨l, _, rfl⟩ := List.mem_map.mp hz
        exact bk_flat _
      refine ⟨_, rfl, D, _, rfl, .inl (.inl (.inl hL)), rfl, hfl, _, rfl, ite2 (fun e => ?_) (fun e => ?_)⟩
      · exact q _ none s2 (.inl ⟨(in_ends ls).mp e, rfl⟩)
      · obtain ⟨h1, h2⟩ := all_ints (fun z => e ((in_ends ls).mpr z))
        rw [h2] at hL
        refine ⟨_, rfl, _, rfl, wv, x, y, ms, rfl, hw.keep (Same.tk s2), vw.2.2.1, fun H3 s3 => ⟨(by show 1 ≤ sizeLine; decide), fun p4 np4 => ?_⟩⟩
        obtain ⟨s4, e4⟩ := new_at (.lst [.int (mtot ms)]) np4
        generalize upd H3 p4 (.lst [.int (mtot ms)]) = H4 at s4 e4 ⊢
        refine ⟨D, p4, _, _, rfl, rfl, s4 _ _ (s3 _ _ hL), e4, ?_, fun p5 np5 => ?_⟩
        · rw [List.length_map, List.length_map]
          exact Nat.le_of_lt (small1000 (by show ls.length + 1 ≤ 1000; omega))
        · refine ⟨p5, ls.map (fun l => tot l.1) ++ [mtot ms], rfl, .inl (.inl ?_), by simp, fun m hm hx => ?_⟩
          · rw [upd_same, List.map_append]
            rfl
          · exact q _ (some m) (((s2.trans s3).trans s4).trans (same_upd np5)) (.inr ⟨h1, m, rfl, hm, hx⟩)
def sp_sheet_length (K : PySem.W.Frag) : Sp := fun vs H Q _ => ∃ (v : V) (ls : List LY) (x y : Int) (ms : List MV), vs = [v] ∧ ShAt K H v ls x y ms ∧ VLays ls ∧ VWin x y ms ∧ ∀ H' r, Same H H' → ShLen ls (mtot ms) r → Q (bkV r) H'
theorem ok_sheet_length {f : Addr} {fd : FuncData} (F : Fun K "sheet_length" "sheet_length" s_sheet_length f fd) (T : Txt K mg) (D_need_sheet : Cl P w K mg base 7 "need_sheet" ["thing"] (sp_need_sheet K)) (D_full_length : Cl P w K mg base 3 "full_length" ["sheet"] (sp_full_length K)) : FnOk P w K mg base CX0 8 f fd ["sheet"] (sp_sheet_length K) := by
  refine F.ok sc_sheet_length (fun vs H Q E h => ?_) (fun cdv A outer s H vs Q E hr h => ?_)
  · obtain ⟨v, ls, x, y, ms, rfl, _⟩ := h
    rfl
  · obtain ⟨v, ls, x, y, ms, rfl, hsh, vL, vw, q⟩ := h
    refine ⟨_, (pss_cons (ps_expr (pe_own D_need_sheet (hr.mono (by omega)) (by rfl) (pa_cons (pv 0) pa_nil)))
      (pss_one (ps_ret (pe_own D_full_length (hr.mono (by omega)) (by rfl) (pa_cons (pv 0) pa_nil))))), ?_⟩
    refine ⟨_, rfl, v, ls, x, y, ms, rfl, hsh, vL, vw, fun H1 s1 => ?_⟩
    exact ⟨_, rfl, v, ls, x, y, ms, rfl, hsh.keep (Same.tk s1), vL, vw, fun H2 r s2 hr => q _ r (s1.trans s2) hr⟩
end

section
variable {P : Program} {w : World} {K : PySem.W.Frag} {mg : Str → Option Value} {base : Heap}
def sp_picture_of (K : PySem.W.Frag) : Sp := fun vs H Q _ => ∃ (v : V) (ls : List LY) (x y : Int) (ms : List MV) (m : Int), vs = [v, .int m] ∧ ShAt K H v ls x y ms ∧ VLays ls ∧ VWin x y ms ∧ 0 ≤ m ∧ ∀ H' v, Same H H' → PicAt K H' v (pic ls x y ms m) → Q v H'
theorem ok_picture_of {f : Addr} {fd : FuncData} (F : Fun K "picture_of" "picture_of" s_picture_of f fd) (T : Txt K mg) (D_drawing_of : Cl P w K mg base 3 "drawing_of" ["layer", "moment"] (sp_drawing_of K)) (D_place_of : Cl P w K mg base 4 "place_of" ["window", "moment"] (sp_place_of K)) : FnOk P w K mg base CX0 5 f fd ["sheet", "moment"] (sp_picture_of K) := by
  refine F.ok sc_picture_of (fun vs H Q E h => ?_) (fun cdv A outer s H vs Q E hr h => ?_)
  · obtain ⟨v, ls, x, y, ms, m, rfl, _⟩ := h
    rfl
  · obtain ⟨v, ls, x, y, ms, m, rfl, ⟨p, lv, wv, rfl, hp, ⟨pl, vs, rfl, hq, pd⟩, hw⟩, ⟨v1, v4, vl⟩, vw, m0, q⟩ := h
    have hl : vs.length = ls.length := Paired.length pd
    refine ⟨_, (pss_cons (ps_asg (pv 0) (pg_tup (by rfl) (pgs_cons (pg_name (i := 2) sc_picture_of.nd rfl (Or.inl rfl)) (pgs_cons (pg_name (i := 3) sc_picture_of.nd rfl (Or.inl rfl)) pgs_nil))))
      (pss_cons (ps_set (i := 4) sc_picture_of.nd rfl (Or.inl rfl) (pe_callTy call_tuple_of (by rfl) T.b_tuple (by decide +kernel) (pa_cons (pe_lc (own := [("layer", 5)]) (g := (gName 5)) (tt := tYes) (by rfl) sc_picture_of.nd (pi_tup (pv 2)) (blkOk_by (own := [("layer", 5)]) (N := ["sheet", "moment", "layers", "window", "drawings", "layer"]) (sc := defScope s_picture_of) (by decide +kernel)) (fun _ _ _ _ _ => (pg_name (i := 5) sc_picture_of.nd rfl (Or.inl rfl))) (fun _ _ _ _ _ => pts_nil) (fun _ _ _ _ _ => (pe_own D_drawing_of (hr.mono (by omega)) (by rfl) (pa_cons (pv 5) (pa_cons (pv 1) pa_nil))))) pa_nil)))
      (pss_one (ps_ret (pe_tup (pa_cons (pv 4) (pa_cons (pe_own D_place_of (hr.mono (by omega)) (by rfl) (pa_cons (pv 3) (pa_cons (pv 1) pa_nil))) pa_nil))))))), ?_⟩
    refine ⟨_, rfl, p, _, rfl, hp, rfl, _, _, rfl, _, _, rfl, rfl, ?_⟩
    refine ⟨_, rfl, pl, rfl, ⟨_, hq⟩, fun D hD => ?_⟩
    refine lcmap_tup ((ls.map fun l => shown l.1 l.2 m).map V.int) (by simp [hl]) (by omega) hq hD (fun i x y H2 R Z hx hy s2 hR => ?_) (fun H2 s2 hL => ?_)
    · obtain ⟨l, hl1, hly⟩ := Paired.at pd hx
      have ey : y = .int (shown l.1 l.2 m) := by
        rw [List.map_map, List.getElem?_map, hl1] at hy
        exact (Option.some.inj hy).symm
      subst ey
      have vl1 := vl l (List.mem_of_getElem? hl1)
      exact ⟨rfl, yes_ok ⟨_, rfl, _, rfl, x, l.1, l.2, m, rfl, LayAt.keep (Same.tk s2) hly, vl1.1, vl1.2, hR⟩⟩
    · refine ⟨D, _, rfl, .inl ⟨.inl (.inl hL), fun b nb => ?_⟩⟩
      obtain ⟨s3, e3⟩ := new_at (.tup ((ls.map fun l => shown l.1 l.2 m).map V.int)) nb
      refine ⟨_, rfl, _, rfl, _, rfl, wv, x, y, ms, m, rfl, hw.keep (Same.tk (s2.trans s3)), vw, m0, fun H4 v4 s4 p4 => ⟨(by show 2 ≤ sizeLine; decide), fun p5 np5 => ?_⟩⟩
      have s5 := same_upd (o := .tup [.ref b, v4]) np5
      exact q _ _ (((s2.trans s3).trans s4).trans s5) ⟨p5, b, v4, rfl, .inl (.inl upd_same), .inl (.inl (s5 _ _ (s4 _ _ e3))), p4.keep (Same.tk s5)⟩
def sp_picture_at (K : PySem.W.Frag) : Sp := fun vs H Q _ => ∃ (v : V) (ls : List LY) (x y : Int) (ms : List MV) (m : Int), vs = [v, .int m] ∧ ShAt K H v ls x y ms ∧ VLays ls ∧ VWin x y ms ∧ 0 ≤ m ∧ m ≤ 1000000000 ∧ ∀ H' v, Same H H' → PicAt K H' v (pic ls x y ms m) → Q v H'
theorem ok_picture_at {f : Addr} {fd : FuncData} {c : Nat → Addr} (F : Fun K "picture_at" "picture_at" s_picture_at f fd) (T : Txt K mg) (D_need_sheet : Cl P w K mg base 7 "need_sheet" ["thing"] (sp_need_sheet K)) (D_need_moment : ClX P w K mg base 3 "need_moment" ["thing"] (sp_need_moment K c)) (D_picture_of : Cl P w K mg base 5 "picture_of" ["sheet", "moment"] (sp_picture_of K)) : FnOk P w K mg base CX0 8 f fd ["sheet", "moment"] (sp_picture_at K) := by
  refine F.ok sc_picture_at (fun vs H Q E h => ?_) (fun cdv A outer s H vs Q E hr h => ?_)
  · obtain ⟨v, ls, x, y, ms, m, rfl, _⟩ := h
    rfl
  · obtain ⟨v, ls, x, y, ms, m, rfl, hsh, vL, vw, m0, m1, q⟩ := h
    refine ⟨_, (pss_cons (ps_expr (pe_own D_need_sheet (hr.mono (by omega)) (by rfl) (pa_cons (pv 0) pa_nil)))
      (pss_cons (ps_expr (pe_ownX D_need_moment (hr.mono (by omega)) takes0 (by rfl) (pa_cons (pv 1) pa_nil)))
      (pss_one (ps_ret (pe_own D_picture_of (hr.mono (by omega)) (by rfl) (pa_cons (pv 0) (pa_cons (pv 1) pa_nil))))))), ?_⟩
    refine ⟨_, rfl, v, ls, x, y, ms, rfl, hsh, vL, vw, fun H1 s1 => ?_⟩
    refine ⟨_, rfl, (fun _ => none), false, .int m, .int m, rfl, .int m, fun _ => ?_, fun e => absurd e (by rw [show isW (.int m) 0 1000000000 = true from decide_eq_true ⟨m0, m1⟩]; decide)⟩
    exact ⟨_, rfl, _, rfl, v, ls, x, y, ms, m, rfl, hsh.keep (Same.tk s1), vL, vw, m0, fun H2 v2 s2 r2 => q _ _ (s1.trans s2) r2⟩
end

theorem nt_len {n : Int} (h : n.natAbs ≤ 1000000000) : (nT n).length ≤ 60 := (it_len h).1
theorem nt_log {n : Int} (h : n.natAbs ≤ 1000000000) : n.natAbs.log2 < 1920 := (it_len h).2
theorem spT_len {ns : List Int} (ll : ns.length ≤ 300) (lg : ∀ n ∈ ns, n.natAbs ≤ 1000000000) : (spT ns).length ≤ 300 * 61 := join_len (by decide) (fun p hp => by
  obtain ⟨n, hn, rfl⟩ := List.mem_map.mp hp
  exact nt_len (lg n hn)) (by rw [List.length_map]; exact ll)
theorem nts_at {ns : List Int} {i : Nat} {x y : V} (hx : (ns.map V.int)[i]? = some x) (hy : ((ns.map nT).map V.str)[i]? = some y) : ∃ n, x = .int n ∧ y = .str (nT n) ∧ n ∈ ns := by
  rw [List.getElem?_map] at hx hy
  rw [List.getElem?_map] at hy
  cases e : ns[i]? with
  | none => rw [e] at hx; cases hx
  | some n =>
    rw [e] at hx hy
    exact ⟨n, (Option.some.inj hx).symm, (Option.some.inj hy).symm, List.mem_of_getElem? e⟩
theorem sj (a b : Str) {m n : Nat} (ha : a.length ≤ m) (hb : b.length ≤ n) (h : m + n ≤ sizeLine := by decide) : (a ++ b).length ≤ sizeLine := Nat.le_trans (js_len ha hb) h
def SmR (p : RW) : Prop := p.1.natAbs ≤ 1000000000 ∧ p.2.natAbs ≤ 1000000000
theorem frT_len {p : RW} (h : SmR p) : (frT p).length ≤ 121 := js_len (js_len (js_len (show Str.empty.length ≤ 0 by decide) (nt_len h.1)) (show ("/" : Str).length ≤ 1 by decide)) (nt_len h.2)
section
variable {P : Program} {w : World} {K : PySem.W.Frag} {mg : Str → Option Value} {base : Heap}
def sp_spaced (K : PySem.W.Frag) : Sp := fun vs H Q _ => ∃ (A : Addr) (ns : List Int), vs = [.ref A] ∧ (SqT K H A (ns.map V.int) ∨ SqL K H A (ns.map V.int)) ∧ ns.length ≤ 300 ∧ (∀ n ∈ ns, n.natAbs ≤ 1000000000) ∧ ∀ H', Same H H' → Q (.str (spT ns)) H'
theorem ok_spaced {f : Addr} {fd : FuncData} (F : Fun K "spaced" "spaced" s_spaced f fd) (T : Txt K mg) : FnOk P w K mg base CX0 1 f fd ["numbers"] (sp_spaced K) := by
  refine F.ok sc_spaced (fun vs H Q E h => ?_) (fun cdv A outer s H vs Q E hr h => ?_)
  · obtain ⟨A, ns, rfl, _⟩ := h
    rfl
  · obtain ⟨A, ns, rfl, hA, ll, lg, q⟩ := h
    have bd : ((ns.map nT).map (·.length)).sum + (ns.map nT).length * (" " : Str).length ≤ sizeLine := Nat.le_trans (join_bound (n := 300) (B := 60) (by decide) (fun p hp => by
      obtain ⟨n, hn, rfl⟩ := List.mem_map.mp hp
      exact nt_len (lg n hn)) (by rw [List.length_map]; exact ll)) (by decide)
    rcases hA with hA | hA
    · clear bd
      have bd : ((ns.map nT).map (·.length)).sum + (ns.map nT).length * (" " : Str).length ≤ sizeLine := Nat.le_trans (join_bound (n := 300) (B := 60) (by decide) (fun p hp => by
        obtain ⟨n, hn, rfl⟩ := List.mem_map.mp hp
        exact nt_len (lg n hn)) (by rw [List.length_map]; exact ll)) (by decide)
      refine ⟨_, (pss_one (ps_ret (pe_bm PySem.F.plainAttrs_str PySem.F.slot_str_join PySem.F.type_str_join mt_join pe_str (pa_cons (pe_lc (own := [("number", 1)]) (g := (gName 1)) (tt := tYes) (by rfl) sc_spaced.nd (pi_tup (pv 0)) (blkOk_by (own := [("number", 1)]) (N := ["numbers", "number"]) (sc := defScope s_spaced) (by decide +kernel)) (fun _ _ _ _ _ => (pg_name (i := 1) sc_spaced.nd rfl (Or.inl rfl))) (fun _ _ _ _ _ => pts_nil) (fun _ _ _ _ _ => (pe_callTy call_str_int (by rfl) T.b_str (by decide +kernel) (pa_cons (pv 1) pa_nil)))) pa_nil)))), ?_⟩
      refine ⟨rfl, _, rfl, A, rfl, ⟨_, hA⟩, fun D hD => ?_⟩
      refine lcmap_tup (xs := ns.map V.int) ((ns.map nT).map V.str) (by simp) (by rw [List.length_map]; omega) hA hD (fun i x y H2 R Z hx hy s2 hR => ?_) (fun H2 s2 hL => ?_)
      · obtain ⟨n, rfl, rfl, hn⟩ := nts_at hx hy
        exact ⟨rfl, yes_ok ⟨_, rfl, n, rfl, nt_log (lg n hn), hR _ (Same.refl _)⟩⟩
      · exact ⟨_, D, _, rfl, rfl, .inl (.inl (.inl hL)), bd, q _ s2⟩
    · have bd : ((ns.map nT).map (·.length)).sum + (ns.map nT).length * (" " : Str).length ≤ sizeLine := bd
      refine ⟨_, (pss_one (ps_ret (pe_bm PySem.F.plainAttrs_str PySem.F.slot_str_join PySem.F.type_str_join mt_join pe_str (pa_cons (pe_lc (own := [("number", 1)]) (g := (gName 1)) (tt := tYes) (by rfl) sc_spaced.nd (pi_list (pv 0)) (blkOk_by (own := [("number", 1)]) (N := ["numbers", "number"]) (sc := defScope s_spaced) (by decide +kernel)) (fun _ _ _ _ _ => (pg_name (i := 1) sc_spaced.nd rfl (Or.inl rfl))) (fun _ _ _ _ _ => pts_nil) (fun _ _ _ _ _ => (pe_callTy call_str_int (by rfl) T.b_str (by decide +kernel) (pa_cons (pv 1) pa_nil)))) pa_nil)))), ?_⟩
      refine ⟨rfl, _, rfl, A, rfl, ⟨_, hA⟩, fun D hD => ?_⟩
      refine lcmap_list (xs := ns.map V.int) ((ns.map nT).map V.str) (by simp) (by rw [List.length_map]; omega) hA hD (fun i x y H2 R Z hx hy s2 hR => ?_) (fun H2 s2 hL => ?_)
      · obtain ⟨n, rfl, rfl, hn⟩ := nts_at hx hy
        exact ⟨rfl, yes_ok ⟨_, rfl, n, rfl, nt_log (lg n hn), hR _ (Same.refl _)⟩⟩
      · exact ⟨_, D, _, rfl, rfl, .inl (.inl (.inl hL)), bd, q _ s2⟩
def sp_picture_text (K : PySem.W.Frag) : Sp := fun vs H Q _ => ∃ (v : V) (c : PIC), vs = [v] ∧ PicAt K H v c ∧ c.1.length ≤ 4 ∧ (∀ n ∈ c.1, n.natAbs ≤ 1000000000) ∧ SmR c.2.1 ∧ SmR c.2.2 ∧ ∀ H', Same H H' → Q (.str (picT c)) H'
theorem ok_picture_text {f : Addr} {fd : FuncData} (F : Fun K "picture_text" "picture_text" s_picture_text f fd) (T : Txt K mg) (D_spaced : Cl P w K mg base 1 "spaced" ["numbers"] (sp_spaced K)) : FnOk P w K mg base CX0 2 f fd ["picture"] (sp_picture_text K) := by
  refine F.ok sc_picture_text (fun vs H Q E h => ?_) (fun cdv A outer s H vs Q E hr h => ?_)
  · obtain ⟨v, c, rfl, _⟩ := h
    rfl
  · obtain ⟨v, c, rfl, ⟨a, b, v2, rfl, ha, hb, ⟨pl, v3, v4, rfl, hpl, ⟨t3, rfl, h3⟩, ⟨t4, rfl, h4⟩⟩⟩, l4, lg, r1, r2, q⟩ := h
    refine ⟨_, (pss_cons (ps_asg (pv 0) (pg_tup (by rfl) (pgs_cons (pg_name (i := 1) sc_picture_text.nd rfl (Or.inl rfl)) (pgs_cons (pg_name (i := 2) sc_picture_text.nd rfl (Or.inl rfl)) pgs_nil))))
      (pss_cons (ps_set (i := 3) sc_picture_text.nd rfl (Or.inl rfl) (pe_bm PySem.F.plainAttrs_str PySem.F.slot_str_join PySem.F.type_str_join mt_join pe_str (pa_cons (pe_lc (own := [("top", 4), ("bottom", 5)]) (g := (gTup _ 2 (gCons (gName 4) (gCons (gName 5) gNil)))) (tt := tYes) (by rfl) sc_picture_text.nd (pi_tup (pv 2)) (blkOk_by (own := [("top", 4), ("bottom", 5)]) (N := ["picture", "drawings", "place", "fractions", "top", "bottom"]) (sc := defScope s_picture_text) (by decide +kernel)) (fun _ _ _ _ _ => (pg_tup (by rfl) (pgs_cons (pg_name (i := 4) sc_picture_text.nd rfl (Or.inl rfl)) (pgs_cons (pg_name (i := 5) sc_picture_text.nd rfl (Or.inl rfl)) pgs_nil)))) (fun _ _ _ _ _ => pts_nil) (fun _ _ _ _ _ => (pe_joined (.cons (pe_fmt (pv 4)) (.cons pe_str (.cons (pe_fmt (pv 5)) .nil)))))) pa_nil)))
      (pss_one (ps_ret (pe_joined (.cons (pe_fmt (pe_own D_spaced (hr.mono (by omega)) (by rfl) (pa_cons (pv 1) pa_nil))) (.cons pe_str (.cons (pe_fmt (pv 3)) .nil)))))))), ?_⟩
    refine ⟨_, rfl, a, _, rfl, ha, rfl, _, _, rfl, _, _, rfl, rfl, ?_⟩
    refine ⟨rfl, _, rfl, pl, rfl, ⟨_, hpl⟩, fun D hD => ?_⟩
    have one : ∀ {t : Addr} {p : RW} {H2 : Hp} {R : V → Hp → Prop} {Z : Hp → Prop} {σ : L2.St}, SmR p → True := fun _ => trivial
    refine lcmap_tup (te := fun σ H Q => tJs [tFmt (tVar 4), tC (.str "/"), tFmt (tVar 5)] Str.empty σ H fun out H1 => Q (.str out) H1) (xs := [.ref t3, .ref t4]) ([frT c.2.1, frT c.2.2].map V.str) rfl (by show 2 ≤ 1000; decide) hpl hD (fun i x y H2 R Z hx hy s2 hR => ?_) (fun H2 s2 hL => ?_)
    · obtain ⟨t, p, rfl, rfl, ht, hp⟩ : ∃ t p, x = .ref t ∧ y = .str (frT p) ∧ SqT K H2 t [.int p.1, .int p.2] ∧ SmR p := by
        match i, hx, hy with
        | 0, hx, hy => cases hx; cases hy; exact ⟨t3, _, rfl, rfl, Same.sqT s2 h3, r1⟩
        | 1, hx, hy => cases hx; cases hy; exact ⟨t4, _, rfl, rfl, Same.sqT s2 h4, r2⟩
        | k + 2, hx, hy => cases hx
      refine ⟨t, _, rfl, ht, rfl, _, _, rfl, _, _, rfl, rfl, rfl, yes_ok ?_⟩
      have le : Str.empty.length ≤ 0 := by decide
      have e1 : (Str.empty ++ nT p.1).length ≤ 0 + 60 := js_len le (nt_len hp.1)
      have e2 : ((Str.empty ++ nT p.1) ++ "/").length ≤ 0 + 60 + 1 := js_len e1 (show ("/" : Str).length ≤ 1 by decide)
      exact ⟨_, rfl, .inr ⟨p.1, rfl, nt_log hp.1, _, rfl, Nat.le_trans e1 (by decide), _, rfl, Nat.le_trans e2 (by decide), _, rfl, .inr ⟨p.2, rfl, nt_log hp.2, _, rfl, Nat.le_trans (js_len e2 (nt_len hp.2)) (by decide), hR _ (Same.refl _)⟩⟩⟩
    have lf : (Txt.join " " [frT c.2.1, frT c.2.2]).length ≤ 2 * 122 := join_len (by decide) (fun p hp => by
      rcases mem2 hp with rfl | rfl
      · exact frT_len r1
      · exact frT_len r2) (by show 2 ≤ 2; decide)
    refine ⟨_, D, _, rfl, rfl, .inl (.inl (.inl hL)), ?_, ?_⟩
    · exact Nat.le_trans (join_bound (n := 2) (B := 121) (by decide) (fun p hp => by
        rcases mem2 hp with rfl | rfl
        · exact frT_len r1
        · exact frT_len r2) (by show 2 ≤ 2; decide)) (by decide)
    have ls := spT_len (ns := c.1) (by omega) lg
    have le : Str.empty.length ≤ 0 := by decide
    have e1 : (Str.empty ++ spT c.1).length ≤ 0 + 300 * 61 := js_len le ls
    have e2 : ((Str.empty ++ spT c.1) ++ " at ").length ≤ 0 + 300 * 61 + 4 := js_len e1 (show (" at " : Str).length ≤ 4 by decide)
    exact ⟨_, rfl, b, c.1, rfl, .inl (Same.sqT s2 hb), by omega, lg, fun H3 s3 => .inl ⟨_, rfl, Nat.le_trans ls (by decide), _, rfl, Nat.le_trans e1 (by decide), _, rfl, Nat.le_trans e2 (by decide), _, rfl, .inl ⟨_, rfl, Nat.le_trans lf (by decide), _, rfl, Nat.le_trans (js_len e2 lf) (by decide), q _ (s2.trans s3)⟩⟩⟩
def sp_numbers_behind (K : PySem.W.Frag) (CT : Nat → Addr) : Sp := fun vs H Q _ => ∃ z : Str, vs = [.str z] ∧ Q (bkV (nbW z)) H
theorem ok_numbers_behind {f : Addr} {fd : FuncData} (F : Fun K "numbers_behind" "numbers_behind" s_numbers_behind f fd) (T : Txt K mg) {CT : Nat → Addr} (TC : ClT K w mg CT) : FnOk P w K mg base CX0 1 f fd ["word"] (sp_numbers_behind K CT) := by
  refine F.ok sc_numbers_behind (fun vs H Q E h => ?_) (fun cdv A outer s H vs Q E hr h => ?_)
  · obtain ⟨z, rfl, _⟩ := h
    rfl
  · obtain ⟨z, rfl, q⟩ := h
    refine ⟨_, (pss_cons (ps_if (pt_cmpR (kd_in TC.pk) (pv 0) (pe_gref (by rfl) TC.gP) (by rfl)) (pss_one (ps_ret (pe_callB call_len_seq (by rfl) T.b_len (by decide +kernel) (pa_cons (pe_ix (kd_item TC.pk) (pe_gref (by rfl) TC.gP) (pv 0) (fun _ _ => rfl)) pa_nil)))) pss_nil)
      (pss_one (ps_ret (pe_kget TC.kN (pe_gref (by rfl) TC.gN) (pv 0) ⟨rfl, rfl, rfl, rfl⟩)))), ?_⟩
    cases hp : partsOf z with
    | some ps =>
      obtain ⟨tp, hns, hsq⟩ := TC.p1 z ps hp
      rw [nbW_some hp] at q
      refine ⟨_, rfl, z, some (.ref tp), rfl, rfl, hns, _, rfl, iteT ⟨_, rfl, z, .ref tp, .ref tp, rfl, rfl, hns, rfl, tp, _, rfl, .inr (hsq H), ?_⟩⟩
      rw [List.length_map]
      exact q
    | none =>
      rw [nbW_none hp] at q
      refine ⟨_, rfl, z, none, rfl, rfl, TC.p0 z hp, _, rfl, iteF ?_⟩
      cases hn : nbOf z with
      | none =>
        rw [hn] at q
        exact ⟨rfl, _, rfl, z, none, .non, rfl, TC.n0 z hn, rfl, q⟩
      | some n =>
        rw [hn] at q
        obtain ⟨t, ht⟩ := TC.n1' z n hn
        exact ⟨rfl, _, rfl, z, some (.int n t), .int n, rfl, ht, ⟨t, rfl⟩, q⟩
theorem scal_bk (n : Int) (o : Option Int) : scal (.int n) (bkV o) = true := by
  cases o <;> rfl
def sp_read_row (K : PySem.W.Frag) (c : Nat → Addr) (CT : Nat → Addr) : Sp := fun vs H Q E => ∃ v, vs = [v] ∧ ((∃ (z w : Str) (r : List Str), v = .str z ∧ z.length ≤ 900 ∧ Txt.split z " " = w :: r ∧ (rowOkW w r = true → ∀ H' t L, Same H H' → SqT K H' t [.str w, .ref L] → H L = none → H' L = some (.lst ((r.map iv).map V.int)) → Q (.ref t) H') ∧ (rowOkW w r = false → ∀ H', Same H H' → E (.ref (c 13)) none H')) ∨
  (∃ (fx : Hp) (b : Bool) (d : PyData), Dg K fx H b v d ∧ isS d = false ∧ ∀ H', Same H H' → E (.ref (c 13)) none H'))
theorem ok_read_row {f : Addr} {fd : FuncData} {c : Nat → Addr} {LE : Addr} (F : Fun K "read_row" "read_row" s_read_row f fd) (T : Txt K mg) (TX : ExcN K mg c LE) {CT : Nat → Addr} (TC : ClT K w mg CT) (D_numbers_behind : Cl P w K mg base 1 "numbers_behind" ["word"] (sp_numbers_behind K CT)) (D_writes_number : Cl P w K mg base 1 "writes_number" ["word"] (sp_writes_number K)) : FnOk P w K mg base (L2.CX P w) 2 f fd ["row"] (sp_read_row K c CT) := by
  refine F.okX sc_read_row (fun vs H Q E h => ?_) (fun cdv A outer s H vs Q E hr h => ?_)
  · obtain ⟨v, rfl, _⟩ := h
    rfl
  · obtain ⟨v, rfl, h⟩ := h
    refine ⟨_, (pss_cons (ps_set (i := 1) sc_read_row.nd rfl (Or.inl rfl) (pe_ifExp (pt_val (pe_callB call_isi (by rfl) T.b_isinstance (by decide +kernel) (pa_cons (pv 0) (pa_cons (pe_bltn (v := .ty "str") (by rfl) T.b_str (by decide +kernel) rfl) pa_nil)))) (pe_bm PySem.F.plainAttrs_str PySem.F.slot_str_split PySem.F.type_str_split mt_split (pv 0) (pa_cons pe_str pa_nil)) (pe_lst (pa_cons pe_str pa_nil))))
      (pss_cons (ps_asg (pv 1) (pg_starL (by rfl) (pg_name (i := 2) sc_read_row.nd rfl (Or.inl rfl)) (pg_name (i := 3) sc_read_row.nd rfl (Or.inl rfl))))
      (pss_cons (ps_if (PW.pt (pw_or (pt_cmpR op_ne (pe_callB call_len_seq (by rfl) T.b_len (by decide +kernel) (pa_cons (pv 3) pa_nil)) (pe_own D_numbers_behind (hr.mono (by omega)) (by rfl) (pa_cons (pv 2) pa_nil)) (nomark _)) (pw_or1 (pt_not (pt_val (pe_callB (cr_all rfl) (by rfl) T.b_all (by decide +kernel) (pa_cons (pe_lc (own := [("each", 4)]) (g := (gName 4)) (tt := tYes) (by rfl) sc_read_row.nd (pi_list (pv 3)) (blkOk_by (own := [("each", 4)]) (N := ["row", "words", "word", "rest", "each"]) (sc := defScope s_read_row) (by decide +kernel)) (fun _ _ _ _ _ => (pg_name (i := 4) sc_read_row.nd rfl (Or.inl rfl))) (fun _ _ _ _ _ => pts_nil) (fun _ _ _ _ _ => (pe_own D_writes_number (hr.mono (by omega)) (by rfl) (pa_cons (pv 4) pa_nil)))) pa_nil))))))) (pss_one (ps_raise rfl (takes_of rfl rfl rfl rfl) (pmk_own PySem.F.excBase_ValueError (TX.nw 13 (by decide)) (TX.g 13 "NoWords" rfl) (TX.kp 13 (by decide)) (TX.rs (i := 13) (by decide)) rfl))) pss_nil)
      (pss_one (ps_ret (pe_tup (pa_cons (pv 2) (pa_cons (pe_lc (own := [("each", 4)]) (g := (gName 4)) (tt := tYes) (by rfl) sc_read_row.nd (pi_list (pv 3)) (blkOk_by (own := [("each", 4)]) (N := ["row", "words", "word", "rest", "each"]) (sc := defScope s_read_row) (by decide +kernel)) (fun _ _ _ _ _ => (pg_name (i := 4) sc_read_row.nd rfl (Or.inl rfl))) (fun _ _ _ _ _ => pts_nil) (fun _ _ _ _ _ => (pe_callTy call_int_str (by rfl) T.b_int (by decide +kernel) (pa_cons (pv 4) pa_nil)))) pa_nil)))))))), ?_⟩
    rcases h with ⟨z, x, r, rfl, hz, hsp, q1, q2⟩ | ⟨fx, b, d, hd, hn, q⟩
    rotate_left 1
    · refine ⟨_, rfl, _, _, _, _, false, rfl, .ty _, Dg.ty hd, kit_ty (by rw [kS, hn]), _, rfl, iteF ⟨(by show 1 ≤ sizeLine; decide), fun L nL => ?_⟩⟩
      obtain ⟨s1, e1⟩ := new_at (.lst [.str ""]) nL
      generalize upd H L (.lst [.str ""]) = H1 at s1 e1 ⊢
      refine ⟨_, rfl, L, .str "", [], rfl, .inl (.inl e1), Nat.zero_le _, fun R nR => ?_⟩
      obtain ⟨s2, e2⟩ := new_at (.lst []) nR
      generalize upd H1 R (.lst []) = H2 at s2 e2 ⊢
      refine ⟨_, rfl, R, [], rfl, .inl (.inl (.inl e2)), _, rfl, "", rfl, ?_⟩
      rw [show nbW "" = none by decide +kernel]
      exact ⟨rfl, _, rfl, iteT (q _ (s1.trans s2))⟩
    · have lsp : (Txt.split z " ").length ≤ 902 := Nat.le_trans (split_le z " ") (by omega)
      rw [hsp] at lsp
      have lr : r.length ≤ 901 := Nat.le_of_succ_le_succ lsp
      refine ⟨_, rfl, _, _, _, _, true, rfl, .ty _, .base (.str _), kit_ty (by decide +kernel), _, rfl, iteT ⟨_, rfl, rfl, z, " ", rfl, rfl, by decide, Nat.le_trans (Nat.add_le_add_right hz 2) (by decide), fun L nL => ?_⟩⟩
      rw [hsp]
      obtain ⟨s1, e1⟩ := new_at (.lst ((x :: r).map V.str)) nL
      generalize upd H L (.lst ((x :: r).map V.str)) = H1 at s1 e1 ⊢
      refine ⟨_, rfl, L, .str x, r.map V.str, rfl, .inl (.inl e1), by rw [List.length_map]; omega, fun R nR => ?_⟩
      obtain ⟨s2, e2⟩ := new_at (.lst (r.map V.str)) nR
      generalize upd H1 R (.lst (r.map V.str)) = H2 at s2 e2 ⊢
      have s12 := s1.trans s2
      have part : ∀ p ∈ r, p.length ≤ 900 := fun p hp => Nat.le_trans (part_short (x := z) (y := " ") (by rw [hsp]; exact List.mem_cons_of_mem _ hp)) hz
      refine ⟨_, rfl, R, r.map V.str, rfl, .inl (.inl (.inl e2)), _, rfl, x, rfl, scal_bk _ _, _, rfl, ite2 (fun e => ?_) (fun e => ?_)⟩
      · refine q2 ?_ _ s12
        unfold rowOkW
        rw [decide_eq_false fun h => ?_, Bool.false_and]
        rw [h, List.length_map] at e
        exact absurd e (by rw [show decide (V.int (r.length : Int) = bkV (some (r.length : Int))) = true from decide_eq_true rfl]; exact fun z => nomatch z)
      · have hnb : nbW x = some (r.length : Int) := by
          have e' : V.int ((r.map V.str).length : Int) = bkV (nbW x) := Classical.byContradiction fun hne => by
            exact e (by rw [decide_eq_false hne]; rfl)
          rw [List.length_map] at e'
          cases hb : nbW x with
          | none => rw [hb] at e'; cases e'
          | some k => rw [hb] at e'; exact congrArg some (V.int.inj e').symm
        refine ⟨_, rfl, R, rfl, ⟨_, .inl (.inl e2)⟩, fun D nD => ?_⟩
        refine lcmap_list (xs := r.map V.str) ((r.map wrN).map V.bl) (by simp) (by rw [List.length_map]; omega) (.inl (.inl e2)) nD (fun i u y H3 R2 Z hx hy s3 hR => ?_) (fun H3 s3 hL => ?_)
        · obtain ⟨p, hp, rfl⟩ := list_str2 hx
          rw [List.getElem?_map, List.getElem?_map, hp] at hy
          cases hy
          exact ⟨rfl, yes_ok ⟨_, rfl, p, rfl, Nat.le_trans (part p (List.mem_of_getElem? hp)) (by decide), hR _ (Same.refl _)⟩⟩
        · refine ⟨D, r.map wrN, rfl, .inl (.inl hL), ?_⟩
          have ea : (r.map wrN).all id = r.all wrN := by rw [List.all_map]; rfl
          cases ha : r.all wrN with
          | false =>
            rw [ha] at ea
            refine ⟨_, rfl, ?_⟩
            rw [ea]
            exact iteT (q2 (by unfold rowOkW; rw [ha, Bool.and_false]) _ (s12.trans s3))
          | true =>
            rw [ha] at ea
            refine ⟨_, rfl, ?_⟩
            rw [ea]
            have e3 := s3 _ _ e2
            refine iteF ⟨_, rfl, _, rfl, R, rfl, ⟨_, .inl (.inl e3)⟩, fun G nG => ?_⟩
            refine lcmap_list (xs := r.map V.str) ((r.map iv).map V.int) (by simp) (by rw [List.length_map]; omega) (.inl (.inl e3)) nG (fun i u y H4 R2 Z hx hy s4 hR => ?_) (fun H4 s4 hL4 => ?_)
            · obtain ⟨p, hp, rfl⟩ := list_str2 hx
              rw [List.getElem?_map, List.getElem?_map, hp] at hy
              cases hy
              have g := of_decide_eq_true (List.all_eq_true.mp ha p (List.mem_of_getElem? hp))
              have l31 : p.length ≤ 31 := Nat.le_trans (len_figs p) (by have := g.2; omega)
              exact ⟨rfl, yes_ok ⟨_, rfl, p, iv p, rfl, iv_int g.1 (Nat.le_trans l31 (by decide)), Nat.le_trans l31 (by decide), hR _ (Same.refl _)⟩⟩
            · refine ⟨(by show 2 ≤ sizeLine; decide), fun t nt => ?_⟩
              have s5 := same_upd (o := .tup [.str x, .ref G]) nt
              have s13 := s12.trans s3
              exact q1 (by unfold rowOkW; rw [decide_eq_true hnb, ha]; rfl) _ t G ((s13.trans s4).trans s5) (.inl (.inl upd_same)) (s13.free nG) (s5 _ _ hL4)
end

/-! ### the desk's answers -/
theorem walk9 : ∀ (rs : List RW) (m : Int), (∀ r ∈ rs, VRow r) → 0 ≤ walk rs m ∧ walk rs m ≤ 9
  | [], _, _ => ⟨by show (0 : Int) ≤ 0; decide, by show (0 : Int) ≤ 9; decide⟩
  | r :: t, m, v => by
    have v1 := v r List.mem_cons_self
    unfold walk
    split
    · exact ⟨v1.1, v1.2.1⟩
    · exact walk9 t _ fun q hq => v q (List.mem_cons_of_mem _ hq)
theorem shown9 {rs : List RW} (bk : Option Int) (m : Int) (v : ∀ r ∈ rs, VRow r) : (shown rs bk m).natAbs ≤ 1000000000 := by
  have := walk9 rs (near rs bk m) v
  unfold shown
  omega
theorem shlen_small {ls : List LY} {ms : List MV} {k : Int} (vL : VLays ls) (hm : ∀ m ∈ ms, VMove m) (h8 : ms.length ≤ 8) (h : ShLen ls (mtot ms) (some k)) : k.natAbs ≤ 1000000000 := by
  rcases h with ⟨_, h⟩ | ⟨_, m, h, hm', _⟩
  · cases h
  · cases h
    rcases List.mem_append.mp hm' with h | h
    · obtain ⟨l, hl, rfl⟩ := List.mem_map.mp h
      have v := (vL.2.2 l hl).1
      have h1 := tot_nonneg v.2
      have h2 := v.1
      omega
    · rw [List.mem_singleton.mp h]
      have h1 := mtot_nonneg hm
      omega
theorem lean_mem {ds : List (Int × Dd)} {k n : Int} (h : n ∈ leanL ds k) : ∃ x ∈ ds, x.1 = n := by
  unfold leanL at h
  obtain ⟨x, hx, e⟩ := List.mem_map.mp h
  exact ⟨x, (List.mem_filter.mp hx).1, e⟩
theorem lean_len2 {ds : List (Int × Dd)} {k : Int} : (leanL ds k).length ≤ ds.length := by
  unfold leanL
  rw [List.length_map]
  exact List.length_filter_le _ _
theorem RollC.keep {K : PySem.W.Frag} {CT : Nat → Addr} {H H' : Hp} {p D m L R B M : Addr} {n : Int} {ds : List (Int × Dd)} (h : RollC K CT H p D m L R B M n ds) (t : TKeep K H H') (k : ∀ y, (y = p ∨ y = D ∨ y = m ∨ y = L ∨ y = R ∨ y = B ∨ y = M) → ∀ o, H y = some o → H' y = some o) : RollC K CT H' p D m L R B M n ds := by
  obtain ⟨⟨dx, h1⟩, ⟨kvs, h2, h3⟩, h4, a, b, c⟩ := h
  exact ⟨⟨dx, k _ (.inl rfl) _ h1⟩, ⟨kvs, k _ (.inr (.inl rfl)) _ h2, AsP.mono (fun _ _ => DeedAt.keep t) h3⟩, h4.keep t (k _ (.inr (.inr (.inl rfl)))) (k _ (.inr (.inr (.inr (.inl rfl))))) (k _ (.inr (.inr (.inr (.inr (.inl rfl)))))) (k _ (.inr (.inr (.inr (.inr (.inr (.inl rfl))))))) (k _ (.inr (.inr (.inr (.inr (.inr (.inr rfl))))))), a, b, c⟩
def fK (p : Addr) : List (Str × V) := [("roll", .ref p)]
theorem fK_roll {p : Addr} : (fK p).lookup ("roll" : Str) = some (.ref p) := rfl
/-- a Desk at d with its Roll -/
structure DeskC (K : PySem.W.Frag) (CT : Nat → Addr) (H : Hp) (d p D m L R B M : Addr) (n : Int) (ds : List (Int × Dd)) : Prop where
  ob : ∃ dx, H d = some (.ins (CT 2) dx (fK p))
  rc : RollC K CT H p D m L R B M n ds
  np : d ≠ p
theorem DeskC.same {K : PySem.W.Frag} {CT : Nat → Addr} {H H' : Hp} {d p D m L R B M : Addr} {n : Int} {ds : List (Int × Dd)} (h : DeskC K CT H d p D m L R B M n ds) (s : Same H H') : DeskC K CT H' d p D m L R B M n ds := by
  obtain ⟨⟨dx, h1⟩, h2, a⟩ := h
  exact ⟨⟨dx, s _ _ h1⟩, h2.same s, a⟩
theorem DkI.small {ds : List (Int × Dd)} {n : Int} {N : Nat} (I : DkI ds n N) (hN : N ≤ 300) : (mkS ds).small 900 := I.J.small (by omega)
theorem DkI.sheet {ds : List (Int × Dd)} {n : Int} {N : Nat} (I : DkI ds n N) (ne : (mkS ds).layers ≠ []) : VLays (sheetS (mkS ds)) ∧ VWin 0 0 (mkS ds).moves := roll_valid I.gd I.rm ne
def UndP (K : PySem.W.Frag) (c : Nat → Addr) (CT : Nat → Addr) (H : Hp) (E : XK) (Z : Hp → Prop) (p : Addr) (n : Int) (ds : List (Int × Dd)) (k : Int) : Prop :=
  (leanL ds k ≠ [] → ∀ H' dd t, Same H H' → H dd = none → H' dd = some (.xd [("numbers", .ref t)]) → SqT K H' t ((leanL ds k).map V.int) → E (.ref (c 15)) (some dd) H') ∧
    (leanL ds k = [] → WFd (asDrop ds k) ∧ (mkS (asDrop ds k)).nd ∧ (∀ a b', roomS (mkS (asDrop ds k)) = some (a, b') → ∀ H' d', Same H H' → H d' = none → H' d' = some (.xd [("most", .int b'), ("many", .int a)]) → E (.ref (c 14)) (some d') H') ∧
      (roomS (mkS (asDrop ds k)) = none → ∀ H' D' m' L' R' B' M', (∀ y o, y ≠ p → H y = some o → H' y = some o) → H D' = none → H L' = none → H M' = none → H m' = none → H R' = none → H B' = none → RollC K CT H' p D' m' L' R' B' M' n (asDrop ds k) → Z H'))
section
variable {P : Program} {w : World} {K : PySem.W.Frag} {mg : Str → Option Value} {base : Heap}
def sp_undone (K : PySem.W.Frag) (c : Nat → Addr) (CT : Nat → Addr) : Sp := fun vs H Q E => ∃ (p D m L R B M A : Addr) (n : Int) (ds : List (Int × Dd)) (k : Int), vs = [.ref p, .ref A] ∧ SqL K H A [.int k] ∧ RollC K CT H p D m L R B M n ds ∧ ds.length ≤ 300 ∧ (ds.map (·.1)).Nodup ∧ (stdD ds (.int k) = false → ∀ H', Same H H' → E (.ref (c 5)) none H') ∧ (stdD ds (.int k) = true → UndP K c CT H E (fun H' => Q (.str "ok") H') p n ds k)
theorem ok_undone {f : Addr} {fd : FuncData} {c : Nat → Addr} {LE : Addr} (F : Fun K "undone" "undone" s_undone f fd) (T : Txt K mg) (TX : ExcN K mg c LE) {CT : Nat → Addr} (TC : ClT K w mg CT) (D_Roll__undo : MlX P w K mg base 5 (CT 1) "undo" ["self", "number"] (sp_Roll__undo K c CT)) : FnOk P w K mg base (L2.CX P w) 6 f fd ["roll", "numbers"] (sp_undone K c CT) := by
  refine F.okX sc_undone (fun vs H Q E h => ?_) (fun cdv A outer s H vs Q E hr h => ?_)
  · obtain ⟨p, D, m, L, R, B, M, A, n, ds, k, rfl, _⟩ := h
    rfl
  · obtain ⟨p, D, m, L, R, B, M, A, n, ds, k, rfl, hA, rc, l3, nd, q0, q1⟩ := h
    obtain ⟨dx, hob⟩ := rc.ob
    refine ⟨_, (pss_cons (ps_expr (pe_mthX D_Roll__undo TC.cR (hr.mono (by omega)) (takes_of rfl rfl rfl rfl) (pv 0) (pa_cons (pe_ix ix_list (pv 1) pe_int (fun _ _ => rfl)) pa_nil)))
      (pss_one (ps_ret pe_str))), ?_⟩
    refine ⟨_, rfl, p, dx, _, rfl, hob, rfl, _, rfl, A, _, 0, _, rfl, rfl, hA, at0, p, D, m, L, R, B, M, n, ds, (fun _ => none), false, .int k, .int k, rfl, rc, l3, nd, .int k, q0, fun k' e hs => ?_⟩
    cases e
    exact q1 hs
def sp_written_sheet (K : PySem.W.Frag) (c : Nat → Addr) (CT : Nat → Addr) : Sp := fun vs H Q _ => ∃ (p D m L R B M A : Addr) (n : Int) (ds : List (Int × Dd)) (N : Nat), vs = [.ref p, .ref A] ∧ RollC K CT H p D m L R B M n ds ∧ DkI ds n N ∧ N ≤ 300 ∧ ((mkS ds).layers = [] → ∀ H', Same H H' → Q (.str "-") H') ∧ ((mkS ds).layers ≠ [] → ∀ H', Same H H' → Q (.str (shT (sheetS (mkS ds)) 0 0 (mkS ds).moves)) H')
theorem ok_written_sheet {f : Addr} {fd : FuncData} {c : Nat → Addr} {LE : Addr} (F : Fun K "written_sheet" "written_sheet" s_written_sheet f fd) (T : Txt K mg) (TX : ExcN K mg c LE) {CT : Nat → Addr} (TC : ClT K w mg CT) (D_Roll__sheet_now : Ml P w K mg base 4 (CT 1) "sheet_now" ["self"] (sp_Roll__sheet_now K CT)) (D_text_of : Cl P w K mg base 3 "text_of" ["sheet"] (sp_text_of K)) : FnOk P w K mg base (L2.CX P w) 5 f fd ["roll", "numbers"] (sp_written_sheet K c CT) := by
  refine F.okX sc_written_sheet (fun vs H Q E h => ?_) (fun cdv A outer s H vs Q E hr h => ?_)
  · obtain ⟨p, D, m, L, R, B, M, A, n, ds, N, rfl, _⟩ := h
    rfl
  · obtain ⟨p, D, m, L, R, B, M, A, n, ds, N, rfl, rc, I, hN, q0, q1⟩ := h
    obtain ⟨dx, hob⟩ := rc.ob
    refine ⟨_, (pss_cons (ps_set (i := 2) sc_written_sheet.nd rfl (Or.inl rfl) (pe_mth0 D_Roll__sheet_now TC.cR (hr.mono (by omega)) (pv 0)))
      (pss_one (ps_ret (pe_ifExp (pt_cmpR op_isN (pv 2) pe_non (nomark _)) (pe_gstr (by rfl) TC.gY) (pe_own D_text_of (hr.mono (by omega)) (by rfl) (pa_cons (pv 2) pa_nil)))))), ?_⟩
    refine ⟨_, rfl, p, dx, _, rfl, hob, rfl, p, D, m, L, R, B, M, n, ds, rfl, rc, I.small hN, lnk_nd I.J.wf I.J.nd, fun he H1 s1 => ?_, fun he H1 v s1 hsh => ?_⟩
    · exact ⟨_, rfl, rfl, _, rfl, iteT (q0 he _ s1)⟩
    · obtain ⟨vL, vw⟩ := I.sheet he
      refine ⟨_, rfl, rfl, _, rfl, ?_⟩
      obtain ⟨pv, lv, wv, rfl, hpv⟩ := hsh
      refine iteF ⟨_, rfl, .ref pv, _, _, _, _, rfl, ⟨pv, lv, wv, rfl, hpv⟩, vL, vw, fun H2 s2 => q1 he _ (s1.trans s2)⟩
def sp_written_length (K : PySem.W.Frag) (c : Nat → Addr) (CT : Nat → Addr) : Sp := fun vs H Q _ => ∃ (p D m L R B M A : Addr) (n : Int) (ds : List (Int × Dd)) (N : Nat), vs = [.ref p, .ref A] ∧ RollC K CT H p D m L R B M n ds ∧ DkI ds n N ∧ N ≤ 300 ∧ ((mkS ds).layers = [] → ∀ H', Same H H' → Q (.str "-") H') ∧ ((mkS ds).layers ≠ [] → ∀ H' r, Same H H' → ShLen (sheetS (mkS ds)) (mtot (mkS ds).moves) r → Q (.str (lenT r)) H')
theorem ok_written_length {f : Addr} {fd : FuncData} {c : Nat → Addr} {LE : Addr} (F : Fun K "written_length" "written_length" s_written_length f fd) (T : Txt K mg) (TX : ExcN K mg c LE) {CT : Nat → Addr} (TC : ClT K w mg CT) (D_Roll__sheet_now : Ml P w K mg base 4 (CT 1) "sheet_now" ["self"] (sp_Roll__sheet_now K CT)) (D_full_length : Cl P w K mg base 3 "full_length" ["sheet"] (sp_full_length K)) : FnOk P w K mg base (L2.CX P w) 5 f fd ["roll", "numbers"] (sp_written_length K c CT) := by
  refine F.okX sc_written_length (fun vs H Q E h => ?_) (fun cdv A outer s H vs Q E hr h => ?_)
  · obtain ⟨p, D, m, L, R, B, M, A, n, ds, N, rfl, _⟩ := h
    rfl
  · obtain ⟨p, D, m, L, R, B, M, A, n, ds, N, rfl, rc, I, hN, q0, q1⟩ := h
    obtain ⟨dx, hob⟩ := rc.ob
    refine ⟨_, (pss_cons (ps_set (i := 2) sc_written_length.nd rfl (Or.inl rfl) (pe_mth0 D_Roll__sheet_now TC.cR (hr.mono (by omega)) (pv 0)))
      (pss_cons (ps_if (pt_cmpR op_isN (pv 2) pe_non (nomark _)) (pss_one (ps_ret (pe_gstr (by rfl) TC.gY))) pss_nil)
      (pss_cons (ps_set (i := 3) sc_written_length.nd rfl (Or.inl rfl) (pe_own D_full_length (hr.mono (by omega)) (by rfl) (pa_cons (pv 2) pa_nil)))
      (pss_one (ps_ret (pe_ifExp (pt_cmpR op_isN (pv 3) pe_non (nomark _)) pe_str (pe_callTy call_str_int (by rfl) T.b_str (by decide +kernel) (pa_cons (pv 3) pa_nil)))))))), ?_⟩
    refine ⟨_, rfl, p, dx, _, rfl, hob, rfl, p, D, m, L, R, B, M, n, ds, rfl, rc, I.small hN, lnk_nd I.J.wf I.J.nd, fun he H1 s1 => ?_, fun he H1 v s1 hsh => ?_⟩
    · exact ⟨_, rfl, rfl, _, rfl, iteT (q0 he _ s1)⟩
    · obtain ⟨vL, vw⟩ := I.sheet he
      refine ⟨_, rfl, rfl, _, rfl, ?_⟩
      obtain ⟨pv, lv, wv, rfl, hpv⟩ := hsh
      refine iteF ⟨_, rfl, .ref pv, _, _, _, _, rfl, ⟨pv, lv, wv, rfl, hpv⟩, vL, vw, fun H2 r s2 hr => ?_⟩
      have q2 := q1 he _ r (s1.trans s2) hr
      cases r with
      | none => exact ⟨_, rfl, rfl, _, rfl, iteT q2⟩
      | some k => exact ⟨_, rfl, rfl, _, rfl, iteF ⟨_, rfl, k, rfl, nt_log (shlen_small vL vw.2.2.2 vw.2.2.1 hr), q2⟩⟩
def sp_written_picture (K : PySem.W.Frag) (c : Nat → Addr) (CT : Nat → Addr) : Sp := fun vs H Q E => ∃ (p D m L R B M A : Addr) (n : Int) (ds : List (Int × Dd)) (N : Nat) (k : Int), vs = [.ref p, .ref A] ∧ SqL K H A [.int k] ∧ RollC K CT H p D m L R B M n ds ∧ DkI ds n N ∧ N ≤ 300 ∧ (isW (.int k) 0 1000000000 = false → E (.ref (c 3)) none H) ∧
  (isW (.int k) 0 1000000000 = true → (mkS ds).layers = [] → ∀ H', Same H H' → Q (.str "-") H') ∧ (isW (.int k) 0 1000000000 = true → (mkS ds).layers ≠ [] → ∀ H', Same H H' → Q (.str (picT (pic (sheetS (mkS ds)) 0 0 (mkS ds).moves k))) H')
theorem ok_written_picture {f : Addr} {fd : FuncData} {c : Nat → Addr} {LE : Addr} (F : Fun K "written_picture" "written_picture" s_written_picture f fd) (T : Txt K mg) (TX : ExcN K mg c LE) {CT : Nat → Addr} (TC : ClT K w mg CT) (D_need_moment : ClX P w K mg base 3 "need_moment" ["thing"] (sp_need_moment K c)) (D_Roll__sheet_now : Ml P w K mg base 4 (CT 1) "sheet_now" ["self"] (sp_Roll__sheet_now K CT)) (D_picture_text : Cl P w K mg base 2 "picture_text" ["picture"] (sp_picture_text K)) (D_picture_of : Cl P w K mg base 5 "picture_of" ["sheet", "moment"] (sp_picture_of K)) : FnOk P w K mg base (L2.CX P w) 6 f fd ["roll", "numbers"] (sp_written_picture K c CT) := by
  refine F.okX sc_written_picture (fun vs H Q E h => ?_) (fun cdv A outer s H vs Q E hr h => ?_)
  · obtain ⟨p, D, m, L, R, B, M, A, n, ds, N, k, rfl, _⟩ := h
    rfl
  · obtain ⟨p, D, m, L, R, B, M, A, n, ds, N, k, rfl, hA, rc, I, hN, qx, q0, q1⟩ := h
    obtain ⟨dx, hob⟩ := rc.ob
    refine ⟨_, (pss_cons (ps_set (i := 2) sc_written_picture.nd rfl (Or.inl rfl) (pe_ix ix_list (pv 1) pe_int (fun _ _ => rfl)))
      (pss_cons (ps_expr (pe_ownX D_need_moment (hr.mono (by omega)) (takes_of rfl rfl rfl rfl) (by rfl) (pa_cons (pv 2) pa_nil)))
      (pss_cons (ps_set (i := 3) sc_written_picture.nd rfl (Or.inl rfl) (pe_mth0 D_Roll__sheet_now TC.cR (hr.mono (by omega)) (pv 0)))
      (pss_one (ps_ret (pe_ifExp (pt_cmpR op_isN (pv 3) pe_non (nomark _)) (pe_gstr (by rfl) TC.gY) (pe_own D_picture_text (hr.mono (by omega)) (by rfl) (pa_cons (pe_own D_picture_of (hr.mono (by omega)) (by rfl) (pa_cons (pv 3) (pa_cons (pv 2) pa_nil))) pa_nil)))))))), ?_⟩
    refine ⟨_, rfl, A, _, 0, _, rfl, rfl, hA, at0, _, rfl, (fun _ => none), false, .int k, .int k, rfl, .int k, fun e => ?_, fun e => qx e⟩
    refine ⟨_, rfl, p, dx, _, rfl, hob, rfl, p, D, m, L, R, B, M, n, ds, rfl, rc, I.small hN, lnk_nd I.J.wf I.J.nd, fun he H1 s1 => ?_, fun he H1 v s1 hsh => ?_⟩
    · exact ⟨_, rfl, rfl, _, rfl, iteT (q0 e he _ s1)⟩
    · obtain ⟨vL, vw⟩ := I.sheet he
      have k0 := (isW_int e).1
      refine ⟨_, rfl, rfl, _, rfl, ?_⟩
      obtain ⟨pv, lv, wv, rfl, hpv⟩ := hsh
      have ps := plc_small (mkS ds).moves 0 0 k (by decide) (by decide) k0 vw.2.2.2
      refine iteF ⟨_, rfl, _, rfl, .ref pv, _, _, _, _, k, rfl, ⟨pv, lv, wv, rfl, hpv⟩, vL, vw, k0, fun H2 v2 s2 pc => ⟨v2, _, rfl, pc, ?_, ?_, ?_, ?_, fun H3 s3 => q1 e he _ ((s1.trans s2).trans s3)⟩⟩
      · show ((sheetS (mkS ds)).map _).length ≤ 4
        rw [List.length_map]
        exact vL.2.1
      · intro x hx
        obtain ⟨l, hl, rfl⟩ := List.mem_map.mp hx
        exact shown9 _ _ (vL.2.2 l hl).1.2
      · exact ⟨Nat.le_trans ps.1.1 (by decide), Nat.le_trans ps.1.2 (by decide)⟩
      · exact ⟨Nat.le_trans ps.2.1 (by decide), Nat.le_trans ps.2.2 (by decide)⟩
def leanT (ns : List Int) : Str := if ns = [] then "none" else spT ns
def sp_written_leaning (K : PySem.W.Frag) (c : Nat → Addr) (CT : Nat → Addr) : Sp := fun vs H Q E => ∃ (p D m L R B M A : Addr) (n : Int) (ds : List (Int × Dd)) (N : Nat) (k : Int), vs = [.ref p, .ref A] ∧ SqL K H A [.int k] ∧ RollC K CT H p D m L R B M n ds ∧ DkI ds n N ∧ N ≤ 300 ∧ (stdD ds (.int k) = false → E (.ref (c 5)) none H) ∧ (stdD ds (.int k) = true → ∀ H', Same H H' → Q (.str (leanT (leanL ds k))) H')
theorem ok_written_leaning {f : Addr} {fd : FuncData} {c : Nat → Addr} {LE : Addr} (F : Fun K "written_leaning" "written_leaning" s_written_leaning f fd) (T : Txt K mg) (TX : ExcN K mg c LE) {CT : Nat → Addr} (TC : ClT K w mg CT) (D_Roll__leaning : MlX P w K mg base 3 (CT 1) "leaning" ["self", "number"] (sp_Roll__leaning K c CT)) (D_spaced : Cl P w K mg base 1 "spaced" ["numbers"] (sp_spaced K)) : FnOk P w K mg base (L2.CX P w) 4 f fd ["roll", "numbers"] (sp_written_leaning K c CT) := by
  refine F.okX sc_written_leaning (fun vs H Q E h => ?_) (fun cdv A outer s H vs Q E hr h => ?_)
  · obtain ⟨p, D, m, L, R, B, M, A, n, ds, N, k, rfl, _⟩ := h
    rfl
  · obtain ⟨p, D, m, L, R, B, M, A, n, ds, N, k, rfl, hA, rc, I, hN, q0, q1⟩ := h
    obtain ⟨dx, hob⟩ := rc.ob
    have l3 : ds.length ≤ 300 := Nat.le_trans I.J.len hN
    refine ⟨_, (pss_cons (ps_set (i := 2) sc_written_leaning.nd rfl (Or.inl rfl) (pe_mthX D_Roll__leaning TC.cR (hr.mono (by omega)) (takes_of rfl rfl rfl rfl) (pv 0) (pa_cons (pe_ix ix_list (pv 1) pe_int (fun _ _ => rfl)) pa_nil)))
      (pss_one (ps_ret (pe_ifExp (pt_truth (pv 2) (by intro _; rfl)) (pe_own D_spaced (hr.mono (by omega)) (by rfl) (pa_cons (pv 2) pa_nil)) pe_str)))), ?_⟩
    refine ⟨_, rfl, p, dx, _, rfl, hob, rfl, _, rfl, A, _, 0, _, rfl, rfl, hA, at0, p, D, m, L, R, B, M, n, ds, (fun _ => none), false, .int k, .int k, rfl, rc, l3, .int k, q0, fun k' e hs H1 X s1 nX eX => ?_⟩
    cases e
    have q2 := q1 hs
    refine ⟨_, rfl, _, .inl ⟨_, .inl (.inl eX), rfl⟩, ?_⟩
    cases hl : leanL ds k with
    | nil =>
      rw [hl] at q2
      exact iteF (q2 _ s1)
    | cons a0 r0 =>
      have ll := @lean_len2 ds k
      have lg : ∀ x ∈ leanL ds k, x.natAbs ≤ 1000000000 := fun x hx => by
        obtain ⟨y, hy, e⟩ := lean_mem hx
        have h1 := I.J.pos y hy
        have h2 := I.J.lt y hy
        have h3 := I.nN
        omega
      rw [hl] at q2 ll lg eX
      refine iteT ⟨_, rfl, X, _, rfl, .inr (.inl (.inl eX)), by omega, lg, fun H2 s2 => ?_⟩
      have q3 := q2 _ (s1.trans s2)
      rw [show leanT (a0 :: r0) = spT (a0 :: r0) from if_neg (by simp)] at q3
      exact q3
end

/-! ### the desk itself -/
theorem dOf_parts {w : Str} {ns : List Int} {δ : Dd} (h : dOf w ns = some δ) : (∃ ps, partsOf w = some ps) ∧ δ.word = w ∧ δ.nums = ns := by
  unfold dOf at h
  split at h
  · split at h
    · cases h; subst_vars; exact ⟨⟨_, (by decide +kernel : partsOf "layer" = some ([] : List Str))⟩, rfl, rfl⟩
    · cases h
  · split at h
    · cases h; subst_vars; exact ⟨⟨_, (by decide +kernel : partsOf "drop" = some (["row"] : List Str))⟩, rfl, rfl⟩
    split at h
    · cases h; subst_vars; exact ⟨⟨_, (by decide +kernel : partsOf "round" = some (["row"] : List Str))⟩, rfl, rfl⟩
    split at h
    · cases h; subst_vars; exact ⟨⟨_, (by decide +kernel : partsOf "straight" = some (["layer"] : List Str))⟩, rfl, rfl⟩
    · cases h
  · split at h
    · cases h; subst_vars; exact ⟨⟨_, (by decide +kernel : partsOf "draw" = some (["row", "drawing"] : List Str))⟩, rfl, rfl⟩
    split at h
    · cases h; subst_vars; exact ⟨⟨_, (by decide +kernel : partsOf "hold" = some (["row", "hold"] : List Str))⟩, rfl, rfl⟩
    · cases h
  · split at h
    · cases h; subst_vars; exact ⟨⟨_, (by decide +kernel : partsOf "row" = some (["layer", "drawing", "hold"] : List Str))⟩, rfl, rfl⟩
    split at h
    · cases h; subst_vars; exact ⟨⟨_, (by decide +kernel : partsOf "move" = some (["way", "way", "many"] : List Str))⟩, rfl, rfl⟩
    · cases h
  · cases h
theorem nums_le (δ : Dd) : δ.nums.length ≤ 3 := by
  cases δ <;> (show _ ≤ 3; simp [Dd.nums])
def PutP (K : PySem.W.Frag) (c : Nat → Addr) (CT : Nat → Addr) (H : Hp) (Q : VK) (E : XK) (d p D : Addr) (n : Int) (ds : List (Int × Dd)) (δ : Dd) : Prop :=
  (takD (mkS ds) (ddD δ) = false → ∀ H', Same H H' → E (.ref (c 11)) none H') ∧ (takD (mkS ds) (ddD δ) = true →
    (∀ a b', roomS (fol (mkS ds) n δ) = some (a, b') → ∀ H' d', Same H H' → H d' = none → H' d' = some (.xd [("most", .int b'), ("many", .int a)]) → E (.ref (c 14)) (some d') H') ∧
    (roomS (fol (mkS ds) n δ) = none → ∀ H' m' L' R' B' M', (∀ y o, y ≠ p → y ≠ D → H y = some o → H' y = some o) → H L' = none → H M' = none → H m' = none → H R' = none → H B' = none → DeskC K CT H' d p D m' L' R' B' M' (n + 1) (ds ++ [(n, δ)]) → Q (.str (nT n)) H'))
def UndD (K : PySem.W.Frag) (c : Nat → Addr) (CT : Nat → Addr) (H : Hp) (Q : VK) (E : XK) (d p : Addr) (n : Int) (ds : List (Int × Dd)) (k : Int) : Prop :=
  (stdD ds (.int k) = false → ∀ H', Same H H' → E (.ref (c 5)) none H') ∧ (stdD ds (.int k) = true →
    (leanL ds k ≠ [] → ∀ H' dd t, Same H H' → H dd = none → H' dd = some (.xd [("numbers", .ref t)]) → SqT K H' t ((leanL ds k).map V.int) → E (.ref (c 15)) (some dd) H') ∧
    (leanL ds k = [] → (∀ a b', roomS (mkS (asDrop ds k)) = some (a, b') → ∀ H' d', Same H H' → H d' = none → H' d' = some (.xd [("most", .int b'), ("many", .int a)]) → E (.ref (c 14)) (some d') H') ∧
      (roomS (mkS (asDrop ds k)) = none → ∀ H' D' m' L' R' B' M', (∀ y o, y ≠ p → H y = some o → H' y = some o) → H D' = none → H L' = none → H M' = none → H m' = none → H R' = none → H B' = none → DeskC K CT H' d p D' m' L' R' B' M' n (asDrop ds k) → Q (.str "ok") H')))
/-- what a desk does that is told a right row -/
def TellP (K : PySem.W.Frag) (c : Nat → Addr) (CT : Nat → Addr) (H : Hp) (Q : VK) (E : XK) (d p D : Addr) (n : Int) (ds : List (Int × Dd)) (w : Str) (ns : List Int) : Prop :=
  (∃ δ, dOf w ns = some δ ∧ PutP K c CT H Q E d p D n ds δ) ∨
  (∃ k, w = "undo" ∧ ns = [k] ∧ UndD K c CT H Q E d p n ds k) ∨
  (w = "sheet" ∧ ns = [] ∧ ((mkS ds).layers = [] → ∀ H', Same H H' → Q (.str "-") H') ∧ ((mkS ds).layers ≠ [] → ∀ H', Same H H' → Q (.str (shT (sheetS (mkS ds)) 0 0 (mkS ds).moves)) H')) ∨
  (w = "length" ∧ ns = [] ∧ ((mkS ds).layers = [] → ∀ H', Same H H' → Q (.str "-") H') ∧ ((mkS ds).layers ≠ [] → ∀ H' r, Same H H' → ShLen (sheetS (mkS ds)) (mtot (mkS ds).moves) r → Q (.str (lenT r)) H')) ∨
  (∃ k, w = "at" ∧ ns = [k] ∧ (isW (.int k) 0 1000000000 = false → ∀ H', Same H H' → E (.ref (c 3)) none H') ∧ (isW (.int k) 0 1000000000 = true → (mkS ds).layers = [] → ∀ H', Same H H' → Q (.str "-") H') ∧ (isW (.int k) 0 1000000000 = true → (mkS ds).layers ≠ [] → ∀ H', Same H H' → Q (.str (picT (pic (sheetS (mkS ds)) 0 0 (mkS ds).moves k))) H')) ∨
  (∃ k, w = "leans" ∧ ns = [k] ∧ (stdD ds (.int k) = false → ∀ H', Same H H' → E (.ref (c 5)) none H') ∧ (stdD ds (.int k) = true → ∀ H', Same H H' → Q (.str (leanT (leanL ds k))) H'))
theorem DeskC.dD {K : PySem.W.Frag} {CT : Nat → Addr} {H : Hp} {d p D m L R B M : Addr} {n : Int} {ds : List (Int × Dd)} (h : DeskC K CT H d p D m L R B M n ds) : d ≠ D := by
  obtain ⟨dx, h1⟩ := h.ob
  obtain ⟨kvs, h2, _⟩ := h.rc.dd
  exact ne_of h1 h2 (by intro z; cases z)
section
variable {P : Program} {w : World} {K : PySem.W.Frag} {mg : Str → Option Value} {base : Heap}
def sp_Desk__init (K : PySem.W.Frag) (CT : Nat → Addr) : Sp := fun vs H Q _ => ∃ (H0 : Hp) (d dx : Addr), vs = [.ref d] ∧ H d = some (.ins (CT 2) dx []) ∧ Same H0 H ∧ H0 d = none ∧ ∀ (H' : Hp) (p D m L R B M : Addr), Same H0 H' → H0 p = none → H0 D = none → H0 L = none → H0 M = none → H0 m = none → H0 R = none → H0 B = none → DeskC K CT H' d p D m L R B M 0 [] → Q .non H'
theorem ok_Desk__init {f : Addr} {fd : FuncData} (F : Fun K "__init__" "Desk.__init__" s_Desk__init f fd) (T : Txt K mg) {CT : Nat → Addr} (TC : ClT K w mg CT) (D_Roll__init : Mi P w K mg base 3 (CT 1) "Roll" ["self"] (sp_Roll__init K CT)) : FnOk P w K mg base CX0 5 f fd ["self"] (sp_Desk__init K CT) := by
  refine F.ok sc_Desk__init (fun vs H Q E h => ?_) (fun cdv A outer s H vs Q E hr h => ?_)
  · obtain ⟨H0, d, dx, rfl, _⟩ := h
    rfl
  · obtain ⟨H0, d, dx, rfl, hd, s0, n0, q⟩ := h
    refine ⟨_, (pss_one (ps_fld (pv 0) (pe_new D_Roll__init (hr.mono (by omega)) (by rfl)) rfl)), ?_⟩
    intro p dp np ndp nep
    have s3 : Same H (upd (upd H dp (.own p)) p (.ins (CT 1) dp [])) := fun b o e => by
      rw [upd_ne (ne_of_none e np), upd_ne (ne_of_none e ndp)]
      exact e
    refine ⟨H, p, dp, rfl, upd_same, s3, np, fun H3 D m L R B M s nD nL nM nm nR nB rc => ⟨rfl, ?_⟩⟩
    have d3 := s _ _ hd
    refine ⟨_, rfl, d, _, dx, _, rfl, d3, TC.cD, TC.d1, (by show 0 < 1000; decide), ?_⟩
    have ne : ∀ {y : Addr}, H y = none → y ≠ d := fun {y} h z => by rw [z, hd] at h; cases h
    have s4 := same_n (s0.trans s) n0 (.ins (CT 2) dx (putF "roll" (.ref p) []))
    refine q _ p D m L R B M s4 (s0.free np) (s0.free nD) (s0.free nL) (s0.free nM) (s0.free nm) (s0.free nR) (s0.free nB) ⟨⟨dx, upd_same⟩, rc.keep (tk_i d3) (fun y hy o e => ?_), Ne.symm (ne np)⟩
    rw [upd_ne]
    · exact e
    · rcases hy with rfl | rfl | rfl | rfl | rfl | rfl | rfl
      · exact ne np
      · exact ne nD
      · exact ne nm
      · exact ne nL
      · exact ne nR
      · exact ne nB
      · exact ne nM
def sp_Desk__tell (K : PySem.W.Frag) (c : Nat → Addr) (CT : Nat → Addr) : Sp := fun vs H Q E => ∃ (d p D m L R B M : Addr) (n : Int) (ds : List (Int × Dd)) (N : Nat) (v : V), vs = [.ref d, v] ∧ DeskC K CT H d p D m L R B M n ds ∧ DkI ds n N ∧ N ≤ 200 ∧
  ((∃ (z x : Str) (r : List Str), v = .str z ∧ z.length ≤ 900 ∧ Txt.split z " " = x :: r ∧ ((rowOkW x r = false ∧ ∀ H', Same H H' → E (.ref (c 13)) none H') ∨ (rowOkW x r = true ∧ TellP K c CT H Q E d p D n ds x (r.map iv)))) ∨
   (∃ (fx : Hp) (b : Bool) (dt : PyData), Dg K fx H b v dt ∧ isS dt = false ∧ ∀ H', Same H H' → E (.ref (c 13)) none H'))
theorem ok_Desk__tell {f : Addr} {fd : FuncData} {c : Nat → Addr} {LE : Addr} (F : Fun K "tell" "Desk.tell" s_Desk__tell f fd) (T : Txt K mg) (TX : ExcN K mg c LE) {CT : Nat → Addr} (TC : ClT K w mg CT) (D_read_row : ClX P w K mg base 2 "read_row" ["row"] (sp_read_row K c CT)) (D_Roll__put : MlX P w K mg base 7 (CT 1) "put" ["self", "deed"] (sp_Roll__put K c CT)) (D_undone : ClX P w K mg base 6 "undone" ["roll", "numbers"] (sp_undone K c CT)) (D_written_sheet : ClX P w K mg base 5 "written_sheet" ["roll", "numbers"] (sp_written_sheet K c CT)) (D_written_length : ClX P w K mg base 5 "written_length" ["roll", "numbers"] (sp_written_length K c CT)) (D_written_picture : ClX P w K mg base 6 "written_picture" ["roll", "numbers"] (sp_written_picture K c CT)) (D_written_leaning : ClX P w K mg base 4 "written_leaning" ["roll", "numbers"] (sp_written_leaning K c CT)) : FnOk P w K mg base (L2.CX P w) 8 f fd ["self", "row"] (sp_Desk__tell K c CT) := by
  refine F.okX sc_Desk__tell (fun vs H Q E h => ?_) (fun cdv A outer s H vs Q E hr h => ?_)
  · obtain ⟨d, p, D, m, L, R, B, M, n, ds, N, v, rfl, _⟩ := h
    rfl
  · obtain ⟨d, p, D, m, L, R, B, M, n, ds, N, v, rfl, dc, I, hN, h⟩ := h
    refine ⟨_, (pss_cons (ps_asg (pe_ownX D_read_row (hr.mono (by omega)) (takes_of rfl rfl rfl rfl) (by rfl) (pa_cons (pv 1) pa_nil)) (pg_tup (by rfl) (pgs_cons (pg_name (i := 2) sc_Desk__tell.nd rfl (Or.inl rfl)) (pgs_cons (pg_name (i := 3) sc_Desk__tell.nd rfl (Or.inl rfl)) pgs_nil))))
      (pss_cons (ps_if (pt_cmpR (kd_in TC.pk) (pv 2) (pe_gref (by rfl) TC.gP) (by rfl)) (pss_one (ps_ret (pe_callTy call_str_int (by rfl) T.b_str (by decide +kernel) (pa_cons (pe_mthX D_Roll__put TC.cR (hr.mono (by omega)) (takes_of rfl rfl rfl rfl) (pe_fld (pv 0) rfl) (pa_cons (pe_tup (pa_cons (pv 2) (StX.pa_star (pv 3) pa_nil))) pa_nil)) pa_nil)))) pss_nil)
      (pss_cons (ps_set (i := 4) sc_Desk__tell.nd rfl (Or.inl rfl) (pe_ix (kd_item TC.kA) (pe_gref (by rfl) TC.gA) (pv 2) (fun _ _ => rfl)))
      (pss_one (ps_ret (pe_callN 4 (takes_of rfl rfl rfl rfl) (pa_cons (pe_fld (pv 0) rfl) (pa_cons (pv 3) pa_nil)))))))), ?_⟩
    rcases h with ⟨z, x, r, rfl, hz, hsp, h⟩ | ⟨fx, b, dt, hd, hn, q⟩
    rotate_left 1
    · exact ⟨_, rfl, v, rfl, .inr ⟨fx, b, dt, hd, hn, q⟩⟩
    rcases h with ⟨hr0, q⟩ | ⟨hr1, h⟩
    · exact ⟨_, rfl, _, rfl, .inl ⟨z, x, r, rfl, hz, hsp, fun e => absurd (e.symm.trans hr0) (by decide), fun _ => q⟩⟩
    refine ⟨_, rfl, _, rfl, .inl ⟨z, x, r, rfl, hz, hsp, fun _ H1 t A s1 ht nA eA => ?_, fun e => absurd (e.symm.trans hr1) (by decide)⟩⟩
    have dc1 := dc.same s1
    obtain ⟨dx, hob⟩ := dc1.ob
    obtain ⟨px, pob⟩ := dc1.rc.ob
    have l3 : ds.length ≤ 300 := Nat.le_trans I.J.len (by omega)
    refine ⟨t, _, rfl, ht, rfl, _, _, rfl, _, _, rfl, rfl, ?_⟩
    rcases h with ⟨δ, hδ, q0, q1⟩ | ⟨k, rfl, hns, u0, u1⟩ | ⟨rfl, hns, q0, q1⟩ | ⟨rfl, hns, q0, q1⟩ | ⟨k, rfl, hns, qx, q0, q1⟩ | ⟨k, rfl, hns, q0, q1⟩
    · obtain ⟨⟨ps, hps⟩, ew, en⟩ := dOf_parts hδ
      obtain ⟨tp, hnsP, _⟩ := TC.p1 x ps hps
      refine ⟨_, rfl, x, some (.ref tp), rfl, rfl, hnsP, _, rfl, iteT ?_⟩
      refine ⟨_, rfl, d, _, dx, _, _, rfl, hob, TC.cD, TC.d1, fK_roll, p, px, _, rfl, pob, rfl, ?_⟩
      refine ⟨_, rfl, _, rfl, A, _, rfl, .inr (.inl (.inl eA)), ?_⟩
      have l5 := nums_le δ
      refine ⟨?_, fun y ny => ?_⟩
      · show (((r.map iv).map V.int) ++ []).length + 1 ≤ sizeLine
        rw [List.append_nil, List.length_map, ← en]
        exact Nat.le_trans (Nat.succ_le_succ l5) (by decide)
      have s2 := same_upd (o := .tup (.str x :: ((r.map iv).map V.int ++ []))) ny
      have e2 : upd H1 y (.tup (.str x :: ((r.map iv).map V.int ++ []))) y = some (.tup (.str x :: ((r.map iv).map V.int ++ []))) := upd_same
      have hv : DeedAt K (upd H1 y (.tup (.str x :: ((r.map iv).map V.int ++ [])))) (.ref y) δ := ⟨y, rfl, .inl (.inl (by rw [e2, List.append_nil, show ddV δ = V.str δ.word :: δ.nums.map V.int from by cases δ <;> rfl, ew, en]))⟩
      generalize upd H1 y (.tup (.str x :: ((r.map iv).map V.int ++ []))) = H2 at s2 e2 hv ⊢
      have dc2 := dc1.same s2
      have s12 := s1.trans s2
      refine ⟨p, D, m, L, R, B, M, n, ds, (fun _ => none), false, .ref y, ddD δ, rfl, dc2.rc, ⟨l3, I.J.lt⟩, I.J.small (by omega), lnk_nd I.J.wf I.J.nd, hv.dg, ?_, fun hf Ha sa => q0 hf _ (s12.trans sa), fun ht => ?_⟩
      · intro es e
        injection e with e
        rw [← e]
        show (δ.nums.map PyData.int).length + 1 ≤ 1000
        rw [List.length_map]
        omega
      · obtain ⟨qa, qb⟩ := q1 ht
        obtain ⟨g, ok⟩ := tak_good ht
        refine ⟨δ, hv, ok, ?_, fun a b' hr Ha dd sa nd ed => qa a b' hr Ha dd (s12.trans sa) (s12.free nd) ed, fun hr Ha m' L' R' B' M' ka nL nM nm nR nB rca => ?_⟩
        · rw [← mkS_snoc]
          exact lnk_nd (wf_snoc I.J.wf ok) (nd_snoc I.J.nd I.J.notin)
        · refine ⟨n, rfl, nt_log ?_, ?_⟩
          · have h1 := I.J.n0
            have h2 := I.nN
            omega
          · obtain ⟨dx2, hob2⟩ := dc2.ob
            exact qb hr Ha m' L' R' B' M' (fun y o h1 h2 e => ka y o h1 h2 (s12 _ _ e)) (s12.free nL) (s12.free nM) (s12.free nm) (s12.free nR) (s12.free nB) ⟨⟨dx2, ka d _ dc.np dc2.dD hob2⟩, rca, dc.np⟩
    · rw [hns] at eA
      obtain ⟨f, hf1, hf2⟩ := TC.a1 "undo" "undone" (by decide +kernel)
      refine ⟨_, rfl, "undo", none, rfl, rfl, TC.p0 _ (by decide +kernel), _, rfl, iteF ⟨_, rfl, "undo", .ref f, .ref f, rfl, rfl, hf1, rfl, ?_⟩⟩
      refine ⟨f, rfl, _, _, _, _, D_undone, hr.mono (by omega), hf2, ?_⟩
      refine ⟨_, rfl, d, _, dx, _, _, rfl, hob, TC.cD, TC.d1, fK_roll, _, rfl, p, D, m, L, R, B, M, A, n, ds, k, rfl, .inl (.inl eA), dc1.rc, l3, I.J.nd, fun e H' s => u0 e _ (s1.trans s), fun e => ?_⟩
      obtain ⟨ua, ub⟩ := u1 e
      refine ⟨fun hl H' dd t' s n' e1 e2 => ua hl H' dd t' (s1.trans s) (s1.free n') e1 e2, fun hl => ?_⟩
      obtain ⟨uc, ud⟩ := ub hl
      refine ⟨wf_drop I.J.wf I.J.nd hl, lnk_nd (wf_drop I.J.wf I.J.nd hl) (drop_nodup I.J.nd), fun a b' hr H' dd s n' e' => uc a b' hr H' dd (s1.trans s) (s1.free n') e', fun hr H' D' m' L' R' B' M' ka nD nL nM nm nR nB rc' => ?_⟩
      exact ud hr H' D' m' L' R' B' M' (fun y o h e => ka y o h (s1 _ _ e)) (s1.free nD) (s1.free nL) (s1.free nM) (s1.free nm) (s1.free nR) (s1.free nB) ⟨⟨dx, ka d _ dc.np hob⟩, rc', dc.np⟩
    · rw [hns] at eA
      obtain ⟨f, hf1, hf2⟩ := TC.a1 "sheet" "written_sheet" (by decide +kernel)
      refine ⟨_, rfl, "sheet", none, rfl, rfl, TC.p0 _ (by decide +kernel), _, rfl, iteF ⟨_, rfl, "sheet", .ref f, .ref f, rfl, rfl, hf1, rfl, ?_⟩⟩
      refine ⟨f, rfl, _, _, _, _, D_written_sheet, hr.mono (by omega), hf2, ?_⟩
      exact ⟨_, rfl, d, _, dx, _, _, rfl, hob, TC.cD, TC.d1, fK_roll, _, rfl, p, D, m, L, R, B, M, A, n, ds, N, rfl, dc1.rc, I, by omega, fun e H' s => q0 e _ (s1.trans s), fun e H' s => q1 e _ (s1.trans s)⟩
    · rw [hns] at eA
      obtain ⟨f, hf1, hf2⟩ := TC.a1 "length" "written_length" (by decide +kernel)
      refine ⟨_, rfl, "length", none, rfl, rfl, TC.p0 _ (by decide +kernel), _, rfl, iteF ⟨_, rfl, "length", .ref f, .ref f, rfl, rfl, hf1, rfl, ?_⟩⟩
      refine ⟨f, rfl, _, _, _, _, D_written_length, hr.mono (by omega), hf2, ?_⟩
      exact ⟨_, rfl, d, _, dx, _, _, rfl, hob, TC.cD, TC.d1, fK_roll, _, rfl, p, D, m, L, R, B, M, A, n, ds, N, rfl, dc1.rc, I, by omega, fun e H' s => q0 e _ (s1.trans s), fun e H' r' s hr' => q1 e _ r' (s1.trans s) hr'⟩
    · rw [hns] at eA
      obtain ⟨f, hf1, hf2⟩ := TC.a1 "at" "written_picture" (by decide +kernel)
      refine ⟨_, rfl, "at", none, rfl, rfl, TC.p0 _ (by decide +kernel), _, rfl, iteF ⟨_, rfl, "at", .ref f, .ref f, rfl, rfl, hf1, rfl, ?_⟩⟩
      refine ⟨f, rfl, _, _, _, _, D_written_picture, hr.mono (by omega), hf2, ?_⟩
      exact ⟨_, rfl, d, _, dx, _, _, rfl, hob, TC.cD, TC.d1, fK_roll, _, rfl, p, D, m, L, R, B, M, A, n, ds, N, k, rfl, .inl (.inl eA), dc1.rc, I, by omega, fun e => qx e _ s1, fun e e' H' s => q0 e e' _ (s1.trans s), fun e e' H' s => q1 e e' _ (s1.trans s)⟩
    · rw [hns] at eA
      obtain ⟨f, hf1, hf2⟩ := TC.a1 "leans" "written_leaning" (by decide +kernel)
      refine ⟨_, rfl, "leans", none, rfl, rfl, TC.p0 _ (by decide +kernel), _, rfl, iteF ⟨_, rfl, "leans", .ref f, .ref f, rfl, rfl, hf1, rfl, ?_⟩⟩
      refine ⟨f, rfl, _, _, _, _, D_written_leaning, hr.mono (by omega), hf2, ?_⟩
      exact ⟨_, rfl, d, _, dx, _, _, rfl, hob, TC.cD, TC.d1, fK_roll, _, rfl, p, D, m, L, R, B, M, A, n, ds, N, k, rfl, .inl (.inl eA), dc1.rc, I, by omega, fun e => q0 e _ s1, fun e H' s => q1 e _ (s1.trans s)⟩
end

section
variable {P : Program} {w : World} {K : PySem.W.Frag} {mg : Str → Option Value} {base : Heap}
def sp_sheet_text (K : PySem.W.Frag) : Sp := fun vs H Q _ => ∃ (v : V) (ls : List LY) (x y : Int) (ms : List MV), vs = [v] ∧ ShAt K H v ls x y ms ∧ VLays ls ∧ VWin x y ms ∧ ∀ H', Same H H' → Q (.str (shT ls x y ms)) H'
theorem ok_sheet_text {f : Addr} {fd : FuncData} (F : Fun K "sheet_text" "sheet_text" s_sheet_text f fd) (T : Txt K mg) (D_need_sheet : Cl P w K mg base 7 "need_sheet" ["thing"] (sp_need_sheet K)) (D_text_of : Cl P w K mg base 3 "text_of" ["sheet"] (sp_text_of K)) : FnOk P w K mg base CX0 8 f fd ["sheet"] (sp_sheet_text K) := by
  refine F.ok sc_sheet_text (fun vs H Q E h => ?_) (fun cdv A outer s H vs Q E hr h => ?_)
  · obtain ⟨v, ls, x, y, ms, rfl, _⟩ := h
    rfl
  · obtain ⟨v, ls, x, y, ms, rfl, hs, vL, vw, q⟩ := h
    refine ⟨_, (pss_cons (ps_expr (pe_own D_need_sheet (hr.mono (by omega)) (by rfl) (pa_cons (pv 0) pa_nil)))
      (pss_one (ps_ret (pe_own D_text_of (hr.mono (by omega)) (by rfl) (pa_cons (pv 0) pa_nil))))), ?_⟩
    exact ⟨_, rfl, v, ls, x, y, ms, rfl, hs, vL, vw, fun H1 s1 => ⟨_, rfl, v, ls, x, y, ms, rfl, hs.keep (Same.tk s1), vL, vw, fun H2 s2 => q _ (s1.trans s2)⟩⟩
end

theorem lcnew_list {α : Type} {K : PySem.W.Frag} {a : Addr} {xs : List V} {g : TG} {tt : TT} {te : TE} {vs : List Nat} {σ : L2.St} {H1 : Hp} {D : Addr} {Qd : Hp → Prop} (At : Hp → V → α → Prop) (as : List α) (keep : ∀ {H H' : Hp} {v : V} {c : α}, TKeep K H H' → At H v c → At H' v c) (hl : as.length = xs.length) (hz : xs.length ≤ 1000) (hS : SqL K H1 a xs) (hD : H1 D = none)
    (hs : ∀ (i : Nat) (x : V) (c : α) (H : Hp) (R : V → Hp → Prop) (Z : Hp → Prop), xs[i]? = some x → as[i]? = some c → Same H1 H → (∀ y H4, Same H H4 → At H4 y c → R y H4) → g x (wipe σ vs) H fun σ2 H2 => wipe σ2 vs = wipe σ vs ∧ tt σ2 H2 fun b H3 => if b = true then te σ2 H3 R else Z H3)
    (hd : ∀ H ts, Same H1 H → H D = some (.lst ts) → Paired (At H) ts as → Qd H) :
    ∃ W : Nat → Nat → Hp → Prop, (∃ m, W 0 m (upd H1 D (.lst []))) ∧ ∀ i m H, W i m H →
      ((Itl K a).stop i H ∧ Qd H) ∨ ((Itl K a).go i H ∧ ∃ Nx : Hp → Prop, (∀ H', Nx H' → ∃ m', m' < m ∧ W (i + 1) m' H') ∧ ∀ x H', (Itl K a).yld i H x H' → g x (wipe σ vs) H' fun σ2 H2 => wipe σ2 vs = wipe σ vs ∧ tt σ2 H2 fun b H3 =>
        if b = true then te σ2 H3 fun y H4 => ∃ acc, H4 D = some (.lst acc) ∧ acc.length < sizeLine ∧ Nx (upd H4 D (.lst (acc ++ [y]))) else Nx H3) := by
  refine lc_list (K := K) (a := a) (xs := xs) (fun i H => Same H1 H ∧ ∃ ts, H D = some (.lst ts) ∧ ts.length = i ∧ Paired (At H) ts (as.take i)) ⟨same_upd hD, [], upd_same, rfl, .nil⟩ (fun i H _ p => p.1.seq hS) (fun i x H hx p => ?_) (fun H p => ?_)
  · have hi : i < xs.length := (List.getElem?_eq_some_iff.mp hx).1
    obtain ⟨c, hc⟩ : ∃ c, as[i]? = some c := ⟨_, List.getElem?_eq_getElem (by omega)⟩
    obtain ⟨s0, ts, eD, lt, pd⟩ := p
    refine hs i x c H _ _ hx hc s0 (fun y H4 s4 hy => ⟨ts, s4 _ _ eD, small1000 (by omega), ?_, ts ++ [y], upd_same, by rw [List.length_append, lt]; rfl, ?_⟩)
    · intro b o e
      rw [upd_ne (ne_of_none e hD)]
      exact s4 _ _ (s0 _ _ e)
    · have k : TKeep K H4 (upd H4 D (.lst (ts ++ [y]))) := fun a zs h => tk_updL (s4 _ _ eD) _ _ h
      rw [List.take_add_one, hc]
      exact Paired.snocP (Paired.mono pd fun _ _ h => keep k (keep (Same.tk s4) h)) (keep k hy)
  · obtain ⟨s0, ts, eD, lt, pd⟩ := p
    refine hd H ts s0 eD ?_
    rw [List.take_of_length_le (by omega)] at pd
    exact pd
theorem at_k {xs : List V} {v : V} (k : Nat) (h : xs[k]? = some v) : atI xs (k : Int) = some v := by
  unfold atI ixN
  have : k < xs.length := (List.getElem?_eq_some_iff.mp h).1
  rw [if_pos (by omega), if_pos (by omega)]
  show xs[(k : Int).toNat]? = _
  rw [Int.toNat_natCast]
  exact h
theorem cut_3 (xs : List V) : cutV xs (some 3) none = xs.drop 3 := cut_from xs 3
theorem cut_2 (xs : List V) : cutV xs (some 2) none = xs.drop 2 := cut_from xs 2
theorem cut_1 (xs : List V) : cutV xs (some 1) none = xs.drop 1 := cut_from xs 1
section
variable {P : Program} {w : World} {K : PySem.W.Frag} {mg : Str → Option Value} {base : Heap}
def sp_window_in (K : PySem.W.Frag) : Sp := fun vs H Q _ => ∃ (x y : Int) (ms : List MV), vs = [.str (winT x y ms)] ∧ VWin x y ms ∧ ∀ H' v, Same H H' → WinAt K H' v x y ms → Q v H'
theorem ok_window_in {f : Addr} {fd : FuncData} (F : Fun K "window_in" "window_in" s_window_in f fd) (T : Txt K mg) (D_numbers_in : Cl P w K mg base 3 "numbers_in" ["word", "between"] (sp_numbers_in K)) (D_number_in : Cl P w K mg base 2 "number_in" ["word"] (sp_number_in K)) : FnOk P w K mg base CX0 4 f fd ["line"] (sp_window_in K) := by
  refine F.ok sc_window_in (fun vs H Q E h => ?_) (fun cdv A outer s H vs Q E hr h => ?_)
  · obtain ⟨x, y, ms, rfl, _⟩ := h
    rfl
  · obtain ⟨x, y, ms, rfl, vw, q⟩ := h
    have sx : Sm x := ⟨by have := vw.1; omega, by have := vw.1; omega⟩
    have sy : Sm y := ⟨by have := vw.2.1; omega, by have := vw.2.1; omega⟩
    have l8 := vw.2.2.1
    refine ⟨_, (pss_cons (ps_set (i := 1) sc_window_in.nd rfl (Or.inl rfl) (pe_bm PySem.F.plainAttrs_str PySem.F.slot_str_split PySem.F.type_str_split mt_split (pv 0) (pa_cons pe_str pa_nil)))
      (pss_cons (ps_if (PW.pt (pw_or (pt_cmpR op_ne (pe_ix ix_list (pv 1) pe_int (fun _ _ => rfl)) pe_str (nomark _)) (pw_or1 (pt_cmpR op_lt (pe_callB call_len_seq (by rfl) T.b_len (by decide +kernel) (pa_cons (pv 1) pa_nil)) pe_int (nomark _))))) (pss_one (ps_ret pe_non)) pss_nil)
      (pss_cons (ps_set (i := 2) sc_window_in.nd rfl (Or.inl rfl) (pe_callTy call_tuple_of (by rfl) T.b_tuple (by decide +kernel) (pa_cons (pe_lc (own := [("word", 3)]) (g := (gName 3)) (tt := tYes) (by rfl) sc_window_in.nd (pi_list (pe_slice sl_list (pv 1) (po_some pe_int) po_none)) (blkOk_by (own := [("word", 3)]) (N := ["line", "words", "moves", "word"]) (sc := defScope s_window_in) (by decide +kernel)) (fun _ _ _ _ _ => (pg_name (i := 3) sc_window_in.nd rfl (Or.inl rfl))) (fun _ _ _ _ _ => pts_nil) (fun _ _ _ _ _ => (pe_own D_numbers_in (hr.mono (by omega)) (by rfl) (pa_cons (pv 3) (pa_cons pe_str pa_nil))))) pa_nil)))
      (pss_one (ps_ret (pe_tup (pa_cons (pe_own D_number_in (hr.mono (by omega)) (by rfl) (pa_cons (pe_ix ix_list (pv 1) pe_int (fun _ _ => rfl)) pa_nil)) (pa_cons (pe_own D_number_in (hr.mono (by omega)) (by rfl) (pa_cons (pe_ix ix_list (pv 1) pe_int (fun _ _ => rfl)) pa_nil)) (pa_cons (pv 2) pa_nil))))))))), ?_⟩
    refine ⟨_, rfl, rfl, _, _, rfl, rfl, by decide, Nat.le_trans (Nat.add_le_add_right (winT_f vw).1 2) (by decide), fun p1 np1 => ?_⟩
    rw [win_split vw]
    obtain ⟨s1, e1⟩ := new_at (.lst ((winW x y ms).map V.str)) np1
    generalize upd H p1 (.lst ((winW x y ms).map V.str)) = H1 at s1 e1 ⊢
    refine ⟨_, rfl, p1, _, 0, .str "window", rfl, rfl, .inl (.inl e1), at_k 0 rfl, rfl, _, rfl, iteF ?_⟩
    refine ⟨_, rfl, p1, _, rfl, .inl (.inl (.inl e1)), _, 3, rfl, rfl, _, rfl, ?_⟩
    rw [decide_eq_false (show ¬ (((winW x y ms).map V.str).length : Int) < 3 by rw [List.length_map]; unfold winW; rw [List.length_append]; show ¬ (((3 + _ : Nat)) : Int) < 3; omega)]
    refine iteF ?_
    refine ⟨_, rfl, 3, rfl, p1, _, rfl, .inl (.inl e1), fun p2 np2 => ?_⟩
    rw [cut_3, show ((winW x y ms).map V.str).drop 3 = (ms.map mvT).map V.str from rfl]
    obtain ⟨s2, e2⟩ := new_at (.lst ((ms.map mvT).map V.str)) np2
    generalize upd H1 p2 (.lst ((ms.map mvT).map V.str)) = H2 at s2 e2 ⊢
    refine ⟨p2, rfl, ⟨_, .inl (.inl e2)⟩, fun D hD => ?_⟩
    refine lcnew_list (MoveAt K) ms (fun k h => h.keep k) (by rw [List.length_map, List.length_map]) (by rw [List.length_map, List.length_map]; omega) (.inl (.inl e2)) hD (fun i u m H3 R Z hx hm s3 hR => ?_) (fun H3 ts s3 hL pd => ?_)
    · have vm := vw.2.2.2 m (List.mem_of_getElem? hm)
      rw [List.getElem?_map, List.getElem?_map, hm] at hx
      cases hx
      obtain ⟨a1, a2, a3⟩ := vm_sm vm
      refine ⟨rfl, yes_ok ⟨_, rfl, mvT m, ",", [m.1, m.2.1, m.2.2], rfl, mv_split vm, fun n hn => ?_, Nat.le_trans (mvT_f vm).1 (by decide), by decide, (Nat.le_of_ble_eq_true rfl), fun H4 p4 s4 h4 => hR _ _ s4 ⟨p4, rfl, h4⟩⟩⟩
      rcases mem3 hn with rfl | rfl | rfl <;> assumption
    · refine ⟨D, ts, rfl, .inl ⟨.inl (.inl hL), fun l nl => ?_⟩⟩
      obtain ⟨s4, e4⟩ := new_at (.tup ts) nl
      generalize upd H3 l (.tup ts) = H4 at s4 e4 ⊢
      have e14 := s4 _ _ (s3 _ _ (s2 _ _ e1))
      refine ⟨_, rfl, p1, _, 1, _, rfl, rfl, .inl (.inl e14), at_k 1 rfl, x, rfl, sx, ?_⟩
      refine ⟨_, rfl, p1, _, 2, _, rfl, rfl, .inl (.inl e14), at_k 2 rfl, y, rfl, sy, _, rfl, (by show 3 ≤ sizeLine; decide), fun p5 np5 => ?_⟩
      have s5 := same_upd (o := .tup [.int x, .int y, .ref l]) np5
      exact q _ _ (((s1.trans s2).trans s3).trans (s4.trans s5)) ⟨p5, _, rfl, .inl (.inl upd_same), l, ts, rfl, .inl (.inl (s5 _ _ e4)), Paired.mono pd fun _ _ h => h.keep (Same.tk (s4.trans s5))⟩
def sp_layer_in (K : PySem.W.Frag) : Sp := fun vs H Q _ => ∃ (l : LY), vs = [.str (layT l)] ∧ VLy l ∧ ∀ H' v, Same H H' → LyAt K H' v l → Q v H'
theorem ok_layer_in {f : Addr} {fd : FuncData} (F : Fun K "layer_in" "layer_in" s_layer_in f fd) (T : Txt K mg) (D_numbers_in : Cl P w K mg base 3 "numbers_in" ["word", "between"] (sp_numbers_in K)) (D_number_in : Cl P w K mg base 2 "number_in" ["word"] (sp_number_in K)) : FnOk P w K mg base CX0 4 f fd ["line"] (sp_layer_in K) := by
  refine F.ok sc_layer_in (fun vs H Q E h => ?_) (fun cdv A outer s H vs Q E hr h => ?_)
  · obtain ⟨l, rfl, _⟩ := h
    rfl
  · obtain ⟨⟨rs, bk⟩, rfl, vl, q⟩ := h
    have l8 : rs.length ≤ 8 := vl.1.1
    refine ⟨_, (pss_cons (ps_set (i := 1) sc_layer_in.nd rfl (Or.inl rfl) (pe_bm PySem.F.plainAttrs_str PySem.F.slot_str_split PySem.F.type_str_split mt_split (pv 0) (pa_cons pe_str pa_nil)))
      (pss_cons (ps_if (PW.pt (pw_or (pt_cmpR op_ne (pe_ix ix_list (pv 1) pe_int (fun _ _ => rfl)) pe_str (nomark _)) (pw_or1 (pt_cmpR op_lt (pe_callB call_len_seq (by rfl) T.b_len (by decide +kernel) (pa_cons (pv 1) pa_nil)) pe_int (nomark _))))) (pss_one (ps_ret pe_non)) pss_nil)
      (pss_cons (ps_set (i := 2) sc_layer_in.nd rfl (Or.inl rfl) (pe_callTy call_tuple_of (by rfl) T.b_tuple (by decide +kernel) (pa_cons (pe_lc (own := [("word", 3)]) (g := (gName 3)) (tt := tYes) (by rfl) sc_layer_in.nd (pi_list (pe_slice sl_list (pv 1) (po_some pe_int) po_none)) (blkOk_by (own := [("word", 3)]) (N := ["line", "words", "rows", "word"]) (sc := defScope s_layer_in) (by decide +kernel)) (fun _ _ _ _ _ => (pg_name (i := 3) sc_layer_in.nd rfl (Or.inl rfl))) (fun _ _ _ _ _ => pts_nil) (fun _ _ _ _ _ => (pe_own D_numbers_in (hr.mono (by omega)) (by rfl) (pa_cons (pv 3) (pa_cons pe_str pa_nil))))) pa_nil)))
      (pss_one (ps_ret (pe_tup (pa_cons (pv 2) (pa_cons (pe_ifExp (pt_cmpR op_eq (pe_ix ix_list (pv 1) pe_int (fun _ _ => rfl)) pe_str (nomark _)) pe_non (pe_own D_number_in (hr.mono (by omega)) (by rfl) (pa_cons (pe_ix ix_list (pv 1) pe_int (fun _ _ => rfl)) pa_nil))) pa_nil)))))))), ?_⟩
    refine ⟨_, rfl, rfl, _, _, rfl, rfl, by decide, Nat.le_trans (Nat.add_le_add_right (layT_f vl).1 2) (by decide), fun p1 np1 => ?_⟩
    rw [lay_split vl]
    obtain ⟨s1, e1⟩ := new_at (.lst ((layW (rs, bk)).map V.str)) np1
    generalize upd H p1 (.lst ((layW (rs, bk)).map V.str)) = H1 at s1 e1 ⊢
    refine ⟨_, rfl, p1, _, 0, .str "layer", rfl, rfl, .inl (.inl e1), at_k 0 rfl, rfl, _, rfl, iteF ?_⟩
    refine ⟨_, rfl, p1, _, rfl, .inl (.inl (.inl e1)), _, 2, rfl, rfl, _, rfl, ?_⟩
    rw [decide_eq_false (show ¬ (((layW (rs, bk)).map V.str).length : Int) < 2 by rw [List.length_map]; unfold layW; rw [List.length_append]; show ¬ (((2 + _ : Nat)) : Int) < 2; omega)]
    refine iteF ?_
    refine ⟨_, rfl, 2, rfl, p1, _, rfl, .inl (.inl e1), fun p2 np2 => ?_⟩
    rw [cut_2, show ((layW (rs, bk)).map V.str).drop 2 = (rs.map rwT).map V.str from rfl]
    obtain ⟨s2, e2⟩ := new_at (.lst ((rs.map rwT).map V.str)) np2
    generalize upd H1 p2 (.lst ((rs.map rwT).map V.str)) = H2 at s2 e2 ⊢
    refine ⟨p2, rfl, ⟨_, .inl (.inl e2)⟩, fun D hD => ?_⟩
    refine lcnew_list (RowAt K) rs (fun k h => h.keep k) (by rw [List.length_map, List.length_map]) (by rw [List.length_map, List.length_map]; omega) (.inl (.inl e2)) hD (fun i u m H3 R Z hx hm s3 hR => ?_) (fun H3 ts s3 hL pd => ?_)
    · have vm := vl.1.2 m (List.mem_of_getElem? hm)
      rw [List.getElem?_map, List.getElem?_map, hm] at hx
      cases hx
      obtain ⟨a1, a2⟩ := vr_sm vm
      refine ⟨rfl, yes_ok ⟨_, rfl, rwT m, "x", [m.1, m.2], rfl, rw_split vm, fun n hn => ?_, Nat.le_trans (rwT_f vm).1 (by decide), by decide, (Nat.le_of_ble_eq_true rfl), fun H4 p4 s4 h4 => hR _ _ s4 ⟨p4, rfl, h4⟩⟩⟩
      rcases mem2 hn with rfl | rfl <;> assumption
    · refine ⟨D, ts, rfl, .inl ⟨.inl (.inl hL), fun l nl => ?_⟩⟩
      obtain ⟨s4, e4⟩ := new_at (.tup ts) nl
      generalize upd H3 l (.tup ts) = H4 at s4 e4 ⊢
      have e14 := s4 _ _ (s3 _ _ (s2 _ _ e1))
      have sA := ((s1.trans s2).trans s3).trans s4
      have fin : ∀ p5, H4 p5 = none → LyAt K (upd H4 p5 (.tup [.ref l, bkV bk])) (.ref p5) (rs, bk) := fun p5 np5 => by
        have s5 := same_upd (o := .tup [.ref l, bkV bk]) np5
        exact ⟨p5, _, rfl, .inl (.inl upd_same), l, ts, rfl, .inl (.inl (s5 _ _ e4)), Paired.mono pd fun _ _ h => h.keep (Same.tk (s4.trans s5))⟩
      refine ⟨_, rfl, _, rfl, p1, _, 1, .str (bkT bk), rfl, rfl, .inl (.inl e14), at_k 1 rfl, rfl, _, rfl, ite2 (fun e => ?_) (fun e => ?_)⟩
      · cases bk with
        | none => exact ⟨(by show 2 ≤ sizeLine; decide), fun p5 np5 => q _ _ (sA.trans (same_upd np5)) (fin p5 np5)⟩
        | some b =>
          have : V.str (nT b) = .str "-" := of_decide_eq_true e
          exact absurd (V.str.inj this) (vb_sm vl rfl).f.nd
      · cases bk with
        | none => exact absurd (decide_eq_true rfl) e
        | some b => exact ⟨_, rfl, p1, _, 1, _, rfl, rfl, .inl (.inl e14), at_k 1 rfl, b, rfl, vb_sm vl rfl, (by show 2 ≤ sizeLine; decide), fun p5 np5 => q _ _ (sA.trans (same_upd np5)) (fin p5 np5)⟩
def sp_sheet_in (K : PySem.W.Frag) : Sp := fun vs H Q _ => ∃ (ls : List LY) (x y : Int) (ms : List MV), vs = [.str (shT ls x y ms)] ∧ VLays ls ∧ VWin x y ms ∧ ∀ H' v, Same H H' → ShAt K H' v ls x y ms → Q v H'
theorem ok_sheet_in {f : Addr} {fd : FuncData} (F : Fun K "sheet_in" "sheet_in" s_sheet_in f fd) (T : Txt K mg) (D_window_in : Cl P w K mg base 4 "window_in" ["line"] (sp_window_in K)) (D_layer_in : Cl P w K mg base 4 "layer_in" ["line"] (sp_layer_in K)) : FnOk P w K mg base CX0 5 f fd ["text"] (sp_sheet_in K) := by
  refine F.ok sc_sheet_in (fun vs H Q E h => ?_) (fun cdv A outer s H vs Q E hr h => ?_)
  · obtain ⟨ls, x, y, ms, rfl, _⟩ := h
    rfl
  · obtain ⟨ls, x, y, ms, rfl, vL, vw, q⟩ := h
    have l4 := vL.2.1
    rw [shT_eq]
    have lz := lin_len vL vw
    refine ⟨_, (pss_cons (ps_if (pt_not (pt_val (pe_bm PySem.F.plainAttrs_str PySem.F.slot_str_endswith PySem.F.type_str_endswith mt_endswith (pv 0) (pa_cons pe_str pa_nil)))) (pss_one (ps_ret pe_non)) pss_nil)
      (pss_cons (ps_set (i := 1) sc_sheet_in.nd rfl (Or.inl rfl) (pe_bm PySem.F.plainAttrs_str PySem.F.slot_str_split PySem.F.type_str_split mt_split (pe_slice sl_str (pv 0) po_none (po_some (pe_un un_neg pe_int))) (pa_cons pe_str pa_nil)))
      (pss_one (ps_ret (pe_tup (pa_cons (pe_callTy call_tuple_of (by rfl) T.b_tuple (by decide +kernel) (pa_cons (pe_lc (own := [("line", 2)]) (g := (gName 2)) (tt := tYes) (by rfl) sc_sheet_in.nd (pi_list (pe_slice sl_list (pv 1) (po_some pe_int) po_none)) (blkOk_by (own := [("line", 2)]) (N := ["text", "lines", "line"]) (sc := defScope s_sheet_in) (by decide +kernel)) (fun _ _ _ _ _ => (pg_name (i := 2) sc_sheet_in.nd rfl (Or.inl rfl))) (fun _ _ _ _ _ => pts_nil) (fun _ _ _ _ _ => (pe_own D_layer_in (hr.mono (by omega)) (by rfl) (pa_cons (pv 2) pa_nil)))) pa_nil)) (pa_cons (pe_own D_window_in (hr.mono (by omega)) (by rfl) (pa_cons (pe_ix ix_list (pv 1) pe_int (fun _ _ => rfl)) pa_nil)) pa_nil))))))), ?_⟩
    refine ⟨_, rfl, rfl, _, _, rfl, rfl, _, rfl, ?_⟩
    rw [ends_nl]
    refine iteF ?_
    refine ⟨_, rfl, 1, rfl, -1, rfl, _, rfl, ?_, ?_⟩
    · rw [strLen_append]
      exact Nat.le_trans (Nat.add_le_add_right lz _) (by decide)
    rw [cut_nl]
    refine ⟨rfl, _, _, rfl, rfl, by decide, Nat.le_trans (Nat.add_le_add_right lz 2) (by decide), fun p1 np1 => ?_⟩
    rw [lin_split vL vw]
    obtain ⟨s1, e1⟩ := new_at (.lst ((linT ls x y ms).map V.str)) np1
    generalize upd H p1 (.lst ((linT ls x y ms).map V.str)) = H1 at s1 e1 ⊢
    refine ⟨_, rfl, 1, rfl, p1, _, rfl, .inl (.inl e1), fun p2 np2 => ?_⟩
    rw [cut_1, show ((linT ls x y ms).map V.str).drop 1 = (ls.map layT).map V.str from rfl]
    obtain ⟨s2, e2⟩ := new_at (.lst ((ls.map layT).map V.str)) np2
    generalize upd H1 p2 (.lst ((ls.map layT).map V.str)) = H2 at s2 e2 ⊢
    refine ⟨p2, rfl, ⟨_, .inl (.inl e2)⟩, fun D hD => ?_⟩
    refine lcnew_list (LyAt K) ls (fun k h => h.keep k) (by rw [List.length_map, List.length_map]) (by rw [List.length_map, List.length_map]; omega) (.inl (.inl e2)) hD (fun i u m H3 R Z hx hm s3 hR => ?_) (fun H3 ts s3 hL pd => ?_)
    · have vm := vL.2.2 m (List.mem_of_getElem? hm)
      rw [List.getElem?_map, List.getElem?_map, hm] at hx
      cases hx
      exact ⟨rfl, yes_ok ⟨_, rfl, m, rfl, vm, fun H4 p4 s4 h4 => hR _ _ s4 h4⟩⟩
    · refine ⟨D, ts, rfl, .inl ⟨.inl (.inl hL), fun l nl => ?_⟩⟩
      obtain ⟨s4, e4⟩ := new_at (.tup ts) nl
      generalize upd H3 l (.tup ts) = H4 at s4 e4 ⊢
      have e14 := s4 _ _ (s3 _ _ (s2 _ _ e1))
      refine ⟨_, rfl, p1, _, 0, _, rfl, rfl, .inl (.inl e14), at_k 0 rfl, x, y, ms, rfl, vw, fun H5 v5 s5 hw => ⟨(by show 2 ≤ sizeLine; decide), fun p6 np6 => ?_⟩⟩
      have s6 := same_upd (o := .tup [.ref l, v5]) np6
      exact q _ _ ((((s1.trans s2).trans s3).trans s4).trans (s5.trans s6)) ⟨p6, _, _, rfl, .inl (.inl upd_same), ⟨l, ts, rfl, .inl (.inl (s6 _ _ (s5 _ _ e4))), Paired.mono pd fun _ _ h => h.keep (Same.tk (s4.trans (s5.trans s6)))⟩, hw.keep (Same.tk s6)⟩
def sp_read_sheet (K : PySem.W.Frag) : Sp := fun vs H Q _ => ∃ (ls : List LY) (x y : Int) (ms : List MV), vs = [.str (shT ls x y ms)] ∧ VLays ls ∧ VWin x y ms ∧ ∀ H' v, Same H H' → ShAt K H' v ls x y ms → Q v H'
theorem ok_read_sheet {f : Addr} {fd : FuncData} (F : Fun K "read_sheet" "read_sheet" s_read_sheet f fd) (T : Txt K mg) (D_sheet_in : Cl P w K mg base 5 "sheet_in" ["text"] (sp_sheet_in K)) (D_is_sheet : Cl P w K mg base 6 "is_sheet" ["thing"] (sp_is_sheet K)) : FnOk P w K mg base CX0 7 f fd ["text"] (sp_read_sheet K) := by
  refine F.ok sc_read_sheet (fun vs H Q E h => ?_) (fun cdv A outer s H vs Q E hr h => ?_)
  · obtain ⟨ls, x, y, ms, rfl, _⟩ := h
    rfl
  · obtain ⟨ls, x, y, ms, rfl, vL, vw, q⟩ := h
    refine ⟨_, (pss_cons (ps_set (i := 1) sc_read_sheet.nd rfl (Or.inl rfl) (pe_ifExp (pt_val (pe_callB call_isi (by rfl) T.b_isinstance (by decide +kernel) (pa_cons (pv 0) (pa_cons (pe_bltn (v := .ty "str") (by rfl) T.b_str (by decide +kernel) rfl) pa_nil)))) (pe_own D_sheet_in (hr.mono (by omega)) (by rfl) (pa_cons (pv 0) pa_nil)) pe_non))
      (pss_cons (ps_if (pt_not (pt_val (pe_own D_is_sheet (hr.mono (by omega)) (by rfl) (pa_cons (pv 1) pa_nil)))) (pss_one ps_never) pss_nil)
      (pss_one (ps_ret (pv 1))))), ?_⟩
    refine ⟨_, rfl, _, _, _, _, true, rfl, .ty _, .base (.str _), kit_ty (by decide +kernel), _, rfl, iteT ?_⟩
    refine ⟨_, rfl, ls, x, y, ms, rfl, vL, vw, fun H1 v s1 hv => ?_⟩
    refine ⟨_, rfl, (fun _ => none), false, v, _, rfl, hv.dg, fun H2 s2 => ⟨_, rfl, ?_⟩⟩
    rw [sh_true vL vw]
    exact (iteF ⟨_, rfl, q _ _ (s1.trans s2) (hv.keep (Same.tk s2))⟩)
end

/-! ### lines told -/
section
variable {X : Cx}
theorem call_str_any : CallR X (.type "str") (fun xs H Q => (∃ i, xs = [.int i] ∧ i.natAbs.log2 < 1920 ∧ Q (.str (toString i)) H) ∨ ∃ a, xs = [.str a] ∧ Q (.str a) H) :=
  fun pins s σ H xs us Q I r h => h.elim (fun h => call_str_int pins s σ H xs us Q I r h) (fun h => SkE.call_str_str pins s σ H xs us Q I r h)
end
def lineP (δ : Dd) : List Str := δ.word :: δ.nums.map nT
def lineT (δ : Dd) : Str := Txt.join " " (lineP δ)
theorem tl_b : TL.tl (" " : Str) = [32] := by decide +kernel
theorem word_f (δ : Dd) : δ.word.length ≤ 8 ∧ 32 ∉ TL.tl δ.word := by
  cases δ
  · exact ⟨(by decide +kernel : ("layer" : Str).length ≤ 8), (by decide +kernel : 32 ∉ TL.tl ("layer" : Str))⟩
  · exact ⟨(by decide +kernel : ("row" : Str).length ≤ 8), (by decide +kernel : 32 ∉ TL.tl ("row" : Str))⟩
  · exact ⟨(by decide +kernel : ("draw" : Str).length ≤ 8), (by decide +kernel : 32 ∉ TL.tl ("draw" : Str))⟩
  · exact ⟨(by decide +kernel : ("hold" : Str).length ≤ 8), (by decide +kernel : 32 ∉ TL.tl ("hold" : Str))⟩
  · exact ⟨(by decide +kernel : ("drop" : Str).length ≤ 8), (by decide +kernel : 32 ∉ TL.tl ("drop" : Str))⟩
  · exact ⟨(by decide +kernel : ("round" : Str).length ≤ 8), (by decide +kernel : 32 ∉ TL.tl ("round" : Str))⟩
  · exact ⟨(by decide +kernel : ("straight" : Str).length ≤ 8), (by decide +kernel : 32 ∉ TL.tl ("straight" : Str))⟩
  · exact ⟨(by decide +kernel : ("move" : Str).length ≤ 8), (by decide +kernel : 32 ∉ TL.tl ("move" : Str))⟩
theorem lineP_f {δ : Dd} (h : SmD δ) : ∀ p ∈ lineP δ, p.length ≤ 60 ∧ 32 ∉ TL.tl p := fun p hp => by
  rcases List.mem_cons.mp hp with rfl | hp
  · exact ⟨Nat.le_trans (word_f δ).1 (by decide), (word_f δ).2⟩
  · obtain ⟨n, hn, rfl⟩ := List.mem_map.mp hp
    have := h n hn
    exact ⟨nt_len (by omega), (nT_ok this.1 (by omega)).2.2⟩
theorem lineP_len (δ : Dd) : (lineP δ).length ≤ 4 := by
  have := nums_le δ
  unfold lineP
  rw [List.length_cons, List.length_map]
  omega
theorem lineT_len {δ : Dd} (h : SmD δ) : (lineT δ).length ≤ 900 := Nat.le_trans (join_len (B := 60) (n := 4) (by decide) (fun p hp => (lineP_f h p hp).1) (lineP_len δ)) (by decide)
theorem line_split {δ : Dd} (h : SmD δ) : Txt.split (lineT δ) " " = δ.word :: δ.nums.map nT :=
  TL.split_join (s := 32) (S := []) tl_b (by decide +kernel) (by unfold lineP; simp) fun p hp => (lineP_f h p hp).2
theorem line_iv {δ : Dd} (h : SmD δ) : (δ.nums.map nT).map iv = δ.nums := by
  rw [List.map_map]
  refine (List.map_congr_left fun n hn => ?_).trans (List.map_id _)
  have := h n hn
  exact (nT_ok this.1 (by omega)).2.1
theorem line_parts (δ : Dd) : nbW δ.word = some ((δ.nums.length : Nat) : Int) := by
  cases δ
  · exact (by decide +kernel : nbW "layer" = some 0)
  · exact (by decide +kernel : nbW "row" = some 3)
  · exact (by decide +kernel : nbW "draw" = some 2)
  · exact (by decide +kernel : nbW "hold" = some 2)
  · exact (by decide +kernel : nbW "drop" = some 1)
  · exact (by decide +kernel : nbW "round" = some 1)
  · exact (by decide +kernel : nbW "straight" = some 1)
  · exact (by decide +kernel : nbW "move" = some 3)
theorem line_ok {δ : Dd} (h : SmD δ) : rowOkW δ.word (δ.nums.map nT) = true := by
  unfold rowOkW
  rw [line_parts, List.length_map, decide_eq_true rfl, Bool.true_and, List.all_eq_true]
  intro p hp
  obtain ⟨n, hn, rfl⟩ := List.mem_map.mp hp
  have := h n hn
  exact (nT_ok this.1 (by omega)).1
theorem dOf_line (δ : Dd) : dOf δ.word δ.nums = some δ := by
  cases δ with
  | layer =>
    show dOf "layer" [] = _
    unfold dOf
    dsimp only
    rw [if_pos rfl]
  | row a b c =>
    show dOf "row" [a, b, c] = _
    unfold dOf
    dsimp only
    rw [if_pos rfl]
  | draw a b =>
    show dOf "draw" [a, b] = _
    unfold dOf
    dsimp only
    rw [if_pos rfl]
  | hold a b =>
    show dOf "hold" [a, b] = _
    unfold dOf
    dsimp only
    rw [if_neg (by decide +kernel), if_pos rfl]
  | drop a =>
    show dOf "drop" [a] = _
    unfold dOf
    dsimp only
    rw [if_pos rfl]
  | round a =>
    show dOf "round" [a] = _
    unfold dOf
    dsimp only
    rw [if_neg (by decide +kernel), if_pos rfl]
  | straight a =>
    show dOf "straight" [a] = _
    unfold dOf
    dsimp only
    rw [if_neg (by decide +kernel), if_neg (by decide +kernel), if_pos rfl]
  | move a b c =>
    show dOf "move" [a, b, c] = _
    unfold dOf
    dsimp only
    rw [if_neg (by decide +kernel), if_pos rfl]
/-- a word and one number -/
def oneT (w : Str) (k : Int) : Str := (w ++ " ") ++ nT k
theorem one_eq (w : Str) (k : Int) : oneT w k = Txt.join " " [w, nT k] := by
  refine TL.ext_tl ?_
  unfold oneT
  rw [TL.tl_append, TL.tl_append, tl_txt]
  show _ = TL.tl w ++ (TL.tl " " ++ TL.tl (nT k))
  rw [List.append_assoc]
theorem one_split {w : Str} {k : Int} (hw : 32 ∉ TL.tl w) (h : -20 ≤ k) (h2 : k ≤ 1000000000) : Txt.split (oneT w k) " " = [w, nT k] := by
  rw [one_eq]
  refine TL.split_join (s := 32) (S := []) tl_b (by decide +kernel) (by simp) fun p hp => ?_
  rcases mem2 hp with rfl | rfl
  · exact hw
  · exact (nT_ok h h2).2.2
section
variable {P : Program} {w : World} {K : PySem.W.Frag} {mg : Str → Option Value} {base : Heap}
def sp__law_line (K : PySem.W.Frag) : Sp := fun vs H Q _ => ∃ (v : V) (δ : Dd), vs = [v] ∧ DeedAt K H v δ ∧ SmD δ ∧ ∀ H', Same H H' → Q (.str (lineT δ)) H'
theorem ok__law_line {f : Addr} {fd : FuncData} (F : Fun K "_law_line" "_law_line" s__law_line f fd) (T : Txt K mg) : FnOk P w K mg base CX0 1 f fd ["_law_deed_here"] (sp__law_line K) := by
  refine F.ok sc__law_line (fun vs H Q E h => ?_) (fun cdv A outer s H vs Q E hr h => ?_)
  · obtain ⟨v, δ, rfl, _⟩ := h
    rfl
  · obtain ⟨v, δ, rfl, ⟨p, rfl, hp⟩, hs, q⟩ := h
    have ln := nums_le δ
    refine ⟨_, (pss_one (ps_ret (pe_bm PySem.F.plainAttrs_str PySem.F.slot_str_join PySem.F.type_str_join mt_join pe_str (pa_cons (pe_lc (own := [("_law_part", 1)]) (g := (gName 1)) (tt := tYes) (by rfl) sc__law_line.nd (pi_tup (pv 0)) (blkOk_by (own := [("_law_part", 1)]) (N := ["_law_deed_here", "_law_part"]) (sc := defScope s__law_line) (by decide +kernel)) (fun _ _ _ _ _ => (pg_name (i := 1) sc__law_line.nd rfl (Or.inl rfl))) (fun _ _ _ _ _ => pts_nil) (fun _ _ _ _ _ => (pe_callTy call_str_any (by rfl) T.b_str (by decide +kernel) (pa_cons (pv 1) pa_nil)))) pa_nil)))), ?_⟩
    refine ⟨rfl, _, rfl, p, rfl, ⟨_, hp⟩, fun D hD => ?_⟩
    refine lcmap_tup (xs := ddV δ) ((lineP δ).map V.str) (by unfold ddV lineP; simp) (by unfold ddV; rw [List.length_cons, List.length_map]; omega) hp hD (fun i x y H2 R Z hx hy s2 hR => ?_) (fun H2 s2 hL => ?_)
    · refine ⟨rfl, yes_ok ⟨_, rfl, ?_⟩⟩
      cases i with
      | zero =>
        cases hx
        cases hy
        exact .inr ⟨_, rfl, hR _ (Same.refl _)⟩
      | succ j =>
        obtain ⟨n, rfl, rfl, hn⟩ := nts_at (ns := δ.nums) (i := j) hx hy
        have := hs n hn
        exact .inl ⟨n, rfl, nt_log (by omega), hR _ (Same.refl _)⟩
    · refine ⟨_, D, _, rfl, rfl, .inl (.inl (.inl hL)), ?_, q _ s2⟩
      exact Nat.le_trans (join_bound (n := 4) (B := 60) (by decide) (fun p hp => (lineP_f hs p hp).1) (lineP_len δ)) (by decide)
end

theorem DeskC.gx {K : PySem.W.Frag} {CT : Nat → Addr} {H H' : Hp} {st d p D m L R B M : Addr} {n : Int} {ds : List (Int × Dd)} (h : DeskC K CT H d p D m L R B M n ds) (hs : IsSx H st) (nL : L ≠ st) (nM : M ≠ st) (g : Gx st H H') : DeskC K CT H' d p D m L R B M n ds := by
  obtain ⟨⟨dx, h1⟩, h2, a⟩ := h
  refine ⟨⟨dx, g.1 _ _ ?_ ins_tbl h1⟩, RollC.gw h2 hs nL nM (g.l (TS := [])), a⟩
  obtain ⟨_, _, e, _⟩ := hs
  exact ne_of h1 e (by intro z; cases z)
theorem ne_self {z : Str} : (!decide (V.str z = V.str z)) = false := by
  rw [decide_eq_true rfl]
  rfl
theorem sd_three : Sd 1 (.list [.str "-", .str "-", .str "-"]) := Sd.lst fun e he => by
  rcases List.mem_cons.mp he with rfl | he
  · exact Sd.st (by decide +kernel)
  · rcases mem2 he with rfl | rfl
    · exact Sd.st (by decide +kernel)
    · exact Sd.st (by decide +kernel)
def frS (p : RW) (z : Str) : Str := (((z ++ " ") ++ nT p.1) ++ "/") ++ nT p.2
theorem frS_len {p : RW} {z : Str} {B : Nat} (h : SmR p) (hz : z.length ≤ B) : (z ++ " ").length ≤ B + 1 ∧ ((z ++ " ") ++ nT p.1).length ≤ B + 1 + 60 ∧ (((z ++ " ") ++ nT p.1) ++ "/").length ≤ B + 1 + 60 + 1 ∧ (frS p z).length ≤ B + 1 + 60 + 1 + 60 := by
  have a1 := js_len hz (show (" " : Str).length ≤ 1 by decide)
  have a2 := js_len a1 (nt_len h.1)
  have a3 := js_len a2 (show ("/" : Str).length ≤ 1 by decide)
  exact ⟨a1, a2, a3, js_len a3 (nt_len h.2)⟩
def dueS (c : PIC) (i : Nat) : Str := match i with
  | 0 => spT c.1 ++ " at"
  | 1 => frS c.2.1 (spT c.1 ++ " at")
  | _ => frS c.2.2 (frS c.2.1 (spT c.1 ++ " at"))
theorem due_eq (c : PIC) : picT c = dueS c 2 := by
  refine TL.ext_tl ?_
  show TL.tl (((Str.empty ++ spT c.1) ++ " at ") ++ Txt.join " " [frT c.2.1, frT c.2.2]) = TL.tl (frS c.2.2 (frS c.2.1 (spT c.1 ++ " at")))
  have e1 : TL.tl (" at " : Str) = TL.tl (" at" : Str) ++ TL.tl (" " : Str) := by decide +kernel
  have e2 : TL.tl Str.empty = [] := by decide +kernel
  have ef : ∀ p : RW, TL.tl (frT p) = TL.tl (nT p.1) ++ (TL.tl ("/" : Str) ++ TL.tl (nT p.2)) := fun p => by
    unfold frT
    rw [TL.tl_append, TL.tl_append, TL.tl_append, e2, List.nil_append, List.append_assoc]
  have eg : ∀ (p : RW) (z : Str), TL.tl (frS p z) = TL.tl z ++ (TL.tl (" " : Str) ++ TL.tl (frT p)) := fun p z => by
    unfold frS
    rw [TL.tl_append, TL.tl_append, TL.tl_append, TL.tl_append, ef]
    simp only [List.append_assoc]
  have ej : TL.tl (Txt.join " " [frT c.2.1, frT c.2.2]) = TL.tl (frT c.2.1) ++ (TL.tl (" " : Str) ++ TL.tl (frT c.2.2)) := by
    rw [tl_txt]
    rfl
  rw [TL.tl_append, TL.tl_append, TL.tl_append, e2, ej, e1, eg, eg, TL.tl_append]
  simp only [List.append_assoc, List.nil_append]
theorem dueS_len {c : PIC} (l4 : c.1.length ≤ 4) (lg : ∀ n ∈ c.1, n.natAbs ≤ 1000000000) : (spT c.1 ++ " at").length ≤ 300 * 61 + 3 := js_len (spT_len (by omega) lg) (by decide)
theorem at_line (k : Int) : ("at " : Str) ++ nT k = oneT "at" k := by
  unfold oneT
  rw [show ("at" : Str) ++ " " = "at " from by decide +kernel]
theorem at_ok {k : Int} (h : -20 ≤ k) (h2 : k ≤ 1000000000) : rowOkW "at" [nT k] = true := by
  unfold rowOkW
  rw [show nbW "at" = some 1 by decide +kernel]
  have h0 : ∀ b : Bool, b = true → (decide (some (1 : Int) = some (([nT k].length : Nat) : Int)) && b) = true := fun b hb => by rw [hb]; rfl
  refine h0 _ (List.all_eq_true.mpr ?_)
  intro p hp
  rw [List.mem_singleton.mp hp]
  exact (nT_ok h h2).1
section
variable {P : Program} {w : World} {K : PySem.W.Frag} {mg : Str → Option Value} {base : Heap}
def sp__law_same (K : PySem.W.Frag) (CT : Nat → Addr) : Sp := fun vs H Q _ => ∃ (st d p D m L R B M p' D' m' L' R' B' M' : Addr) (n : Int) (ds : List (Int × Dd)) (N : Nat), vs = [.ref st, .ref d, .ref p] ∧ IsSx H st ∧ RollC K CT H p D m L R B M n ds ∧ DeskC K CT H d p' D' m' L' R' B' M' n ds ∧ DkI ds n N ∧ N ≤ 200 ∧ L' ≠ st ∧ M' ≠ st ∧ ∀ H', Gx st H H' → Q (.bl true) H'
theorem ok__law_same {f : Addr} {fd : FuncData} {c : Nat → Addr} (F : Fun K "_law_same" "_law_same" s__law_same f fd) (T : Txt K mg) {CT : Nat → Addr} (TC : ClT K w mg CT) (D_Roll__sheet_now : Ml P w K mg base 4 (CT 1) "sheet_now" ["self"] (sp_Roll__sheet_now K CT)) (D_Desk__tell : MlX P w K mg base 8 (CT 2) "tell" ["self", "row"] (sp_Desk__tell K c CT)) (D_sheet_text : Cl P w K mg base 8 "sheet_text" ["sheet"] (sp_sheet_text K)) (D_read_sheet : Cl P w K mg base 7 "read_sheet" ["text"] (sp_read_sheet K)) (D_sheet_length : Cl P w K mg base 8 "sheet_length" ["sheet"] (sp_sheet_length K)) (D__law_take : Cl P w K mg base 1 "_law_take" ["_law_state_here", "_law_many"] (sp__law_take K)) (D_picture_at : Cl P w K mg base 8 "picture_at" ["sheet", "moment"] (sp_picture_at K)) : FnOk P w K mg base CX0 9 f fd ["_law_state_here", "_law_desk", "_law_roll"] (sp__law_same K CT) := by
  refine F.ok sc__law_same (fun vs H Q E h => ?_) (fun cdv A outer s H vs Q E hr h => ?_)
  · obtain ⟨st, d, p, D, m, L, R, B, M, p', D', m', L', R', B', M', n, ds, N, rfl, _⟩ := h
    rfl
  · obtain ⟨st, d, p, D, m, L, R, B, M, p', D', m', L', R', B', M', n, ds, N, rfl, hs, rc, dc, I, hN, nL', nM', q⟩ := h
    obtain ⟨px, pob⟩ := rc.ob
    refine ⟨_, (pss_cons (ps_set (i := 3) sc__law_same.nd rfl (Or.inl rfl) (pe_mth0 D_Roll__sheet_now TC.cR (hr.mono (by omega)) (pv 2)))
      (pss_cons (ps_set (i := 4) sc__law_same.nd rfl (Or.inl rfl) (pe_mthX D_Desk__tell TC.cD (hr.mono (by omega)) takes0 (pv 1) (pa_cons pe_str pa_nil)))
      (pss_cons (ps_if (pt_cmpR op_isN (pv 3) pe_non (nomark _)) (pss_one (ps_ret (pe_cmpR (op_eqD hr.units) (pe_lst (pa_cons (pv 4) (pa_cons (pe_mthX D_Desk__tell TC.cD (hr.mono (by omega)) takes0 (pv 1) (pa_cons pe_str pa_nil)) (pa_cons (pe_mthX D_Desk__tell TC.cD (hr.mono (by omega)) takes0 (pv 1) (pa_cons pe_str pa_nil)) pa_nil)))) (pe_lst (pa_cons pe_str (pa_cons pe_str (pa_cons pe_str pa_nil)))) (nomark _)))) pss_nil)
      (pss_cons (ps_if (PW.pt (pw_or (pt_cmpR op_ne (pv 4) (pe_own D_sheet_text (hr.mono (by omega)) (by rfl) (pa_cons (pv 3) pa_nil)) (nomark _)) (pw_or1 (pt_cmpR (op_neD hr.units) (pe_own D_read_sheet (hr.mono (by omega)) (by rfl) (pa_cons (pv 4) pa_nil)) (pv 3) (nomark _))))) (pss_one (ps_ret pe_bl)) pss_nil)
      (pss_cons (ps_set (i := 5) sc__law_same.nd rfl (Or.inl rfl) (pe_own D_sheet_length (hr.mono (by omega)) (by rfl) (pa_cons (pv 3) pa_nil)))
      (pss_cons (ps_if (pt_cmpR op_ne (pe_mthX D_Desk__tell TC.cD (hr.mono (by omega)) takes0 (pv 1) (pa_cons pe_str pa_nil)) (pe_ifExp (pt_cmpR op_isN (pv 5) pe_non (nomark _)) pe_str (pe_callTy call_str_int (by rfl) T.b_str (by decide +kernel) (pa_cons (pv 5) pa_nil))) (nomark _)) (pss_one (ps_ret pe_bl)) pss_nil)
      (pss_cons (ps_set (i := 6) sc__law_same.nd rfl (Or.inl rfl) (pe_own D__law_take (hr.mono (by omega)) (by rfl) (pa_cons (pv 0) (pa_cons (pe_ix ix_list (pe_lst (pa_cons pe_int (pa_cons (pe_op op_pow pe_int pe_int) pa_nil))) (pe_own D__law_take (hr.mono (by omega)) (by rfl) (pa_cons (pv 0) (pa_cons pe_int pa_nil))) (fun _ _ => rfl)) pa_nil))))
      (pss_cons (ps_asg (pe_own D_picture_at (hr.mono (by omega)) (by rfl) (pa_cons (pv 3) (pa_cons (pv 6) pa_nil))) (pg_tup (by rfl) (pgs_cons (pg_name (i := 7) sc__law_same.nd rfl (Or.inl rfl)) (pgs_cons (pg_name (i := 8) sc__law_same.nd rfl (Or.inl rfl)) pgs_nil))))
      (pss_cons (ps_set (i := 9) sc__law_same.nd rfl (Or.inl rfl) (pe_op op_add_str (pe_bm PySem.F.plainAttrs_str PySem.F.slot_str_join PySem.F.type_str_join mt_join pe_str (pa_cons (pe_lc (own := [("_law_drawing", 12)]) (g := (gName 12)) (tt := tYes) (by rfl) sc__law_same.nd (pi_tup (pv 7)) (blkOk_by (own := [("_law_drawing", 12)]) (N := ["_law_state_here", "_law_desk", "_law_roll", "_law_sheet", "_law_told", "_law_end", "_law_moment", "_law_drawn", "_law_place", "_law_due", "_law_top", "_law_bottom", "_law_drawing"]) (sc := defScope s__law_same) (by decide +kernel)) (fun _ _ _ _ _ => (pg_name (i := 12) sc__law_same.nd rfl (Or.inl rfl))) (fun _ _ _ _ _ => pts_nil) (fun _ _ _ _ _ => (pe_callTy call_str_int (by rfl) T.b_str (by decide +kernel) (pa_cons (pv 12) pa_nil)))) pa_nil)) pe_str))
      (pss_cons (ps_for PassesOwn.never rfl (pi_tup (pv 8)) (pg_tup (by rfl) (pgs_cons (pg_name (i := 10) sc__law_same.nd rfl (Or.inl rfl)) (pgs_cons (pg_name (i := 11) sc__law_same.nd rfl (Or.inl rfl)) pgs_nil)))
        (pss_one (ps_set (i := 9) sc__law_same.nd rfl (Or.inl rfl) (pe_op op_add_str (pe_op op_add_str (pe_op op_add_str (pe_op op_add_str (pv 9) pe_str) (pe_callTy call_str_int (by rfl) T.b_str (by decide +kernel) (pa_cons (pv 10) pa_nil))) pe_str) (pe_callTy call_str_int (by rfl) T.b_str (by decide +kernel) (pa_cons (pv 11) pa_nil))))))
      (pss_one (ps_ret (pe_cmpR op_eq (pe_mthX D_Desk__tell TC.cD (hr.mono (by omega)) takes0 (pv 1) (pa_cons (pe_op op_add_str pe_str (pe_callTy call_str_int (by rfl) T.b_str (by decide +kernel) (pa_cons (pv 6) pa_nil))) pa_nil)) (pv 9) (nomark _)))))))))))))), ?_⟩
    refine ⟨_, rfl, p, px, _, rfl, pob, rfl, p, D, m, L, R, B, M, n, ds, rfl, rc, I.small (by omega), lnk_nd I.J.wf I.J.nd, fun he H1 s1 => ?_, fun he H1 v s1 hsh => ?_⟩
    · have dc1 := dc.same s1
      obtain ⟨dx, dob⟩ := dc1.ob
      refine ⟨_, rfl, d, dx, _, rfl, dob, rfl, d, p', D', m', L', R', B', M', n, ds, N, .str "sheet", rfl, dc1, I, hN, .inl ⟨"sheet", "sheet", [], rfl, by decide +kernel, by decide +kernel, .inr ⟨by decide +kernel, .inr (.inr (.inl ⟨rfl, rfl, fun _ H2 s2 => ?_, fun z => absurd he z⟩))⟩⟩⟩
      have dc2 := dc1.same s2
      have dob2 := s2 _ _ dob
      refine ⟨_, rfl, rfl, _, rfl, iteT ⟨_, rfl, ?_⟩⟩
      refine ⟨_, rfl, d, dx, _, rfl, dob2, rfl, d, p', D', m', L', R', B', M', n, ds, N, .str "length", rfl, dc2, I, hN, .inl ⟨"length", "length", [], rfl, by decide +kernel, by decide +kernel, .inr ⟨by decide +kernel, .inr (.inr (.inr (.inl ⟨rfl, rfl, fun _ H3 s3 => ?_, fun z => absurd he z⟩)))⟩⟩⟩
      have dc3 := dc2.same s3
      have dob3 := s3 _ _ dob2
      refine ⟨_, rfl, d, dx, _, rfl, dob3, rfl, d, p', D', m', L', R', B', M', n, ds, N, .str "at 0", rfl, dc3, I, hN, .inl ⟨"at 0", "at", ["0"], rfl, by decide +kernel, by decide +kernel, .inr ⟨by decide +kernel, .inr (.inr (.inr (.inr (.inl ⟨0, rfl, by decide +kernel, fun e => absurd e (by decide), fun _ _ H4 s4 => ?_, fun _ z => absurd he z⟩))))⟩⟩⟩
      refine ⟨(by show 3 ≤ sizeLine; decide), fun A nA => ?_⟩
      obtain ⟨s5, e5⟩ := new_at (.lst [.str "-", .str "-", .str "-"]) nA
      generalize upd H4 A (.lst [.str "-", .str "-", .str "-"]) = H5 at s5 e5 ⊢
      refine ⟨(by show 3 ≤ sizeLine; decide), fun A2 nA2 => ?_⟩
      obtain ⟨s6, e6⟩ := new_at (.lst [.str "-", .str "-", .str "-"]) nA2
      generalize upd H5 A2 (.lst [.str "-", .str "-", .str "-"]) = H6 at s6 e6 ⊢
      exact eq_eqd (.lst (.inl (.inl (s6 _ _ e5))) (.cons (.str _) (.cons (.str _) (.cons (.str _) .nil)))) (.lst (.inl (.inl e6)) (.cons (.str _) (.cons (.str _) (.cons (.str _) .nil)))) sd_three (by decide) (q _ (gx_same ((((s1.trans s2).trans s3).trans s4).trans (s5.trans s6))))
    · obtain ⟨vL, vw⟩ := I.sheet he
      have dc1 := dc.same s1
      obtain ⟨dx, dob⟩ := dc1.ob
      refine ⟨_, rfl, d, dx, _, rfl, dob, rfl, d, p', D', m', L', R', B', M', n, ds, N, .str "sheet", rfl, dc1, I, hN, .inl ⟨"sheet", "sheet", [], rfl, by decide +kernel, by decide +kernel, .inr ⟨by decide +kernel, .inr (.inr (.inl ⟨rfl, rfl, fun z => absurd z he, fun _ H2 s2 => ?_⟩))⟩⟩⟩
      have dc2 := dc1.same s2
      have hsh2 := hsh.keep (Same.tk s2)
      obtain ⟨pv, rfl⟩ : ∃ pv, v = .ref pv := by
        obtain ⟨pv, _, _, e, _⟩ := hsh
        exact ⟨pv, e⟩
      refine ⟨_, rfl, rfl, _, rfl, iteF ?_⟩
      refine ⟨_, rfl, _, rfl, .ref pv, _, _, _, _, rfl, hsh2, vL, vw, fun H3 s3 => ⟨rfl, ?_⟩⟩
      rw [ne_self]
      refine ⟨_, rfl, iteF ?_⟩
      refine ⟨_, rfl, _, _, _, _, rfl, vL, vw, fun H4 u s4 hu => ⟨_, rfl, ne_eqd hu.dp (hsh2.keep (Same.tk (s3.trans s4))).dp ⟨5, sd_sh _ _ _ _, by decide⟩ ⟨_, rfl, iteF ?_⟩⟩⟩
      have hsh4 := hsh2.keep (Same.tk (s3.trans s4))
      have dc4 := dc2.same (s3.trans s4)
      refine ⟨_, rfl, .ref pv, _, _, _, _, rfl, hsh4, vL, vw, fun H5 r s5 hr => ?_⟩
      have hsh5 := hsh4.keep (Same.tk s5)
      have dc5 := dc4.same s5
      obtain ⟨dx5, dob5⟩ := dc5.ob
      refine ⟨_, rfl, d, dx5, _, rfl, dob5, rfl, d, p', D', m', L', R', B', M', n, ds, N, .str "length", rfl, dc5, I, hN, .inl ⟨"length", "length", [], rfl, by decide +kernel, by decide +kernel, .inr ⟨by decide +kernel, .inr (.inr (.inr (.inl ⟨rfl, rfl, fun z => absurd z he, fun _ H6 r' s6 hr' => ?_⟩)))⟩⟩⟩
      have er := ShLen.uniq hr' hr
      subst er
      have hsh6 := hsh5.keep (Same.tk s6)
      have dc6 := dc5.same s6
      have s06 := (((((s1.trans s2).trans s3).trans s4).trans s5).trans s6)
      have hs6 := (gx_same (st := st) s06).2.1 hs
      clear hsh hsh2 hsh4 hsh5 dc1 dc2 dc4 dc5 dob dob5 s1 s2 s3 s4 s5 s6 hu
      rcases r' with _ | k
      case' none => refine ⟨_, rfl, rfl, _, rfl, iteT ⟨rfl, ?_⟩⟩
      case' some => refine ⟨_, rfl, rfl, _, rfl, iteF ⟨_, rfl, k, rfl, nt_log (shlen_small vL vw.2.2.2 vw.2.2.1 hr), rfl, ?_⟩⟩
      all_goals
        refine ⟨_, rfl, ite2 (fun e => absurd e (by first | (rw [show lenT none = "endless" from rfl, ne_self]; decide) | (rw [show lenT (some k) = Str.ofString (toString k) from rfl, ne_self]; decide))) (fun _ => ?_)⟩
        refine ⟨_, rfl, 10, 9, rfl, rfl, ⟨by decide, by decide, by decide⟩, (by show 2 ≤ sizeLine; decide), fun p5 np5 => ?_⟩
        obtain ⟨s7, e7⟩ := new_at (.lst [.int 20, .int (10 ^ (9 : Int).toNat)]) np5
        have np5' := sx_ne hs6 np5
        generalize upd H6 p5 (.lst [.int 20, .int (10 ^ (9 : Int).toNat)]) = H7 at s7 e7 ⊢
        have g7 := gx_same (st := st) s7
        have hs7 := g7.2.1 hs6
        refine ⟨_, rfl, st, 2, rfl, hs7, by decide, by decide, fun r6 H8 a6 b6 g8 => ?_⟩
        obtain ⟨m6, m60, m61, e6⟩ : ∃ m : Int, 0 < m ∧ m ≤ 1000000000 ∧ atI [V.int 20, .int (10 ^ (9 : Int).toNat)] r6 = some (.int m) := by
          rcases (by omega : r6 = 0 ∨ r6 = 1) with e | e <;> subst e
          · exact ⟨20, by omega, by omega, rfl⟩
          · exact ⟨1000000000, by omega, by omega, rfl⟩
        have g78 := g7.trans g8
        have hs8 := g8.2.1 hs7
        refine ⟨p5, _, _, _, rfl, rfl, .inl (.inl (g8.1 _ _ np5' lst_tbl e7)), e6, st, m6, rfl, hs8, m60, by omega, fun mo H9 a7 b7 g9 => ?_⟩
        have g69 := g78.trans g9
        have hs9 := g9.2.1 hs8
        have hsh9 := hsh6.keep (g69.tk hs6)
        have dc9 := dc6.gx hs6 nL' nM' g69
        have g09 := (gx_same (st := st) s06).trans g69
        clear hsh6 dc6 s06 hs6 s7 e7 np5' g7 hs7 g8 g78 hs8 g9 g69
        refine ⟨_, rfl, _, rfl, .ref pv, _, _, _, _, mo, rfl, hsh9, vL, vw, a7, by omega, fun H10 v2 s10 pc => ?_⟩
        have ps := plc_small (mkS ds).moves 0 0 mo (by decide) (by decide) a7 vw.2.2.2
        have q1 : SmR (pic (sheetS (mkS ds)) 0 0 (mkS ds).moves mo).2.1 := ⟨Nat.le_trans ps.1.1 (by decide), Nat.le_trans ps.1.2 (by decide)⟩
        have q2 : SmR (pic (sheetS (mkS ds)) 0 0 (mkS ds).moves mo).2.2 := ⟨Nat.le_trans ps.2.1 (by decide), Nat.le_trans ps.2.2 (by decide)⟩
        have l4 : (pic (sheetS (mkS ds)) 0 0 (mkS ds).moves mo).1.length ≤ 4 := by
          show ((sheetS (mkS ds)).map _).length ≤ 4
          rw [List.length_map]
          exact vL.2.1
        have lg : ∀ x ∈ (pic (sheetS (mkS ds)) 0 0 (mkS ds).moves mo).1, x.natAbs ≤ 1000000000 := by
          intro x hx
          obtain ⟨l, hl, rfl⟩ := List.mem_map.mp hx
          exact shown9 _ _ (vL.2.2 l hl).1.2
        have dc10 := dc9.same s10
        have g010 := g09.trans (gx_same (st := st) s10)
        clear hsh9 ps dc9 g09 s10
        generalize hc : pic (sheetS (mkS ds)) 0 0 (mkS ds).moves mo = c at pc q1 q2 l4 lg
        obtain ⟨a, b, v3, rfl, ha, hb, ⟨pl, v5, v6, rfl, hpl, ⟨t5, rfl, h5⟩, ⟨t6, rfl, h6⟩⟩⟩ := pc
        refine ⟨a, _, rfl, ha, rfl, _, _, rfl, _, _, rfl, rfl, ?_⟩
        refine ⟨rfl, _, rfl, b, rfl, ⟨_, hb⟩, fun D2 hD => ?_⟩
        refine lcmap_tup (xs := c.1.map V.int) ((c.1.map nT).map V.str) (by simp) (by rw [List.length_map]; omega) hb hD (fun i x y H2 R Z hx hy s2 hR => ?_) (fun H11 s11 hL => ?_)
        · obtain ⟨n, rfl, rfl, hn⟩ := nts_at hx hy
          exact ⟨rfl, yes_ok ⟨_, rfl, n, rfl, nt_log (lg n hn), hR _ (Same.refl _)⟩⟩
        have d0 := dueS_len l4 lg
        refine ⟨_, D2, _, rfl, rfl, .inl (.inl (.inl hL)), ?_, _, _, rfl, rfl, ?_, ?_⟩
        · exact Nat.le_trans (join_bound (n := 4) (B := 60) (by decide) (fun p hp => by
            obtain ⟨n, hn, rfl⟩ := List.mem_map.mp hp
            exact nt_len (lg n hn)) (by rw [List.length_map]; exact l4)) (by decide)
        · exact Nat.le_trans (Nat.add_le_add (spT_len (by omega) lg) (Nat.le_refl _)) (by decide)
        have hpl11 := Same.sqT s11 hpl
        refine ⟨_, rfl, pl, rfl, ⟨_, hpl11⟩, ?_⟩
        refine for_tup (K := K) (a := pl) (xs := [.ref t5, .ref t6]) (fun i σ H' => Same H11 H' ∧ ∃ y5 y10 y11, σ = [some (.ref st), some (.ref d), some (.ref p), some (.ref pv), some (.str (shT (sheetS (mkS ds)) 0 0 (mkS ds).moves)), y5, some (.int mo), some (.ref b), some (.ref pl), some (.str (dueS c i)), y10, y11, none])
          ⟨Same.refl _, _, _, _, rfl⟩ (fun i σ H' _ z => Same.sqT z.1 hpl11) ?_ ?_
        · rintro i x σ H12 hx ⟨s12, y5, y10, y11, rfl⟩
          obtain ⟨t, pr, rfl, ht, hpr, hB, ed⟩ : ∃ (t : Addr) (pr : RW), x = .ref t ∧ SqT K H12 t [.int pr.1, .int pr.2] ∧ SmR pr ∧ (dueS c i).length ≤ 300 * 61 + 3 + 122 ∧ frS pr (dueS c i) = dueS c (i + 1) := by
            match i, hx with
            | 0, hx => cases hx; exact ⟨t5, _, rfl, Same.sqT s12 (Same.sqT s11 h5), q1, Nat.le_trans d0 (by decide), rfl⟩
            | 1, hx => cases hx; exact ⟨t6, _, rfl, Same.sqT s12 (Same.sqT s11 h6), q2, (frS_len q1 d0).2.2.2, rfl⟩
            | k + 2, hx => cases hx
          obtain ⟨f1, f2, f3, _⟩ := frS_len hpr hB
          refine ⟨t, _, rfl, ht, rfl, _, _, rfl, _, _, rfl, rfl, ?_⟩
          refine ⟨_, rfl, _, _, rfl, rfl, Nat.le_trans (Nat.add_le_add hB (show (" " : Str).length ≤ 1 by decide)) (by decide), _, rfl, pr.1, rfl, nt_log hpr.1, _, _, rfl, rfl, Nat.le_trans (Nat.add_le_add f1 (nt_len hpr.1)) (by decide), _, _, rfl, rfl, Nat.le_trans (Nat.add_le_add f2 (show ("/" : Str).length ≤ 1 by decide)) (by decide), _, rfl, pr.2, rfl, nt_log hpr.2, _, _, rfl, rfl, Nat.le_trans (Nat.add_le_add f3 (nt_len hpr.2)) (by decide), s12, y5, some (.int pr.1), some (.int pr.2), ?_⟩
          rw [← ed]
          rfl
        rintro σ H12 ⟨s12, y5, y10, y11, rfl⟩
        have dc12 := (dc10.same s11).same s12
        obtain ⟨dx12, dob12⟩ := dc12.ob
        have la : ("at " : Str).length + (nT mo).length ≤ 3 + 60 := Nat.add_le_add (show ("at " : Str).length ≤ 3 by decide) (nt_len (by omega))
        refine ⟨_, rfl, d, dx12, _, rfl, dob12, rfl, _, rfl, mo, rfl, nt_log (by omega), _, _, rfl, rfl, Nat.le_trans la (by decide), d, p', D', m', L', R', B', M', n, ds, N, _, rfl, dc12, I, hN, .inl ⟨("at " : Str) ++ nT mo, "at", [nT mo], rfl, ?_, ?_, .inr ⟨at_ok (by omega) (by omega), .inr (.inr (.inr (.inr (.inl ⟨mo, rfl, ?_, fun e => absurd e ?_, fun _ z => absurd z he, fun _ _ H13 s13 => ?_⟩))))⟩⟩⟩
        · exact Nat.le_trans (js_len (show ("at " : Str).length ≤ 3 by decide) (nt_len (by omega))) (by decide)
        · rw [at_line]
          exact one_split (by decide +kernel) (by omega) (by omega)
        · show [iv (nT mo)] = [mo]
          rw [(nT_ok (i := mo) (by omega) (by omega)).2.1]
        · rw [show isW (.int mo) 0 1000000000 = true from decide_eq_true ⟨a7, by omega⟩]
          decide
        · refine ⟨_, rfl, rfl, ?_⟩
          rw [hc, due_eq, decide_eq_true (show V.str (dueS c 2) = .str (dueS c [V.ref t5, V.ref t6].length) from rfl)]
          exact q _ (g010.trans (gx_same ((s11.trans s12).trans s13)))
end

structure RR where
  p : Addr
  D : Addr
  m : Addr
  L : Addr
  R : Addr
  B : Addr
  M : Addr
  n : Int
  ds : List (Int × Dd)
def RR.C (r : RR) (K : PySem.W.Frag) (CT : Nat → Addr) (H : Hp) : Prop := RollC K CT H r.p r.D r.m r.L r.R r.B r.M r.n r.ds
def Apart (r s : RR) : Prop := r.p ≠ s.p ∧ r.p ≠ s.m ∧ r.D ≠ s.D ∧ r.D ≠ s.R ∧ r.D ≠ s.B
section
variable {K : PySem.W.Frag} {CT : Nat → Addr} {H H' : Hp} {r s : RR}
theorem RR.C.other (h : s.C K CT H) (tk : TKeep K H H') (k : ∀ y o, (y = s.p ∨ y = s.D ∨ y = s.m ∨ y = s.L ∨ y = s.R ∨ y = s.B ∨ y = s.M) → H y = some o → H' y = some o) : s.C K CT H' := by
  obtain ⟨⟨dx, h1⟩, ⟨kvs, h2, h3⟩, h4, a, b, c⟩ := h
  exact ⟨⟨dx, k _ _ (.inl rfl) h1⟩, ⟨kvs, k _ _ (.inr (.inl rfl)) h2, AsP.mono (fun _ _ => DeedAt.keep tk) h3⟩, h4.keep tk (fun o => k _ o (.inr (.inr (.inl rfl)))) (fun o => k _ o (.inr (.inr (.inr (.inl rfl))))) (fun o => k _ o (.inr (.inr (.inr (.inr (.inl rfl)))))) (fun o => k _ o (.inr (.inr (.inr (.inr (.inr (.inl rfl))))))) (fun o => k _ o (.inr (.inr (.inr (.inr (.inr (.inr rfl))))))), a, b, c⟩
/-- what stands where a roll is -/
structure ROb (K : PySem.W.Frag) (CT : Nat → Addr) (H : Hp) (s : RR) : Prop where
  p : ∃ dx fs, H s.p = some (.ins (CT 1) dx fs)
  D : ∃ kvs, H s.D = some (.dK kvs)
  m : ∃ dx fs, H s.m = some (.ins (CT 0) dx fs)
  L : ∃ us, H s.L = some (.lst us)
  R : ∃ kvs, H s.R = some (.dK kvs)
  B : ∃ kvs, H s.B = some (.dK kvs)
  M : ∃ us, H s.M = some (.lst us)
theorem RR.C.ro (h : s.C K CT H) : ROb K CT H s := by
  obtain ⟨⟨dx, h1⟩, ⟨kvs, h2, h3⟩, h4, a, b, c⟩ := h
  obtain ⟨⟨dm, m1⟩, m2, ⟨kr, m3, _⟩, ⟨kb, m4, _⟩, ⟨ms, m5, _⟩, _, _⟩ := h4
  exact ⟨⟨_, _, h1⟩, ⟨_, h2⟩, ⟨_, _, m1⟩, ⟨_, m2⟩, ⟨_, m3⟩, ⟨_, m4⟩, ⟨_, m5⟩⟩
theorem RR.C.step (h : s.C K CT H) (hr : r.C K CT H) (ap : Apart r s) (k : ∀ y o, y ≠ r.p → y ≠ r.D → H y = some o → H' y = some o) : s.C K CT H' := by
  obtain ⟨⟨_, _, p1⟩, ⟨_, d1⟩, _, _, _, _, _⟩ := hr.ro
  obtain ⟨⟨_, _, sp⟩, ⟨_, sD⟩, ⟨_, _, sm⟩, ⟨_, sL⟩, ⟨_, sR⟩, ⟨_, sB⟩, ⟨_, sM⟩⟩ := h.ro
  obtain ⟨a1, a2, a3, a4, a5⟩ := ap
  refine h.other (KeepL.tk (keep2 p1 d1 k)) fun y o hy e => ?_
  rcases hy with rfl | rfl | rfl | rfl | rfl | rfl | rfl
  · exact k _ _ (Ne.symm a1) (ne_of sp d1 (by intro z; cases z)) e
  · exact k _ _ (ne_of sD p1 (by intro z; cases z)) (Ne.symm a3) e
  · exact k _ _ (Ne.symm a2) (ne_of sm d1 (by intro z; cases z)) e
  · exact k _ _ (ne_of sL p1 (by intro z; cases z)) (ne_of sL d1 (by intro z; cases z)) e
  · exact k _ _ (ne_of sR p1 (by intro z; cases z)) (Ne.symm a4) e
  · exact k _ _ (ne_of sB p1 (by intro z; cases z)) (Ne.symm a5) e
  · exact k _ _ (ne_of sM p1 (by intro z; cases z)) (ne_of sM d1 (by intro z; cases z)) e
theorem no_of {x y : Addr} {o : HO} (h : H x = none) (e : H y = some o) : x ≠ y := fun z => by
  rw [z, e] at h
  cases h
theorem Apart.fresh1 (h : s.C K CT H) (np : H r.p = none) (nD : H r.D = none) : Apart r s := by
  obtain ⟨⟨_, _, sp⟩, ⟨_, sD⟩, ⟨_, _, sm⟩, ⟨_, sL⟩, ⟨_, sR⟩, ⟨_, sB⟩, ⟨_, sM⟩⟩ := h.ro
  exact ⟨no_of np sp, no_of np sm, no_of nD sD, no_of nD sR, no_of nD sB⟩
theorem Apart.fresh2 (h : s.C K CT H) (np : H r.p = none) (nm : H r.m = none) (nD : H r.D = none) (nR : H r.R = none) (nB : H r.B = none) : Apart s r := by
  obtain ⟨⟨_, _, sp⟩, ⟨_, sD⟩, ⟨_, _, sm⟩, ⟨_, sL⟩, ⟨_, sR⟩, ⟨_, sB⟩, ⟨_, sM⟩⟩ := h.ro
  exact ⟨(no_of np sp).symm, (no_of nm sp).symm, (no_of nD sD).symm, (no_of nR sD).symm, (no_of nB sD).symm⟩
end
theorem DsI.more {ds : List (Int × Dd)} {n : Int} {N N' : Nat} (h : DsI ds n N) (hN : N ≤ N') : DsI ds n N' := ⟨h.wf, h.nd, h.pos, h.lt, h.n0, Nat.le_trans h.len hN⟩

/-! ### a desk and a roll beside it -/
structure WK (K : PySem.W.Frag) (CT : Nat → Addr) (TS : List (Addr × Str)) (st d p : Addr) (H : Hp) (r s : RR) (n : Int) (ds : List (Int × Dd)) (n' : Int) (ds' : List (Int × Dd)) : Prop where
  hs : IsSx H st
  ht : LamX.Tabs TS H
  rc : r.C K CT H
  sc : s.C K CT H
  dk : ∃ dx, H d = some (.ins (CT 2) dx (fK s.p))
  dp : d ≠ s.p
  dr : d ≠ r.p
  rL : r.L ≠ st
  rM : r.M ≠ st
  sL : s.L ≠ st
  sM : s.M ≠ st
  ap : Apart r s
  ap' : Apart s r
  ep : r.p = p
  rn : r.n = n
  rd : r.ds = ds
  sn : s.n = n'
  sd : s.ds = ds'
theorem Apart.stepL {K : PySem.W.Frag} {CT : Nat → Addr} {H : Hp} {r s r' : RR} (a : Apart r s) (sc : s.C K CT H) (hp : r'.p = r.p) (hD : r'.D = r.D ∨ H r'.D = none) : Apart r' s := by
  obtain ⟨a1, a2, a3, a4, a5⟩ := a
  obtain ⟨⟨_, _, sp⟩, ⟨_, sD⟩, ⟨_, _, sm⟩, ⟨_, sL⟩, ⟨_, sR⟩, ⟨_, sB⟩, ⟨_, sM⟩⟩ := sc.ro
  refine ⟨by rw [hp]; exact a1, by rw [hp]; exact a2, ?_, ?_, ?_⟩
  · rcases hD with z | z
    · rw [z]; exact a3
    · exact no_of z sD
  · rcases hD with z | z
    · rw [z]; exact a4
    · exact no_of z sR
  · rcases hD with z | z
    · rw [z]; exact a5
    · exact no_of z sB
theorem Apart.stepR {K : PySem.W.Frag} {CT : Nat → Addr} {H : Hp} {r s r' : RR} (a : Apart s r) (sc : s.C K CT H) (hp : r'.p = r.p) (hD : r'.D = r.D ∨ H r'.D = none) (nm : H r'.m = none) (nR : H r'.R = none) (nB : H r'.B = none) : Apart s r' := by
  obtain ⟨a1, a2, a3, a4, a5⟩ := a
  obtain ⟨⟨_, _, sp⟩, ⟨_, sD⟩, ⟨_, _, sm⟩, ⟨_, sL⟩, ⟨_, sR⟩, ⟨_, sB⟩, ⟨_, sM⟩⟩ := sc.ro
  refine ⟨by rw [hp]; exact a1, (no_of nm sp).symm, ?_, (no_of nR sD).symm, (no_of nB sD).symm⟩
  rcases hD with z | z
  · rw [z]; exact a3
  · exact (no_of z sD).symm
section
variable {K : PySem.W.Frag} {CT : Nat → Addr} {TS : List (Addr × Str)} {st d p : Addr} {H H' : Hp} {r s r' s' : RR} {n n' n1 : Int} {ds ds' ds1 : List (Int × Dd)}
theorem WK.rcc (h : WK K CT TS st d p H r s n ds n' ds') : RollC K CT H p r.D r.m r.L r.R r.B r.M n ds := by
  have := h.rc
  unfold RR.C at this
  rw [h.rn, h.rd, h.ep] at this
  exact this
theorem WK.dc (h : WK K CT TS st d p H r s n ds n' ds') : DeskC K CT H d s.p s.D s.m s.L s.R s.B s.M n' ds' := by
  have := h.sc
  unfold RR.C at this
  rw [h.sn, h.sd] at this
  exact ⟨h.dk, this, h.dp⟩
theorem WK.dst (h : WK K CT TS st d p H r s n ds n' ds') : d ≠ st := by
  obtain ⟨_, _, e, _⟩ := h.hs
  obtain ⟨_, h1⟩ := h.dk
  exact ne_of h1 e (by intro z; cases z)
theorem WK.gw (h : WK K CT TS st d p H r s n ds n' ds') (g : Gw TS st H H') : WK K CT TS st d p H' r s n ds n' ds' := by
  obtain ⟨dx, h1⟩ := h.dk
  exact ⟨g.2.1 h.hs, g.2.2 h.ht, RollC.gw h.rc h.hs h.rL h.rM g, RollC.gw h.sc h.hs h.sL h.sM g, ⟨dx, g.1 _ _ h.dst ins_tbl h1⟩, h.dp, h.dr, h.rL, h.rM, h.sL, h.sM, h.ap, h.ap', h.ep, h.rn, h.rd, h.sn, h.sd⟩
theorem WK.kl (h : WK K CT TS st d p H r s n ds n' ds') (k : ∀ y o, y ≠ r.p → y ≠ r.D → H y = some o → H' y = some o) : KeepL H H' := by
  obtain ⟨⟨_, _, p1⟩, ⟨_, d1⟩, _, _, _, _, _⟩ := h.rc.ro
  exact keep2 p1 d1 k
theorem WK.kl' (h : WK K CT TS st d p H r s n ds n' ds') (k : ∀ y o, y ≠ s.p → y ≠ s.D → H y = some o → H' y = some o) : KeepL H H' := by
  obtain ⟨⟨_, _, p1⟩, ⟨_, d1⟩, _, _, _, _, _⟩ := h.sc.ro
  exact keep2 p1 d1 k
theorem WK.stepR (h : WK K CT TS st d p H r s n ds n' ds') (k : ∀ y o, y ≠ r.p → y ≠ r.D → H y = some o → H' y = some o) (hp : r'.p = r.p) (hD : r'.D = r.D ∨ H r'.D = none)
    (nL : H r'.L = none) (nM : H r'.M = none) (nm : H r'.m = none) (nR : H r'.R = none) (nB : H r'.B = none) (hc : r'.C K CT H') (e1 : r'.n = n1) (e2 : r'.ds = ds1) : WK K CT TS st d p H' r' s n1 ds1 n' ds' := by
  have kl := h.kl k
  obtain ⟨dx, h1⟩ := h.dk
  obtain ⟨_, ⟨_, d1⟩, _, _, _, _, _⟩ := h.rc.ro
  exact ⟨kl.sx h.hs, kl.tabs h.ht, hc, h.sc.step h.rc h.ap k, ⟨dx, k _ _ h.dr (ne_of h1 d1 (by intro z; cases z)) h1⟩, h.dp, by rw [hp]; exact h.dr, sx_ne h.hs nL, sx_ne h.hs nM, h.sL, h.sM, h.ap.stepL h.sc hp hD, h.ap'.stepR h.sc hp hD nm nR nB, hp.trans h.ep, e1, e2, h.sn, h.sd⟩
theorem WK.stepS (h : WK K CT TS st d p H r s n ds n' ds') (k : ∀ y o, y ≠ s.p → y ≠ s.D → H y = some o → H' y = some o) (hp : s'.p = s.p) (hD : s'.D = s.D ∨ H s'.D = none)
    (nL : H s'.L = none) (nM : H s'.M = none) (nm : H s'.m = none) (nR : H s'.R = none) (nB : H s'.B = none) (hc : s'.C K CT H') (e1 : s'.n = n1) (e2 : s'.ds = ds1) : WK K CT TS st d p H' r s' n ds n1 ds1 := by
  have kl := h.kl' k
  obtain ⟨dx, h1⟩ := h.dk
  obtain ⟨_, ⟨_, d1⟩, _, _, _, _, _⟩ := h.sc.ro
  exact ⟨kl.sx h.hs, kl.tabs h.ht, h.rc.step h.sc h.ap' k, hc, ⟨dx, by rw [hp]; exact k _ _ h.dp (ne_of h1 d1 (by intro z; cases z)) h1⟩, by rw [hp]; exact h.dp, h.dr, h.rL, h.rM, sx_ne h.hs nL, sx_ne h.hs nM, h.ap.stepR h.rc hp hD nm nR nB, h.ap'.stepL h.rc hp hD, h.ep, h.rn, h.rd, e1, e2⟩
end
theorem DkI.more {ds : List (Int × Dd)} {n : Int} {N : Nat} (h : DkI ds n N) : DkI ds n (N + 1) := ⟨h.J.more (Nat.le_succ _), by have := h.nN; omega, h.gd, h.rm⟩
theorem DkI.putS {ds : List (Int × Dd)} {n : Int} {N : Nat} {δ : Dd} (h : DkI ds n N) (g : GoodD δ) : DkI (Lan.putS ds n δ) (putN ds n δ) (N + 1) := by
  by_cases hc : fitsL ds δ = true ∧ roomS (mkS (ds ++ [(n, δ)])) = none
  · have := h.put (δ := δ) (by rw [tak_fits (lnk h.J.wf h.J.nd) g]; exact hc.1) (by rw [← mkS_snoc]; exact hc.2)
    rw [show Lan.putS ds n δ = ds ++ [(n, δ)] from if_pos hc, show putN ds n δ = n + 1 from if_pos hc]
    exact this
  · rw [show Lan.putS ds n δ = ds from if_neg hc, show putN ds n δ = n from if_neg hc]
    exact h.more
theorem DkI.undS {ds : List (Int × Dd)} {n : Int} {N : Nat} (h : DkI ds n N) (k : Int) : DkI (Lan.undS ds (.int k)) n N := by
  by_cases hc : keyB ds (.int k) = true ∧ leanL ds (intD (.int k)) = [] ∧ roomS (mkS (asDrop ds (intD (.int k)))) = none
  · rw [show Lan.undS ds (.int k) = asDrop ds k from if_pos hc]
    exact h.und hc.2.1 hc.2.2
  · rw [show Lan.undS ds (.int k) = ds from if_neg hc]
    exact h
/-! ### what a desk answers where a roll does -/
def ansX : Out → PyData
  | .num n => .str (nT n)
  | .nil => .str "ok"
  | o => o.x
def ansD (o : Out) : PyData := .tuple [.str o.w, ansX o]
def AnsAt (K : PySem.W.Frag) (H : Hp) (v : V) (o : Out) : Prop := ∃ u x, v = .ref u ∧ SqT K H u [.str o.w, x] ∧ Dk K H x (ansX o)
theorem AnsAt.keep {K : PySem.W.Frag} {H H' : Hp} {v : V} {o : Out} (k : TKeep K H H') (h : AnsAt K H v o) : AnsAt K H' v o := by
  obtain ⟨u, x, e, h1, h2⟩ := h
  exact ⟨u, x, e, k _ _ h1, h2.keep k⟩
theorem AnsAt.dp {K : PySem.W.Frag} {H : Hp} {v : V} {o : Out} (h : AnsAt K H v o) : Dp K H v (ansD o) := by
  obtain ⟨u, x, rfl, h1, h2⟩ := h
  exact .tup h1 (.cons (.str _) (.cons h2.dp .nil))
theorem nT_strOk (i : Int) : PyData.strOk (nT i) = true := by
  refine uok_str fun c hc => ?_
  have e : TL.tl (nT i) = (toString i).toList.map Char.toNat := by
    show (Str.ofString (toString i)).cps.toList = _
    rw [signs_ofString]
  rw [e] at hc
  obtain ⟨ch, _, rfl⟩ := List.mem_map.mp hc
  rcases ch.valid with h | ⟨_, h⟩
  · exact Nat.lt_trans h (by decide)
  · exact h
theorem ans_sd (o : Out) : ∃ k, Sd k (ansD o) ∧ k ≤ 64 := by
  cases o with
  | num n =>
    refine ⟨2, Sd.tup fun e he => ?_, by decide⟩
    rcases mem2 he with rfl | rfl
    · exact (show Sd 1 (.str "told") from Sd.st (by decide +kernel))
    · exact (show Sd 1 (.str (nT n)) from Sd.st (nT_strOk n))
  | nil =>
    refine ⟨2, Sd.tup fun e he => ?_, by decide⟩
    rcases mem2 he with rfl | rfl
    · exact (show Sd 1 (.str "told") from Sd.st (by decide +kernel))
    · exact (show Sd 1 (.str "ok") from Sd.st (by decide +kernel))
  | ref i => exact ⟨2, Out.sd (.ref i), by decide⟩
  | many a b => exact ⟨2, Out.sd (.many a b), by decide⟩
  | lean ns => exact ⟨2, Out.sd (.lean ns), by decide⟩
theorem dk_str {K : PySem.W.Frag} {H : Hp} {z : Str} : Dk K H (.str z) (.str z) := fun _ _ => .str z
theorem dk_pair {K : PySem.W.Frag} {H : Hp} {q : Addr} {a b : Int} (h : SqT K H q [.int a, .int b]) : Dk K H (.ref q) (.tuple [.int a, .int b]) := fun _ k => .tup (k _ _ h) (.cons (.int _) (.cons (.int _) .nil))
theorem put_nnil {ds : List (Int × Dd)} {n : Int} {δ : Dd} : putO ds n δ ≠ .nil := fun e => by
  unfold putO at e
  split at e
  · split at e <;> cases e
  · cases e
theorem put_num {ds : List (Int × Dd)} {n m : Int} {δ : Dd} (e : putO ds n δ = .num m) : m = n := by
  unfold putO at e
  split at e
  · split at e <;> cases e
    rfl
  · cases e
theorem und_nnum {ds : List (Int × Dd)} {d : PyData} {m : Int} : undO ds d ≠ .num m := fun e => by
  unfold undO at e
  split at e
  · split at e
    · split at e <;> cases e
    · cases e
  · cases e

theorem undo_line (k : Int) : ("undo " : Str) ++ nT k = oneT "undo" k := by
  unfold oneT
  rw [show ("undo" : Str) ++ " " = "undo " from by decide +kernel]
theorem undo_ok {k : Int} (h : -20 ≤ k) (h2 : k ≤ 1000000000) : rowOkW "undo" [nT k] = true := by
  unfold rowOkW
  rw [show nbW "undo" = some 1 by decide +kernel]
  have h0 : ∀ b : Bool, b = true → (decide (some (1 : Int) = some (([nT k].length : Nat) : Int)) && b) = true := fun b hb => by rw [hb]; rfl
  refine h0 _ (List.all_eq_true.mpr ?_)
  intro p hp
  rw [List.mem_singleton.mp hp]
  exact (nT_ok h h2).1
section
variable {P : Program} {w : World} {K : PySem.W.Frag} {mg : Str → Option Value} {base : Heap}
def sp_law (K : PySem.W.Frag) (TS : List (Addr × Str)) : Sp := fun vs H Q _ => ∃ (a : Addr) (ns : List Int), vs = [.ref a] ∧ SqL K H a (ns.map V.int) ∧ ns.length ≤ 63 ∧ LamX.Tabs TS H ∧ ∀ H', Q (.bl true) H'
theorem ok_law {f g cc PP : Addr} {fd fdm : FuncData} {c : Nat → Addr} {LE : Addr} {TS : List (Addr × Str)} (F : FunC K "law" "law" s_law f fd cc) (T : Txt K mg) (TX : ExcN K mg c LE) (MR : Mkr base mg cc PP "law" TS) {CT : Nat → Addr} (TC : ClT K w mg CT) (Fm : Fun K "_law_met" "_law_met" s__law_met g fdm) (mm : mg "_law_met" = some (.ref g)) (bm : Binds K fdm ["_law_call"] []) (DE : ClE P w K mg base 1 "_law_classes" ["_law_e"] (spCls c)) (D__law_state : Cl P w K mg base 2 "_law_state" ["_law_script", "_law_k"] (sp__law_state K)) (D_Desk__init : Mi P w K mg base 5 (CT 2) "Desk" ["self"] (sp_Desk__init K CT)) (D_Roll__init : Mi P w K mg base 3 (CT 1) "Roll" ["self"] (sp_Roll__init K CT)) (D__law_take : Cl P w K mg base 1 "_law_take" ["_law_state_here", "_law_many"] (sp__law_take K)) (D_Roll__standing : Ml P w K mg base 1 (CT 1) "standing" ["self"] (sp_Roll__standing K CT)) (D__law_deed : Cl P w K mg base 2 "_law_deed" ["_law_state_here", "_law_deeds"] (sp__law_deed K)) (D_Roll__put : MlX P w K mg base 7 (CT 1) "put" ["self", "deed"] (sp_Roll__put K c CT)) (D_Desk__tell : MlX P w K mg base 8 (CT 2) "tell" ["self", "row"] (sp_Desk__tell K c CT)) (D__law_line : Cl P w K mg base 1 "_law_line" ["_law_deed_here"] (sp__law_line K)) (D_Roll__undo : MlX P w K mg base 5 (CT 1) "undo" ["self", "number"] (sp_Roll__undo K c CT)) (D__law_same : Cl P w K mg base 9 "_law_same" ["_law_state_here", "_law_desk", "_law_roll"] (sp__law_same K CT)) : FnOk P w K mg base CX0 12 f fd ["_law_script"] (sp_law K TS) := by
  refine fun_okL F sc_law (fun vs H Q E h => ?_) (fun A outer s H vs Q E hr h => ?_)
  · obtain ⟨a, ns, rfl, _⟩ := h
    rfl
  · obtain ⟨a, ns, rfl, hS, hlen, hT0, q⟩ := h
    refine ⟨_, (pss_cons (ps_set (i := 1) sc_law.nd rfl (Or.inl rfl) (pe_own D__law_state (hr.mono (by omega)) (by rfl) (pa_cons (pv 0) (pa_cons pe_int pa_nil))))
      (pss_cons (ps_asg (pe_tup (pa_cons (pe_new D_Desk__init (hr.mono (by omega)) (by rfl)) (pa_cons (pe_new D_Roll__init (hr.mono (by omega)) (by rfl)) pa_nil))) (pg_tup (by rfl) (pgs_cons (pg_name (i := 2) sc_law.nd rfl (Or.inr rfl)) (pgs_cons (pg_name (i := 3) sc_law.nd rfl (Or.inr rfl)) pgs_nil))))
      (pss_cons (ps_for PassesOwn.never rfl (pi_range1 (by rfl) T.b_range (pa_cons (pe_own D__law_take (hr.mono (by omega)) (by rfl) (pa_cons (pv 1) (pa_cons pe_int pa_nil))) pa_nil)) (pg_name (i := 4) sc_law.nd rfl (Or.inl rfl))
        (pss_cons (ps_set (i := 5) sc_law.nd rfl (Or.inl rfl) (pe_mth0 D_Roll__standing TC.cR (hr.mono (by omega)) (pv 3)))
      (pss_cons (ps_set (i := 6) sc_law.nd rfl (Or.inr rfl) (pe_own D__law_deed (hr.mono (by omega)) (by rfl) (pa_cons (pv 1) (pa_cons (pv 5) pa_nil))))
      (pss_cons (ps_set (i := 7) sc_law.nd rfl (Or.inl rfl) (pe_met (k := 7) (met_mk Fm mm bm T TX DE (hr.mono (by omega))) (by rfl) MR.tb rfl MR.hm MR.hu (hr.mono (by omega)) (LamX.lamS_by (sc := defScope s_law) (by decide +kernel)) (fun A outer s H E f c' hr => (pe_mthX D_Roll__put TC.cR (hr.mono (by omega)) (takes_of rfl rfl rfl rfl) (pv 3) (pa_cons (pv 6) pa_nil)))))
      (pss_cons (ps_set (i := 8) sc_law.nd rfl (Or.inl rfl) (pe_met (k := 8) (met_mk Fm mm bm T TX DE (hr.mono (by omega))) (by rfl) MR.tb rfl MR.hm MR.hu (hr.mono (by omega)) (LamX.lamS_by (sc := defScope s_law) (by decide +kernel)) (fun A outer s H E f c' hr => (pe_mthX D_Desk__tell TC.cD (hr.mono (by omega)) (takes_of rfl rfl rfl rfl) (pv 2) (pa_cons (pe_own D__law_line (hr.mono (by omega)) (by rfl) (pa_cons (pv 6) pa_nil)) pa_nil)))))
      (C8.pss_cut (ps_if (pt_cmpR (op_neD hr.units) (pv 8) (pe_ifExp (pt_cmpR op_eq (pe_ix ix_tup (pv 7) pe_int (fun _ _ => rfl)) pe_str (nomark _)) (pe_tup (pa_cons pe_str (pa_cons (pe_callTy call_str_int (by rfl) T.b_str (by decide +kernel) (pa_cons (pe_ix ix_tup (pv 7) pe_int (fun _ _ => rfl)) pa_nil)) pa_nil))) (pv 7)) (nomark _)) (pss_one (ps_ret pe_bl)) pss_nil)
      (C8.pss_cut (ps_if (PW.pt (pw_and (pt_cmpR (op_neD hr.units) (pv 5) (pe_lst pa_nil) (nomark _)) (pw_and1 (pt_cmpR op_eq (pe_own D__law_take (hr.mono (by omega)) (by rfl) (pa_cons (pv 1) (pa_cons pe_int pa_nil))) pe_int (nomark _))))) (pss_cons (ps_set (i := 9) sc_law.nd rfl (Or.inr rfl) (pe_ix ix_tup (pe_ix ix_list (pv 5) (pe_own D__law_take (hr.mono (by omega)) (by rfl) (pa_cons (pv 1) (pa_cons (pe_callB call_len_seq (by rfl) T.b_len (by decide +kernel) (pa_cons (pv 5) pa_nil)) pa_nil))) (fun _ _ => rfl)) pe_int (fun _ _ => rfl)))
      (pss_cons (ps_set (i := 7) sc_law.nd rfl (Or.inl rfl) (pe_met (k := 5) (met_mk Fm mm bm T TX DE (hr.mono (by omega))) (by rfl) MR.tb rfl MR.hm MR.hu (hr.mono (by omega)) (LamX.lamS_by (sc := defScope s_law) (by decide +kernel)) (fun A outer s H E f c' hr => (pe_mthX D_Roll__undo TC.cR (hr.mono (by omega)) (takes_of rfl rfl rfl rfl) (pv 3) (pa_cons (pv 9) pa_nil)))))
      (pss_cons (ps_set (i := 8) sc_law.nd rfl (Or.inl rfl) (pe_met (k := 8) (met_mk Fm mm bm T TX DE (hr.mono (by omega))) (by rfl) MR.tb rfl MR.hm MR.hu (hr.mono (by omega)) (LamX.lamS_by (sc := defScope s_law) (by decide +kernel)) (fun A outer s H E f c' hr => (pe_mthX D_Desk__tell TC.cD (hr.mono (by omega)) (takes_of rfl rfl rfl rfl) (pv 2) (pa_cons (pe_op op_add_str pe_str (pe_callTy call_str_int (by rfl) T.b_str (by decide +kernel) (pa_cons (pv 9) pa_nil))) pa_nil)))))
      (pss_one (ps_if (pt_cmpR (op_neD hr.units) (pv 8) (pe_ifExp (pt_cmpR op_eq (pe_ix ix_tup (pv 7) pe_int (fun _ _ => rfl)) pe_str (nomark _)) (pe_tup (pa_cons pe_str (pa_cons pe_str pa_nil))) (pv 7)) (nomark _)) (pss_one (ps_ret pe_bl)) pss_nil))))) pss_nil)
      (pss_one (ps_if (pt_not (pt_val (pe_own D__law_same (hr.mono (by omega)) (by rfl) (pa_cons (pv 1) (pa_cons (pv 2) (pa_cons (pv 3) pa_nil)))))) (pss_one (ps_ret pe_bl)) pss_nil)))))))))
      (pss_one (ps_ret pe_bl))))), ?_⟩
    refine ⟨_, rfl, a, ns, _, rfl, hS, by omega, fun H1 st s1 n1 hs1 => ?_⟩
    have hT1 := hT0.ext s1
    intro d dx nd ndx nex
    have s2 : Same H1 (upd (upd H1 dx (.own d)) d (.ins (CT 2) dx [])) := fun b o e => by
      rw [upd_ne (ne_of_none e nd), upd_ne (ne_of_none e ndx)]
      exact e
    refine ⟨H1, d, dx, rfl, upd_same, s2, nd, fun H2 p' D' m' L' R' B' M' s2 np' nD' nL' nM' nm' nR' nB' dc => ⟨rfl, ?_⟩⟩
    intro p px np npx nex'
    have s3 : Same H2 (upd (upd H2 px (.own p)) p (.ins (CT 1) px [])) := fun b o e => by
      rw [upd_ne (ne_of_none e np), upd_ne (ne_of_none e npx)]
      exact e
    refine ⟨H2, p, px, rfl, upd_same, s3, np, fun H3 D m L R B M s3 nD nL nM nm nR nB rc => ⟨rfl, ?_⟩⟩
    refine ⟨(by show 2 ≤ sizeLine; decide), fun t nt => ?_⟩
    obtain ⟨s4, e4⟩ := new_at (.tup [.ref d, .ref p]) nt
    generalize upd H3 t (.tup [.ref d, .ref p]) = H4 at s4 e4 ⊢
    refine ⟨t, _, rfl, .inl (.inl e4), rfl, _, _, rfl, _, _, rfl, rfl, ?_⟩
    have W0 : WK K CT TS st d p H4 ⟨p, D, m, L, R, B, M, 0, []⟩ ⟨p', D', m', L', R', B', M', 0, []⟩ 0 [] 0 [] := by
      have scC : (⟨p', D', m', L', R', B', M', 0, []⟩ : RR).C K CT H2 := dc.rc
      have hs2 := (gx_same (st := st) s2).2.1 hs1
      have s14 := s2.trans (s3.trans s4)
      obtain ⟨dz, hdz⟩ := dc.ob
      exact ⟨(gx_same (st := st) s14).2.1 hs1, hT1.ext s14, rc.same s4, RollC.same scC (s3.trans s4), ⟨dz, s4 _ _ (s3 _ _ hdz)⟩, dc.np, (no_of np hdz).symm, sx_ne hs2 nL, sx_ne hs2 nM, sx_ne hs1 nL', sx_ne hs1 nM', Apart.fresh1 scC np nD, Apart.fresh2 scC np nm nD nR nB, rfl, rfl, rfl, rfl, rfl⟩
    have I0 : DkI [] 0 0 := ⟨⟨(fun i n δ h => by cases h), .nil, (fun x hx => by cases hx), (fun x hx => by cases hx), Int.le_refl _, Nat.le_refl _⟩, Int.le_refl _, (fun x hx => by cases hx), by decide +kernel⟩
    clear rc dc e4 s4 s3 s2
    refine ⟨_, rfl, st, 41, rfl, W0.hs, by decide, by decide, fun r5 H5 r0 r1 g5 => ⟨r5, rfl, by omega, by omega, ?_⟩⟩
    refine for_range (lo := 0) (n := r5.toNat) (fun j σ H' => ∃ r s n ds, WK K CT TS st d p H' r s n ds n ds ∧ DkI ds n j ∧ ∃ y4 y5 y6 y7 y8 y9, σ = [some (.ref a), some (.ref st), some (.ref d), some (.ref p), y4, y5, y6, y7, y8, y9])
      ⟨_, _, _, _, W0.gw g5.l, I0, _, _, _, _, _, _, rfl⟩ ?_ (fun _ H' _ => q H')
    clear W0 I0 g5
    rintro j σ H6 hj ⟨r, s, n, ds, W, I, y4, y5, y6, y7, y8, y9, rfl⟩
    have hj41 : j ≤ 41 := by omega
    have l3 : ds.length ≤ 300 := Nat.le_trans I.J.len (by omega)
    obtain ⟨px, pob⟩ := W.rcc.ob
    refine ⟨_, rfl, p, px, _, rfl, pob, rfl, p, r.D, r.m, r.L, r.R, r.B, r.M, n, ds, rfl, W.rcc, fun H7 X us s7 nX eX pd => ?_⟩
    have nXs := sx_ne W.hs nX
    have hA7 : LdK K H7 X ds := ⟨us, eX, pd⟩
    have W7 := W.gw (gw_same s7)
    clear W pob eX pd nX s7
    have rng : ∀ x ∈ ds, 0 ≤ x.1 ∧ x.1 ≤ 1000 := fun x hx => by
      have h1 := I.J.pos x hx
      have h2 := I.J.lt x hx
      have h3 := I.nN
      omega
    refine ⟨_, rfl, _, rfl, st, X, ds, rfl, W7.hs, hA7, l3, rng, fun H8 v δ g8 hv hg hsm => ?_⟩
    have W8 := W7.gw (g8.l (TS := TS))
    have hA8 := hA7.gw W7.hs nXs (g8.l (TS := TS))
    clear W7 hA7 g8
    have L := lnk I.J.wf I.J.nd
    have et := tak_fits L hg
    -- put on the roll
    dsimp only
    refine seqA (fun u H' => DueAt K H' u (putO ds n δ) ∧ DeedAt K H' v δ ∧ LdK K H' X ds ∧ ∃ r', WK K CT TS st d p H' r' s (putN ds n δ) (putS ds n δ) n ds) (fun Q' k => ?_) (fun u Ha z => ?_)
    · refine ⟨W8.ht, fun H9 e9 t9 => ?_⟩
      have g9 : Gw TS st H8 H9 := gw_ext (st := st) e9 t9
      have W9 := W8.gw g9
      have hv9 := hv.keep (g9.tk W8.hs)
      have hA9 := hA8.gw W8.hs nXs g9
      obtain ⟨px, pob⟩ := W9.rcc.ob
      refine ⟨_, rfl, p, px, _, rfl, pob, rfl, _, rfl, p, r.D, r.m, r.L, r.R, r.B, r.M, n, ds, H9, true, v, ddD δ, rfl, W9.rcc, ⟨l3, I.J.lt⟩, I.J.small (by omega), lnk_nd I.J.wf I.J.nd, hv9.dg, ?_, fun hf Ha sa => ?_, fun hf => ⟨δ, hv9, ?_, ?_, fun b1 b2 hr Ha d' sa nd' ed' => ?_, fun hr Ha m2 L2 R2 B2 M2 ka nL2 nM2 nm2 nR2 nB2 rca => ?_⟩⟩
      · intro es e
        injection e with e
        rw [← e]
        show (δ.nums.map PyData.int).length + 1 ≤ 1000
        rw [List.length_map]
        have := nums_le δ
        omega
      · rw [et] at hf
        have eo : putO ds n δ = .ref 11 := if_neg (by rw [hf]; decide)
        have es : putS ds n δ = ds := if_neg fun z => by rw [hf] at z; exact absurd z.1 (by decide)
        have en : putN ds n δ = n := if_neg fun z => by rw [hf] at z; exact absurd z.1 (by decide)
        refine ⟨11, by decide, rfl, fun dd e => (nomatch e), fun _ Hb t2 sb nt2 et2 => k _ _ ?_, fun z => absurd z (by decide), fun z => absurd z (by decide)⟩
        have gb : Gw TS st H9 Hb := gw_same (sa.trans sb)
        rw [eo, es, en]
        exact ⟨⟨t2, _, rfl, .inl (.inl et2), dk_int⟩, hv9.keep (Same.tk (sa.trans sb)), hA9.gw W9.hs nXs gb, r, W9.gw gb⟩
      · rw [et] at hf
        exact fits_ok L hf
      · rw [et] at hf
        rw [← mkS_snoc]
        exact lnk_nd (wf_snoc I.J.wf (fits_ok L hf)) (nd_snoc I.J.nd I.J.notin)
      · rw [et] at hf
        rw [← mkS_snoc] at hr
        have eo : putO ds n δ = .many b1 b2 := by
          unfold putO
          rw [if_pos hf, hr]
        have es : putS ds n δ = ds := if_neg fun z => by rw [hr] at z; exact nomatch z.2
        have en : putN ds n δ = n := if_neg fun z => by rw [hr] at z; exact nomatch z.2
        refine ⟨14, by decide, rfl, fun dd e => ⟨_, by cases e; exact ed'⟩, fun z => absurd z (by decide), fun _ => ⟨d', _, _, _, rfl, ed', rfl, rfl, fun Hb t2 q2 sb npd eq ep => k _ _ ?_⟩, fun z => absurd z (by decide)⟩
        have gb : Gw TS st H9 Hb := gw_same (sa.trans sb)
        rw [eo, es, en]
        exact ⟨⟨t2, _, rfl, .inl (.inl ep), dk_two (.inl (.inl eq))⟩, hv9.keep (Same.tk (sa.trans sb)), hA9.gw W9.hs nXs gb, r, W9.gw gb⟩
      · rw [et] at hf
        rw [← mkS_snoc] at hr
        have eo : putO ds n δ = .num n := by
          unfold putO
          rw [if_pos hf, hr]
        have es : putS ds n δ = ds ++ [(n, δ)] := if_pos ⟨hf, hr⟩
        have en : putN ds n δ = n + 1 := if_pos ⟨hf, hr⟩
        refine ⟨(by show 2 ≤ sizeLine; decide), fun t2 nt2 => k _ _ ?_⟩
        have ka' : ∀ y o, y ≠ r.p → y ≠ r.D → H9 y = some o → Ha y = some o := fun y o h1 => ka y o (by rw [← W9.ep]; exact h1)
        have Wa := W9.stepR (r' := ⟨p, r.D, m2, L2, R2, B2, M2, n + 1, ds ++ [(n, δ)]⟩) ka' W9.ep.symm (.inl rfl) nL2 nM2 nm2 nR2 nB2 rca rfl rfl
        have kl := W9.kl ka'
        obtain ⟨sb, eb⟩ := new_at (.tup [.str "told", .int n]) nt2
        generalize upd Ha t2 (.tup [.str "told", .int n]) = Hb at sb eb ⊢
        rw [eo, es, en]
        exact ⟨⟨t2, _, rfl, .inl (.inl eb), dk_int⟩, (hv9.keep kl.tk).keep (Same.tk sb), (kl.ld hA9).same sb, _, Wa.gw (gw_same sb)⟩
    obtain ⟨hu, hva, hAa, r2, Wa⟩ := z
    clear W8 hA8 hv
    -- told to the desk
    refine seqA (fun u2 H' => AnsAt K H' u2 (putO ds n δ) ∧ DueAt K H' u (putO ds n δ) ∧ LdK K H' X ds ∧ ∃ s', WK K CT TS st d p H' r2 s' (putN ds n δ) (putS ds n δ) (putN ds n δ) (putS ds n δ)) (fun Q' k => ?_) (fun u2 Hc z => ?_)
    · refine ⟨Wa.ht, fun H9 e9 t9 => ?_⟩
      have g9 : Gw TS st Ha H9 := gw_ext (st := st) e9 t9
      have W9 := Wa.gw g9
      have hv9 := hva.keep (g9.tk Wa.hs)
      have hA9 := hAa.gw Wa.hs nXs g9
      have hu9 := hu.keep (g9.tk Wa.hs)
      obtain ⟨dx, dob⟩ := W9.dc.ob
      refine ⟨_, rfl, d, dx, _, rfl, dob, rfl, _, rfl, v, δ, rfl, hv9, hsm, fun H10 s10 => ?_⟩
      have g10 : Gw TS st H9 H10 := gw_same s10
      have W10 := W9.gw g10
      have hA10 := hA9.gw W9.hs nXs g10
      have hu10 := hu9.keep (Same.tk s10)
      refine ⟨d, s.p, s.D, s.m, s.L, s.R, s.B, s.M, n, ds, j, _, rfl, W10.dc, I, by omega, .inl ⟨lineT δ, δ.word, δ.nums.map nT, rfl, lineT_len hsm, line_split hsm, .inr ⟨line_ok hsm, .inl ⟨δ, by rw [line_iv hsm]; exact dOf_line δ, fun hf Ha sa => ?_, fun hf => ⟨fun b1 b2 hr Ha d' sa nd' ed' => ?_, fun hr Ha m2 L2 R2 B2 M2 ka nL2 nM2 nm2 nR2 nB2 dca => ?_⟩⟩⟩⟩⟩
      · rw [et] at hf
        have eo : putO ds n δ = .ref 11 := if_neg (by rw [hf]; decide)
        have es : putS ds n δ = ds := if_neg fun z => by rw [hf] at z; exact absurd z.1 (by decide)
        have en : putN ds n δ = n := if_neg fun z => by rw [hf] at z; exact absurd z.1 (by decide)
        refine ⟨11, by decide, rfl, fun dd e => (nomatch e), fun _ Hb t2 sb nt2 et2 => k _ _ ?_, fun z => absurd z (by decide), fun z => absurd z (by decide)⟩
        have gb : Gw TS st H10 Hb := gw_same (sa.trans sb)
        rw [eo] at hu10 ⊢
        rw [es, en] at W10 ⊢
        exact ⟨⟨t2, _, rfl, .inl (.inl et2), dk_int⟩, hu10.keep (Same.tk (sa.trans sb)), hA10.gw W10.hs nXs gb, s, W10.gw gb⟩
      · rw [et] at hf
        rw [← mkS_snoc] at hr
        have eo : putO ds n δ = .many b1 b2 := by
          unfold putO
          rw [if_pos hf, hr]
        have es : putS ds n δ = ds := if_neg fun z => by rw [hr] at z; exact nomatch z.2
        have en : putN ds n δ = n := if_neg fun z => by rw [hr] at z; exact nomatch z.2
        refine ⟨14, by decide, rfl, fun dd e => ⟨_, by cases e; exact ed'⟩, fun z => absurd z (by decide), fun _ => ⟨d', _, _, _, rfl, ed', rfl, rfl, fun Hb t2 q2 sb npd eq ep => k _ _ ?_⟩, fun z => absurd z (by decide)⟩
        have gb : Gw TS st H10 Hb := gw_same (sa.trans sb)
        rw [eo] at hu10 ⊢
        rw [es, en] at W10 ⊢
        exact ⟨⟨t2, _, rfl, .inl (.inl ep), dk_two (.inl (.inl eq))⟩, hu10.keep (Same.tk (sa.trans sb)), hA10.gw W10.hs nXs gb, s, W10.gw gb⟩
      · rw [et] at hf
        rw [← mkS_snoc] at hr
        have eo : putO ds n δ = .num n := by
          unfold putO
          rw [if_pos hf, hr]
        have es : putS ds n δ = ds ++ [(n, δ)] := if_pos ⟨hf, hr⟩
        have en : putN ds n δ = n + 1 := if_pos ⟨hf, hr⟩
        refine ⟨(by show 2 ≤ sizeLine; decide), fun t2 nt2 => k _ _ ?_⟩
        have Wb := W10.stepS (s' := ⟨s.p, s.D, m2, L2, R2, B2, M2, n + 1, ds ++ [(n, δ)]⟩) ka rfl (.inl rfl) nL2 nM2 nm2 nR2 nB2 dca.rc rfl rfl
        have kl := W10.kl' ka
        obtain ⟨sb, eb⟩ := new_at (.tup [.str "told", .str (nT n)]) nt2
        generalize upd Ha t2 (.tup [.str "told", .str (nT n)]) = Hb at sb eb ⊢
        rw [eo] at hu10 ⊢
        rw [es, en] at Wb ⊢
        exact ⟨⟨t2, _, rfl, .inl (.inl eb), dk_str⟩, (hu10.keep kl.tk).keep (Same.tk sb), (kl.ld hA10).same sb, _, Wb.gw (gw_same sb)⟩
    obtain ⟨hu2, huc, hAc, s2, Wc⟩ := z
    clear Wa hva hAa hu
    have I2 := I.putS hg
    have hn41 : n ≤ 41 := by have := I.nN; omega
    -- both answer alike
    obtain ⟨u', x', rfl, hu1, hx'⟩ := huc
    refine ⟨fun σ' H' => σ' = [some (.ref a), some (.ref st), some (.ref d), some (.ref p), some (.int (0 + (j : Int))), some (.ref X), some v, some (.ref u'), some u2, y9] ∧ LdK K H' X ds ∧ WK K CT TS st d p H' r2 s2 (putN ds n δ) (putS ds n δ) (putN ds n δ) (putS ds n δ), ?_, ?_⟩
    · refine ⟨_, rfl, _, rfl, u', _, 0, _, rfl, rfl, hu1, at0, rfl, _, rfl, ite2 (fun e => ?_) (fun e => ?_)⟩
      · have ew : (putO ds n δ).w = "told" := by
          have := of_decide_eq_true e
          injection this
        obtain ⟨m0, em⟩ : ∃ m0, putO ds n δ = .num m0 := by
          cases ho : putO ds n δ with
          | num m0 => exact ⟨m0, rfl⟩
          | nil => exact absurd ho put_nnil
          | ref i => rw [ho] at ew; exact absurd (show ("refused" : Str) = "told" from ew) (by decide +kernel)
          | many a b => rw [ho] at ew; exact absurd (show ("many" : Str) = "told" from ew) (by decide +kernel)
          | lean xs => rw [ho] at ew; exact absurd (show ("leaned" : Str) = "told" from ew) (by decide +kernel)
        have em' := put_num em
        subst em'
        rw [em] at hx' hu1 hu2
        have ex : x' = .int m0 := by
          have := hx' _ (fun _ _ h => h)
          cases this
          rfl
        subst ex
        refine ⟨_, rfl, u', _, 1, _, rfl, rfl, hu1, at_n 1 rfl, m0, rfl, nt_log (by have := I.J.n0; omega), (by show 2 ≤ sizeLine; decide), fun t nt => ?_⟩
        obtain ⟨sb, eb⟩ := new_at (.tup [.str "told", .str (Str.ofString (toString m0))]) nt
        generalize upd Hc t (.tup [.str "told", .str (Str.ofString (toString m0))]) = Hb at sb eb ⊢
        exact ne_eqd (hu2.keep (Same.tk sb)).dp (.tup (.inl (.inl eb)) (.cons (.str _) (.cons (.str _) .nil))) (ans_sd _) ⟨_, rfl, iteF ⟨rfl, hAc.same sb, Wc.gw (gw_same sb)⟩⟩
      · have ed : ansD (putO ds n δ) = (putO ds n δ).d := by
          cases ho : putO ds n δ with
          | num m0 => rw [ho] at e; exact absurd (show decide (V.str "told" = V.str "told") = true from decide_eq_true rfl) e
          | nil => exact absurd ho put_nnil
          | ref i => rfl
          | many a b => rfl
          | lean xs => rfl
        exact ⟨_, rfl, ne_eqd hu2.dp (by rw [ed]; exact DueAt.dp ⟨u', x', rfl, hu1, hx'⟩) (ans_sd _) ⟨_, rfl, iteF ⟨rfl, hAc, Wc⟩⟩⟩
    rintro σ' Hd ⟨rfl, hAd, Wd⟩
    clear Wc hAc hu1 hx' hu2
    generalize putN ds n δ = n2 at I2 Wd
    generalize putS ds n δ = ds2 at I2 Wd
    -- one undone
    refine ⟨fun σ' H' => ∃ r s ds3, WK K CT TS st d p H' r s n2 ds3 n2 ds3 ∧ DkI ds3 n2 (j + 1) ∧ ∃ y4 y5 y6 y7 y8 y9, σ' = [some (.ref a), some (.ref st), some (.ref d), some (.ref p), y4, y5, y6, y7, y8, y9], ?_, ?_⟩
    · obtain ⟨us, eX, pd⟩ := hAd
      have lu := Paired.length pd
      have l32 : ds2.length ≤ 300 := Nat.le_trans I2.J.len (by omega)
      refine ⟨_, rfl, (by show 0 ≤ sizeLine; decide), fun E nE => ?_⟩
      obtain ⟨s6, e6⟩ := new_at (.lst []) nE
      generalize upd Hd E (.lst []) = H10 at s6 e6 ⊢
      have W10 := Wd.gw (gw_same s6)
      have pd10 : Paired (NdAt K H10) us ds := Paired.mono pd fun _ _ => NdAt.keep (Same.tk s6)
      have eX10 := s6 _ _ eX
      clear Wd pd eX s6
      refine ne_data (k := 64) (d := .list (ds.map ndD)) (e := .list []) (.lst (.inl (.inl eX10)) (dpAll_of (f := ndD) (fun _ _ h => NdAt.dp h) pd10)) (.lst (.inl (.inl e6)) .nil) ((sd_nds ds).more (by decide)) (Sd.more (k := 1) (Sd.lst fun e he => by cases he) (by decide)) (Nat.le_refl _) (fun bb hbb => ⟨_, rfl, ?_⟩)
      cases bb with
      | true => exact iteF ⟨_, _, _, W10, I2, _, _, _, _, _, _, rfl⟩
      | false =>
      have hn : ds ≠ [] := fun z => by
        have := hbb.mpr (by rw [z]; rfl)
        cases this
      have hl : 0 < ds.length := List.length_pos_iff.mpr hn
      refine iteT ⟨_, rfl, st, 4, rfl, W10.hs, by decide, by decide, fun r4 H11 a4 b4 g11 => ⟨rfl, _, rfl, ite2 (fun _ => ?_) (fun _ => ⟨_, _, _, W10.gw g11.l, I2, _, _, _, _, _, _, rfl⟩)⟩⟩
      have W11 := W10.gw (g11.l (TS := TS))
      have eX11 := g11.1 _ _ nXs lst_tbl eX10
      have pd11 : Paired (NdAt K H11) us ds := Paired.mono pd10 fun _ _ => NdAt.keep (g11.tk W10.hs)
      clear W10 pd10 eX10 e6 hbb
      refine ⟨_, rfl, _, rfl, _, rfl, X, us, rfl, .inl (.inl (.inl eX11)), st, _, rfl, W11.hs, by omega, by omega, fun r' H12 r0' r1' g12 => ?_⟩
      have W12 := W11.gw (g12.l (TS := TS))
      have eX12 := g12.1 _ _ nXs lst_tbl eX11
      obtain ⟨x, hx⟩ : ∃ x, ds[r'.toNat]? = some x := ⟨_, List.getElem?_eq_getElem (by omega)⟩
      obtain ⟨uu, huu⟩ : ∃ u, us[r'.toNat]? = some u := ⟨_, List.getElem?_eq_getElem (by omega)⟩
      obtain ⟨x', hx', t, y, rfl, ht, hy⟩ := Paired.at pd11 huu
      rw [hx] at hx'
      obtain rfl := Option.some.inj hx'
      refine ⟨X, us, r', _, rfl, rfl, .inl (.inl eX12), at_of (j := r'.toNat) (by omega) huu, t, _, 0, .int x.1, rfl, rfl, g12.sqT W11.hs ht, at0, ?_⟩
      have kr := rng x (List.mem_of_getElem? hx)
      clear W11 pd11 eX11 eX12 ht hy hx huu
      generalize x.1 = k0 at kr ⊢
      have ek := std_key I2.J.pos (.int k0)
      dsimp only
      refine seqA (fun u H' => DueAt K H' u (undO ds2 (.int k0)) ∧ ∃ r', WK K CT TS st d p H' r' s2 n2 (undS ds2 (.int k0)) n2 ds2) (fun Q' k => ?_) (fun u Ha z => ?_)
      · refine ⟨W12.ht, fun H9 e9 t9 => ?_⟩
        have g9 : Gw TS st H12 H9 := gw_ext (st := st) e9 t9
        have W9 := W12.gw g9
        obtain ⟨px, pob⟩ := W9.rcc.ob
        refine ⟨_, rfl, p, px, _, rfl, pob, rfl, _, rfl, p, r2.D, r2.m, r2.L, r2.R, r2.B, r2.M, n2, ds2, H9, true, .int k0, .int k0, rfl, W9.rcc, l32, I2.J.nd, .int k0, fun hf Ha sa => ?_, fun k1 ev hf => ?_⟩
        · rw [ek] at hf
          have eo : undO ds2 (.int k0) = .ref 5 := if_neg (by rw [hf]; decide)
          have es : undS ds2 (.int k0) = ds2 := if_neg fun z => by rw [hf] at z; exact absurd z.1 (by decide)
          refine ⟨5, by decide, rfl, fun dd e => (nomatch e), fun _ Hb t2 sb nt2 et2 => k _ _ ?_, fun z => absurd z (by decide), fun z => absurd z (by decide)⟩
          rw [eo, es]
          exact ⟨⟨t2, _, rfl, .inl (.inl et2), dk_int⟩, r2, W9.gw (gw_same (sa.trans sb))⟩
        cases ev
        rw [ek] at hf
        refine ⟨fun hl Ha dd t2 sa nd ed ht2 => ?_, fun hl => ⟨wf_drop I2.J.wf I2.J.nd hl, lnk_nd (wf_drop I2.J.wf I2.J.nd hl) (drop_nodup I2.J.nd), fun b1 b2 hr Ha d' sa nd' ed' => ?_, fun hr Ha D2 m2 L2 R2 B2 M2 ka nD2 nL2 nM2 nm2 nR2 nB2 rca => ?_⟩⟩
        · have eo : undO ds2 (.int k0) = .lean (leanL ds2 k0) := by
            unfold undO
            rw [if_pos hf]
            exact if_neg hl
          have es : undS ds2 (.int k0) = ds2 := if_neg fun z => hl z.2.1
          refine ⟨15, by decide, rfl, fun dd e => ⟨_, by cases e; exact ed⟩, fun z => absurd z (by decide), fun z => absurd z (by decide), fun _ => ⟨dd, _, _, rfl, ed, rfl, fun Hb t3 sb nt3 et3 => k _ _ ?_⟩⟩
          rw [eo, es]
          exact ⟨⟨t3, _, rfl, .inl (.inl et3), dk_ints (Same.sqT sb ht2)⟩, r2, W9.gw (gw_same (sa.trans sb))⟩
        · have eo : undO ds2 (.int k0) = .many b1 b2 := by
            unfold undO
            rw [if_pos hf, if_pos (show leanL ds2 (intD (.int k0)) = [] from hl), show roomS (mkS (asDrop ds2 (intD (.int k0)))) = _ from hr]
          have es : undS ds2 (.int k0) = ds2 := if_neg fun z => by
            have : roomS (mkS (asDrop ds2 k0)) = none := z.2.2
            rw [hr] at this
            exact nomatch this
          refine ⟨14, by decide, rfl, fun dd e => ⟨_, by cases e; exact ed'⟩, fun z => absurd z (by decide), fun _ => ⟨d', _, _, _, rfl, ed', rfl, rfl, fun Hb t2 q2 sb npd eq ep => k _ _ ?_⟩, fun z => absurd z (by decide)⟩
          rw [eo, es]
          exact ⟨⟨t2, _, rfl, .inl (.inl ep), dk_two (.inl (.inl eq))⟩, r2, W9.gw (gw_same (sa.trans sb))⟩
        · have eo : undO ds2 (.int k0) = .nil := by
            unfold undO
            rw [if_pos hf, if_pos (show leanL ds2 (intD (.int k0)) = [] from hl), show roomS (mkS (asDrop ds2 (intD (.int k0)))) = _ from hr]
          have es : undS ds2 (.int k0) = asDrop ds2 k0 := if_pos ⟨hf, hl, hr⟩
          refine ⟨(by show 2 ≤ sizeLine; decide), fun t2 nt2 => k _ _ ?_⟩
          have Wa := W9.stepR (r' := ⟨p, D2, m2, L2, R2, B2, M2, n2, asDrop ds2 k0⟩) (fun y o h1 _ => ka y o (by rw [← W9.ep]; exact h1)) W9.ep.symm (.inr nD2) nL2 nM2 nm2 nR2 nB2 rca rfl rfl
          obtain ⟨sb, eb⟩ := new_at (.tup [.str "told", .non]) nt2
          generalize upd Ha t2 (.tup [.str "told", .non]) = Hb at sb eb ⊢
          rw [eo, es]
          exact ⟨⟨t2, _, rfl, .inl (.inl eb), dk_non⟩, _, Wa.gw (gw_same sb)⟩
      obtain ⟨hu, r5', Wa⟩ := z
      clear W12
      refine seqA (fun u2 H' => AnsAt K H' u2 (undO ds2 (.int k0)) ∧ DueAt K H' u (undO ds2 (.int k0)) ∧ ∃ s', WK K CT TS st d p H' r5' s' n2 (undS ds2 (.int k0)) n2 (undS ds2 (.int k0))) (fun Q' k => ?_) (fun u2 Hc z => ?_)
      · refine ⟨Wa.ht, fun H9 e9 t9 => ?_⟩
        have g9 : Gw TS st Ha H9 := gw_ext (st := st) e9 t9
        have W9 := Wa.gw g9
        have hu9 := hu.keep (g9.tk Wa.hs)
        obtain ⟨dx, dob⟩ := W9.dc.ob
        have la : ("undo " : Str).length + (nT k0).length ≤ 5 + 60 := Nat.add_le_add (show ("undo " : Str).length ≤ 5 by decide) (nt_len (by omega))
        refine ⟨_, rfl, d, dx, _, rfl, dob, rfl, _, rfl, k0, rfl, nt_log (by omega), _, _, rfl, rfl, Nat.le_trans la (by decide), d, s2.p, s2.D, s2.m, s2.L, s2.R, s2.B, s2.M, n2, ds2, j + 1, _, rfl, W9.dc, I2, by omega, .inl ⟨("undo " : Str) ++ nT k0, "undo", [nT k0], rfl, ?_, ?_, .inr ⟨undo_ok (by omega) (by omega), .inr (.inl ⟨k0, rfl, ?_, fun hf Ha sa => ?_, fun hf => ⟨fun hl Ha dd t2 sa nd ed ht2 => ?_, fun hl => ⟨fun b1 b2 hr Ha d' sa nd' ed' => ?_, fun hr Ha D2 m2 L2 R2 B2 M2 ka nD2 nL2 nM2 nm2 nR2 nB2 dca => ?_⟩⟩⟩)⟩⟩⟩
        · exact Nat.le_trans (js_len (show ("undo " : Str).length ≤ 5 by decide) (nt_len (by omega))) (by decide)
        · rw [undo_line]
          exact one_split (by decide +kernel) (by omega) (by omega)
        · show [iv (nT k0)] = [k0]
          rw [(nT_ok (i := k0) (by omega) (by omega)).2.1]
        · rw [ek] at hf
          have eo : undO ds2 (.int k0) = .ref 5 := if_neg (by rw [hf]; decide)
          have es : undS ds2 (.int k0) = ds2 := if_neg fun z => by rw [hf] at z; exact absurd z.1 (by decide)
          refine ⟨5, by decide, rfl, fun dd e => (nomatch e), fun _ Hb t2 sb nt2 et2 => k _ _ ?_, fun z => absurd z (by decide), fun z => absurd z (by decide)⟩
          rw [eo] at hu9 ⊢
          rw [es] at W9 ⊢
          exact ⟨⟨t2, _, rfl, .inl (.inl et2), dk_int⟩, hu9.keep (Same.tk (sa.trans sb)), s2, W9.gw (gw_same (sa.trans sb))⟩
        · rw [ek] at hf
          have eo : undO ds2 (.int k0) = .lean (leanL ds2 k0) := by
            unfold undO
            rw [if_pos hf]
            exact if_neg hl
          have es : undS ds2 (.int k0) = ds2 := if_neg fun z => hl z.2.1
          refine ⟨15, by decide, rfl, fun dd e => ⟨_, by cases e; exact ed⟩, fun z => absurd z (by decide), fun z => absurd z (by decide), fun _ => ⟨dd, _, _, rfl, ed, rfl, fun Hb t3 sb nt3 et3 => k _ _ ?_⟩⟩
          rw [eo] at hu9 ⊢
          rw [es] at W9 ⊢
          exact ⟨⟨t3, _, rfl, .inl (.inl et3), dk_ints (Same.sqT sb ht2)⟩, hu9.keep (Same.tk (sa.trans sb)), s2, W9.gw (gw_same (sa.trans sb))⟩
        · rw [ek] at hf
          have eo : undO ds2 (.int k0) = .many b1 b2 := by
            unfold undO
            rw [if_pos hf, if_pos (show leanL ds2 (intD (.int k0)) = [] from hl), show roomS (mkS (asDrop ds2 (intD (.int k0)))) = _ from hr]
          have es : undS ds2 (.int k0) = ds2 := if_neg fun z => by
            have : roomS (mkS (asDrop ds2 k0)) = none := z.2.2
            rw [hr] at this
            exact nomatch this
          refine ⟨14, by decide, rfl, fun dd e => ⟨_, by cases e; exact ed'⟩, fun z => absurd z (by decide), fun _ => ⟨d', _, _, _, rfl, ed', rfl, rfl, fun Hb t2 q2 sb npd eq ep => k _ _ ?_⟩, fun z => absurd z (by decide)⟩
          rw [eo] at hu9 ⊢
          rw [es] at W9 ⊢
          exact ⟨⟨t2, _, rfl, .inl (.inl ep), dk_two (.inl (.inl eq))⟩, hu9.keep (Same.tk (sa.trans sb)), s2, W9.gw (gw_same (sa.trans sb))⟩
        · rw [ek] at hf
          have eo : undO ds2 (.int k0) = .nil := by
            unfold undO
            rw [if_pos hf, if_pos (show leanL ds2 (intD (.int k0)) = [] from hl), show roomS (mkS (asDrop ds2 (intD (.int k0)))) = _ from hr]
          have es : undS ds2 (.int k0) = asDrop ds2 k0 := if_pos ⟨hf, hl, hr⟩
          refine ⟨(by show 2 ≤ sizeLine; decide), fun t2 nt2 => k _ _ ?_⟩
          have Wb := W9.stepS (s' := ⟨s2.p, D2, m2, L2, R2, B2, M2, n2, asDrop ds2 k0⟩) (fun y o h1 _ => ka y o h1) rfl (.inr nD2) nL2 nM2 nm2 nR2 nB2 dca.rc rfl rfl
          have kl := W9.kl' (fun y o h1 _ => ka y o h1)
          obtain ⟨sb, eb⟩ := new_at (.tup [.str "told", .str "ok"]) nt2
          generalize upd Ha t2 (.tup [.str "told", .str "ok"]) = Hb at sb eb ⊢
          rw [eo] at hu9 ⊢
          rw [es] at Wb ⊢
          exact ⟨⟨t2, _, rfl, .inl (.inl eb), dk_str⟩, (hu9.keep kl.tk).keep (Same.tk sb), _, Wb.gw (gw_same sb)⟩
      obtain ⟨hu2, huc, s5', Wc⟩ := z
      clear Wa hu
      have I5 := I2.undS k0
      obtain ⟨u', x', rfl, hu1, hx'⟩ := huc
      refine ⟨_, rfl, _, rfl, u', _, 0, _, rfl, rfl, hu1, at0, rfl, _, rfl, ite2 (fun e => ?_) (fun e => ?_)⟩
      · have ew : (undO ds2 (.int k0)).w = "told" := by
          have := of_decide_eq_true e
          injection this
        have em : undO ds2 (.int k0) = .nil := by
          cases ho : undO ds2 (.int k0) with
          | num m0 => exact absurd ho und_nnum
          | nil => rfl
          | ref i => rw [ho] at ew; exact absurd (show ("refused" : Str) = "told" from ew) (by decide +kernel)
          | many a b => rw [ho] at ew; exact absurd (show ("many" : Str) = "told" from ew) (by decide +kernel)
          | lean xs => rw [ho] at ew; exact absurd (show ("leaned" : Str) = "told" from ew) (by decide +kernel)
        rw [em] at hu2
        refine ⟨(by show 2 ≤ sizeLine; decide), fun t nt => ?_⟩
        obtain ⟨sb, eb⟩ := new_at (.tup [.str "told", .str "ok"]) nt
        generalize upd Hc t (.tup [.str "told", .str "ok"]) = Hb at sb eb ⊢
        exact ne_eqd (hu2.keep (Same.tk sb)).dp (.tup (.inl (.inl eb)) (.cons (.str _) (.cons (.str _) .nil))) (ans_sd _) ⟨_, rfl, iteF ⟨_, _, _, Wc.gw (gw_same sb), I5, _, _, _, _, _, _, rfl⟩⟩
      · have ed : ansD (undO ds2 (.int k0)) = (undO ds2 (.int k0)).d := by
          cases ho : undO ds2 (.int k0) with
          | num m0 => exact absurd ho und_nnum
          | nil => rw [ho] at e; exact absurd (show decide (V.str "told" = V.str "told") = true from decide_eq_true rfl) e
          | ref i => rfl
          | many a b => rfl
          | lean xs => rfl
        exact ⟨_, rfl, ne_eqd hu2.dp (by rw [ed]; exact DueAt.dp ⟨u', x', rfl, hu1, hx'⟩) (ans_sd _) ⟨_, rfl, iteF ⟨_, _, _, Wc, I5, _, _, _, _, _, _, rfl⟩⟩⟩
    · rintro σ' He ⟨r3, s3, ds3, We, I3, z4, z5, z6, z7, z8, z9, rfl⟩
      refine ⟨_, rfl, _, rfl, _, rfl, st, d, p, r3.D, r3.m, r3.L, r3.R, r3.B, r3.M, s3.p, s3.D, s3.m, s3.L, s3.R, s3.B, s3.M, n2, ds3, j + 1, rfl, We.hs, We.rcc, We.dc, I3, by omega, We.sL, We.sM, fun Hf gf => ⟨_, rfl, iteF ?_⟩⟩
      exact ⟨_, _, _, _, We.gw gf.l, I3, _, _, _, _, _, _, rfl⟩
end

theorem all_mk {l : PySem.W.OpenLaw} {w : World} {K : PySem.W.Frag} {h : Heap} {mg : Str → Option Value} {fa : Addr} (X : K.In h) (G : h.Ns mainGlobals mg) (hfa : mg "law" = some (.ref fa))
    {f0 f1 f2 f3 f4 f5 f6 f7 f8 f9 f10 f11 f12 f13 f14 f15 f16 f17 f18 f19 f20 f21 f22 f23 f24 f25 f26 f27 f28 f29 f30 f31 f32 f33 f34 f35 f36 f37 f38 f39 f40 f41 f42 f43 f44 f45 f46 f47 f48 f49 f50 f51 f52 f53 f54 f55 f56 f57 f58 f59 f60 f61 f62 f63 f64 f65 f66 f67 f68 f69 f70 f71 f72 f73 f74 f75 f76 f77 f78 f79 f80 f81 KC0 KC1 KC2 T9 tp0 tp1 tp2 tp3 tp4 tp5 tp6 tp7 C0 C1 C2 C3 C4 C5 C6 C7 C8 C9 C10 C11 C12 C13 C14 C15 LE cc81 PP81 : Addr} {od0 an0 od1 an1 od2 an2 od3 an3 od4 an4 od5 an5 od6 an6 od7 an7 od8 an8 od9 an9 od10 an10 od11 an11 od12 an12 od13 an13 od14 an14 od15 an15 od16 an16 od17 an17 od18 an18 od19 an19 od20 an20 od21 an21 od22 an22 od23 an23 od24 an24 od25 an25 od26 an26 od27 an27 od28 an28 od29 an29 od30 an30 od31 an31 od32 an32 od33 an33 od34 an34 od35 an35 od36 an36 od37 an37 od38 an38 od39 an39 od40 an40 od41 an41 od42 an42 od43 an43 od44 an44 od45 an45 od46 an46 od47 an47 od48 an48 od49 an49 od50 an50 od51 an51 od52 an52 od53 an53 od54 an54 od55 an55 od56 an56 od57 an57 od58 an58 od59 an59 od60 an60 od61 an61 od62 an62 od63 an63 od64 an64 od65 an65 od66 an66 od67 an67 od68 an68 od69 an69 od70 an70 od71 an71 od72 an72 od73 an73 od74 an74 od75 an75 od76 an76 od77 an77 od78 an78 od79 an79 od80 an80 od81 an81 : Option Addr} {sl0 sl1 sl2 sl3 sl4 sl5 sl6 sl7 sl8 sl9 sl10 sl11 sl12 sl13 sl14 sl15 sl16 sl17 sl18 sl19 sl20 sl21 sl22 sl23 sl24 sl25 sl26 sl27 sl28 sl29 sl30 sl31 sl32 sl33 sl34 sl35 sl36 sl37 sl38 sl39 sl40 sl41 sl42 sl43 sl44 sl45 sl46 sl47 sl48 sl49 sl50 sl51 sl52 sl53 sl54 sl55 sl56 sl57 sl58 sl59 sl60 sl61 sl62 sl63 sl64 sl65 sl66 sl67 sl68 sl69 sl70 sl71 sl72 sl73 sl74 sl75 sl76 sl77 sl78 sl79 sl80 sl81 : Array (Option Value)} {oc0 kV0 dc0 pm0 ct0 cd0 oc1 kV1 dc1 pm1 ct1 cd1 oc2 kV2 dc2 pm2 ct2 cd2 oc3 kV3 dc3 pm3 ct3 cd3 oc4 kV4 dc4 pm4 ct4 cd4 oc5 kV5 dc5 pm5 ct5 cd5 oc6 kV6 dc6 pm6 ct6 cd6 oc7 kV7 dc7 pm7 ct7 cd7 oc8 kV8 dc8 pm8 ct8 cd8 oc9 kV9 dc9 pm9 ct9 cd9 oc10 kV10 dc10 pm10 ct10 cd10 oc11 kV11 dc11 pm11 ct11 cd11 oc12 kV12 dc12 pm12 ct12 cd12 oc13 kV13 dc13 pm13 ct13 cd13 oc14 kV14 dc14 pm14 ct14 cd14 oc15 kV15 dc15 pm15 ct15 cd15 oc16 kV16 dc16 pm16 ct16 cd16 oc17 kV17 dc17 pm17 ct17 cd17 oc18 kV18 dc18 pm18 ct18 cd18 oc19 kV19 dc19 pm19 ct19 cd19 oc20 kV20 dc20 pm20 ct20 cd20 oc21 kV21 dc21 pm21 ct21 cd21 oc22 kV22 dc22 pm22 ct22 cd22 oc23 kV23 dc23 pm23 ct23 cd23 oc24 kV24 dc24 pm24 ct24 cd24 oc25 kV25 dc25 pm25 ct25 cd25 oc26 kV26 dc26 pm26 ct26 cd26 oc27 kV27 dc27 pm27 ct27 cd27 oc28 kV28 dc28 pm28 ct28 cd28 oc29 kV29 dc29 pm29 ct29 cd29 oc30 kV30 dc30 pm30 ct30 cd30 oc31 kV31 dc31 pm31 ct31 cd31 oc32 kV32 dc32 pm32 ct32 cd32 oc33 kV33 dc33 pm33 ct33 cd33 oc34 kV34 dc34 pm34 ct34 cd34 oc35 kV35 dc35 pm35 ct35 cd35 oc36 kV36 dc36 pm36 ct36 cd36 oc37 kV37 dc37 pm37 ct37 cd37 oc38 kV38 dc38 pm38 ct38 cd38 oc39 kV39 dc39 pm39 ct39 cd39 oc40 kV40 dc40 pm40 ct40 cd40 oc41 kV41 dc41 pm41 ct41 cd41 oc42 kV42 dc42 pm42 ct42 cd42 oc43 kV43 dc43 pm43 ct43 cd43 oc44 kV44 dc44 pm44 ct44 cd44 oc45 kV45 dc45 pm45 ct45 cd45 oc46 kV46 dc46 pm46 ct46 cd46 oc47 kV47 dc47 pm47 ct47 cd47 oc48 kV48 dc48 pm48 ct48 cd48 oc49 kV49 dc49 pm49 ct49 cd49 oc50 kV50 dc50 pm50 ct50 cd50 oc51 kV51 dc51 pm51 ct51 cd51 oc52 kV52 dc52 pm52 ct52 cd52 oc53 kV53 dc53 pm53 ct53 cd53 oc54 kV54 dc54 pm54 ct54 cd54 oc55 kV55 dc55 pm55 ct55 cd55 oc56 kV56 dc56 pm56 ct56 cd56 oc57 kV57 dc57 pm57 ct57 cd57 oc58 kV58 dc58 pm58 ct58 cd58 oc59 kV59 dc59 pm59 ct59 cd59 oc60 kV60 dc60 pm60 ct60 cd60 oc61 kV61 dc61 pm61 ct61 cd61 oc62 kV62 dc62 pm62 ct62 cd62 oc63 kV63 dc63 pm63 ct63 cd63 oc64 kV64 dc64 pm64 ct64 cd64 oc65 kV65 dc65 pm65 ct65 cd65 oc66 kV66 dc66 pm66 ct66 cd66 oc67 kV67 dc67 pm67 ct67 cd67 oc68 kV68 dc68 pm68 ct68 cd68 oc69 kV69 dc69 pm69 ct69 cd69 oc70 kV70 dc70 pm70 ct70 cd70 oc71 kV71 dc71 pm71 ct71 cd71 oc72 kV72 dc72 pm72 ct72 cd72 oc73 kV73 dc73 pm73 ct73 cd73 oc74 kV74 dc74 pm74 ct74 cd74 oc75 kV75 dc75 pm75 ct75 cd75 oc76 kV76 dc76 pm76 ct76 cd76 oc77 kV77 dc77 pm77 ct77 cd77 oc78 kV78 dc78 pm78 ct78 cd78 oc79 kV79 dc79 pm79 ct79 cd79 oc80 kV80 dc80 pm80 ct80 cd80 oc81 kV81 dc81 pm81 ct81 : Value} {t0 t1 t2 t3 t4 t5 t6 t7 t8 : Tok}
    (gKC0 : PySem.W.nsIn K mainGlobals "Made" = some (some (.ref KC0))) (pgKC0 : PySem.W.plainGet K KC0 Str.empty = true) (hdKC0 : PySem.W.hasDictIn K KC0 = true) (poKC0 : PySem.W.plainOver K KC0 = true) (saKC0 : PySem.W.findIn K (.ref KC0) "__setattr__" = some (some (.builtin "object.__setattr__"))) (mkKC0 : PySem.W.makesIn K KC0 = true) (kpKC0 : PySem.W.keepIn K (.ref KC0) = true)
    (naKC0layers : PySem.W.findIn K (.ref KC0) "layers" = some none)
    (naKC0rows : PySem.W.findIn K (.ref KC0) "rows" = some none)
    (naKC0backs : PySem.W.findIn K (.ref KC0) "backs" = some none)
    (naKC0moves : PySem.W.findIn K (.ref KC0) "moves" = some none)
    (gKC1 : PySem.W.nsIn K mainGlobals "Roll" = some (some (.ref KC1))) (pgKC1 : PySem.W.plainGet K KC1 Str.empty = true) (hdKC1 : PySem.W.hasDictIn K KC1 = true) (poKC1 : PySem.W.plainOver K KC1 = true) (saKC1 : PySem.W.findIn K (.ref KC1) "__setattr__" = some (some (.builtin "object.__setattr__"))) (mkKC1 : PySem.W.makesIn K KC1 = true) (kpKC1 : PySem.W.keepIn K (.ref KC1) = true)
    (naKC1deeds : PySem.W.findIn K (.ref KC1) "deeds" = some none)
    (naKC1made : PySem.W.findIn K (.ref KC1) "made" = some none)
    (naKC1numbered : PySem.W.findIn K (.ref KC1) "numbered" = some none)
    (gKC2 : PySem.W.nsIn K mainGlobals "Desk" = some (some (.ref KC2))) (pgKC2 : PySem.W.plainGet K KC2 Str.empty = true) (hdKC2 : PySem.W.hasDictIn K KC2 = true) (poKC2 : PySem.W.plainOver K KC2 = true) (saKC2 : PySem.W.findIn K (.ref KC2) "__setattr__" = some (some (.builtin "object.__setattr__"))) (mkKC2 : PySem.W.makesIn K KC2 = true) (kpKC2 : PySem.W.keepIn K (.ref KC2) = true)
    (naKC2roll : PySem.W.findIn K (.ref KC2) "roll" = some none)
    (gPA : PySem.W.nsIn K mainGlobals "PARTS" = some (some (.ref T9))) (dW : He.dicW K T9 = some (He.keysIn w.params ["layer", "row", "draw", "hold", "drop", "round", "straight", "move"]))
    (pn0 : PySem.W.nsIn K T9 "layer" = some (some (.ref tp0))) (pw0 : tupW K tp0 = some [])
    (pn1 : PySem.W.nsIn K T9 "row" = some (some (.ref tp1))) (pw1 : tupW K tp1 = some [some ("layer" : Str), some ("drawing" : Str), some ("hold" : Str)])
    (pn2 : PySem.W.nsIn K T9 "draw" = some (some (.ref tp2))) (pw2 : tupW K tp2 = some [some ("row" : Str), some ("drawing" : Str)])
    (pn3 : PySem.W.nsIn K T9 "hold" = some (some (.ref tp3))) (pw3 : tupW K tp3 = some [some ("row" : Str), some ("hold" : Str)])
    (pn4 : PySem.W.nsIn K T9 "drop" = some (some (.ref tp4))) (pw4 : tupW K tp4 = some [some ("row" : Str)])
    (pn5 : PySem.W.nsIn K T9 "round" = some (some (.ref tp5))) (pw5 : tupW K tp5 = some [some ("row" : Str)])
    (pn6 : PySem.W.nsIn K T9 "straight" = some (some (.ref tp6))) (pw6 : tupW K tp6 = some [some ("layer" : Str)])
    (pn7 : PySem.W.nsIn K T9 "move" = some (some (.ref tp7))) (pw7 : tupW K tp7 = some [some ("way" : Str), some ("way" : Str), some ("many" : Str)])
    {T8 T7 : Addr} {tY tn0 tn1 tn2 tn3 tn4 : Tok} (gANS : PySem.W.nsIn K mainGlobals "ANSWERS" = some (some (.ref T8))) (dWA : He.dicW K T8 = some (He.keysIn w.params ["undo", "sheet", "length", "at", "leans"])) (gNBS : PySem.W.nsIn K mainGlobals "NUMBERS_BEHIND" = some (some (.ref T7))) (dWN : He.dicW K T7 = some (He.keysIn w.params ["undo", "sheet", "length", "at", "leans"])) (gYET : PySem.W.nsIn K mainGlobals "NONE_YET" = some (some (.str "-" tY)))
    (aw0 : PySem.W.nsIn K T8 "undo" = some (some (.ref f65))) (nw0 : PySem.W.nsIn K T7 "undo" = some (some (.int 1 tn0)))
    (aw1 : PySem.W.nsIn K T8 "sheet" = some (some (.ref f66))) (nw1 : PySem.W.nsIn K T7 "sheet" = some (some (.int 0 tn1)))
    (aw2 : PySem.W.nsIn K T8 "length" = some (some (.ref f67))) (nw2 : PySem.W.nsIn K T7 "length" = some (some (.int 0 tn2)))
    (aw3 : PySem.W.nsIn K T8 "at" = some (some (.ref f68))) (nw3 : PySem.W.nsIn K T7 "at" = some (some (.int 1 tn3)))
    (aw4 : PySem.W.nsIn K T8 "leans" = some (some (.ref f69))) (nw4 : PySem.W.nsIn K T7 "leans" = some (some (.int 1 tn4)))
    (a0 : PySem.W.nsIn K mainGlobals "_law_met" = some (some (.ref f0))) (l0 : K.lookup f0 = some ⟨oc0, od0, .func (PySem.W.fnOf "_law_met" "_law_met" (defArgs s__law_met) (defBody s__law_met) (defScope s__law_met) .none kV0 dc0 pm0 an0 cd0 ct0), sl0⟩) (c0 : PySem.W.codeIn K cd0 "_law_met" = true) (k0 : PySem.W.keepIn K (.ref f0) = true)
    (a1 : PySem.W.nsIn K mainGlobals "_law_classes" = some (some (.ref f1))) (l1 : K.lookup f1 = some ⟨oc1, od1, .func (PySem.W.fnOf "_law_classes" "_law_classes" (defArgs s__law_classes) (defBody s__law_classes) (defScope s__law_classes) .none kV1 dc1 pm1 an1 cd1 ct1), sl1⟩) (c1 : PySem.W.codeIn K cd1 "_law_classes" = true) (k1 : PySem.W.keepIn K (.ref f1) = true)
    (a2 : PySem.W.nsIn K mainGlobals "is_whole_from" = some (some (.ref f2))) (l2 : K.lookup f2 = some ⟨oc2, od2, .func (PySem.W.fnOf "is_whole_from" "is_whole_from" (defArgs s_is_whole_from) (defBody s_is_whole_from) (defScope s_is_whole_from) .none kV2 dc2 pm2 an2 cd2 ct2), sl2⟩) (c2 : PySem.W.codeIn K cd2 "is_whole_from" = true) (k2 : PySem.W.keepIn K (.ref f2) = true)
    (a3 : PySem.W.nsIn K mainGlobals "is_whole" = some (some (.ref f3))) (l3 : K.lookup f3 = some ⟨oc3, od3, .func (PySem.W.fnOf "is_whole" "is_whole" (defArgs s_is_whole) (defBody s_is_whole) (defScope s_is_whole) .none kV3 dc3 pm3 an3 cd3 ct3), sl3⟩) (c3 : PySem.W.codeIn K cd3 "is_whole" = true) (k3 : PySem.W.keepIn K (.ref f3) = true)
    (a4 : PySem.W.nsIn K mainGlobals "need_moment" = some (some (.ref f4))) (l4 : K.lookup f4 = some ⟨oc4, od4, .func (PySem.W.fnOf "need_moment" "need_moment" (defArgs s_need_moment) (defBody s_need_moment) (defScope s_need_moment) .none kV4 dc4 pm4 an4 cd4 ct4), sl4⟩) (c4 : PySem.W.codeIn K cd4 "need_moment" = true) (k4 : PySem.W.keepIn K (.ref f4) = true)
    (a5 : PySem.W.nsIn K mainGlobals "need_at_most" = some (some (.ref f5))) (l5 : K.lookup f5 = some ⟨oc5, od5, .func (PySem.W.fnOf "need_at_most" "need_at_most" (defArgs s_need_at_most) (defBody s_need_at_most) (defScope s_need_at_most) .none kV5 dc5 pm5 an5 cd5 ct5), sl5⟩) (c5 : PySem.W.codeIn K cd5 "need_at_most" = true) (k5 : PySem.W.keepIn K (.ref f5) = true)
    (a6 : PySem.W.nsIn K mainGlobals "is_tuple" = some (some (.ref f6))) (l6 : K.lookup f6 = some ⟨oc6, od6, .func (PySem.W.fnOf "is_tuple" "is_tuple" (defArgs s_is_tuple) (defBody s_is_tuple) (defScope s_is_tuple) .none kV6 dc6 pm6 an6 cd6 ct6), sl6⟩) (c6 : PySem.W.codeIn K cd6 "is_tuple" = true) (k6 : PySem.W.keepIn K (.ref f6) = true)
    (a7 : PySem.W.nsIn K mainGlobals "is_drawing" = some (some (.ref f7))) (l7 : K.lookup f7 = some ⟨oc7, od7, .func (PySem.W.fnOf "is_drawing" "is_drawing" (defArgs s_is_drawing) (defBody s_is_drawing) (defScope s_is_drawing) .none kV7 dc7 pm7 an7 cd7 ct7), sl7⟩) (c7 : PySem.W.codeIn K cd7 "is_drawing" = true) (k7 : PySem.W.keepIn K (.ref f7) = true)
    (a8 : PySem.W.nsIn K mainGlobals "is_hold" = some (some (.ref f8))) (l8 : K.lookup f8 = some ⟨oc8, od8, .func (PySem.W.fnOf "is_hold" "is_hold" (defArgs s_is_hold) (defBody s_is_hold) (defScope s_is_hold) .none kV8 dc8 pm8 an8 cd8 ct8), sl8⟩) (c8 : PySem.W.codeIn K cd8 "is_hold" = true) (k8 : PySem.W.keepIn K (.ref f8) = true)
    (a9 : PySem.W.nsIn K mainGlobals "is_row" = some (some (.ref f9))) (l9 : K.lookup f9 = some ⟨oc9, od9, .func (PySem.W.fnOf "is_row" "is_row" (defArgs s_is_row) (defBody s_is_row) (defScope s_is_row) .none kV9 dc9 pm9 an9 cd9 ct9), sl9⟩) (c9 : PySem.W.codeIn K cd9 "is_row" = true) (k9 : PySem.W.keepIn K (.ref f9) = true)
    (a10 : PySem.W.nsIn K mainGlobals "is_layer" = some (some (.ref f10))) (l10 : K.lookup f10 = some ⟨oc10, od10, .func (PySem.W.fnOf "is_layer" "is_layer" (defArgs s_is_layer) (defBody s_is_layer) (defScope s_is_layer) .none kV10 dc10 pm10 an10 cd10 ct10), sl10⟩) (c10 : PySem.W.codeIn K cd10 "is_layer" = true) (k10 : PySem.W.keepIn K (.ref f10) = true)
    (a11 : PySem.W.nsIn K mainGlobals "is_way" = some (some (.ref f11))) (l11 : K.lookup f11 = some ⟨oc11, od11, .func (PySem.W.fnOf "is_way" "is_way" (defArgs s_is_way) (defBody s_is_way) (defScope s_is_way) .none kV11 dc11 pm11 an11 cd11 ct11), sl11⟩) (c11 : PySem.W.codeIn K cd11 "is_way" = true) (k11 : PySem.W.keepIn K (.ref f11) = true)
    (a12 : PySem.W.nsIn K mainGlobals "is_many" = some (some (.ref f12))) (l12 : K.lookup f12 = some ⟨oc12, od12, .func (PySem.W.fnOf "is_many" "is_many" (defArgs s_is_many) (defBody s_is_many) (defScope s_is_many) .none kV12 dc12 pm12 an12 cd12 ct12), sl12⟩) (c12 : PySem.W.codeIn K cd12 "is_many" = true) (k12 : PySem.W.keepIn K (.ref f12) = true)
    (a13 : PySem.W.nsIn K mainGlobals "is_move" = some (some (.ref f13))) (l13 : K.lookup f13 = some ⟨oc13, od13, .func (PySem.W.fnOf "is_move" "is_move" (defArgs s_is_move) (defBody s_is_move) (defScope s_is_move) .none kV13 dc13 pm13 an13 cd13 ct13), sl13⟩) (c13 : PySem.W.codeIn K cd13 "is_move" = true) (k13 : PySem.W.keepIn K (.ref f13) = true)
    (a14 : PySem.W.nsIn K mainGlobals "is_window" = some (some (.ref f14))) (l14 : K.lookup f14 = some ⟨oc14, od14, .func (PySem.W.fnOf "is_window" "is_window" (defArgs s_is_window) (defBody s_is_window) (defScope s_is_window) .none kV14 dc14 pm14 an14 cd14 ct14), sl14⟩) (c14 : PySem.W.codeIn K cd14 "is_window" = true) (k14 : PySem.W.keepIn K (.ref f14) = true)
    (a15 : PySem.W.nsIn K mainGlobals "is_sheet" = some (some (.ref f15))) (l15 : K.lookup f15 = some ⟨oc15, od15, .func (PySem.W.fnOf "is_sheet" "is_sheet" (defArgs s_is_sheet) (defBody s_is_sheet) (defScope s_is_sheet) .none kV15 dc15 pm15 an15 cd15 ct15), sl15⟩) (c15 : PySem.W.codeIn K cd15 "is_sheet" = true) (k15 : PySem.W.keepIn K (.ref f15) = true)
    (a16 : PySem.W.nsIn K mainGlobals "need_sheet" = some (some (.ref f16))) (l16 : K.lookup f16 = some ⟨oc16, od16, .func (PySem.W.fnOf "need_sheet" "need_sheet" (defArgs s_need_sheet) (defBody s_need_sheet) (defScope s_need_sheet) .none kV16 dc16 pm16 an16 cd16 ct16), sl16⟩) (c16 : PySem.W.codeIn K cd16 "need_sheet" = true) (k16 : PySem.W.keepIn K (.ref f16) = true)
    (a17 : PySem.W.nsIn K mainGlobals "held" = some (some (.ref f17))) (l17 : K.lookup f17 = some ⟨oc17, od17, .func (PySem.W.fnOf "held" "held" (defArgs s_held) (defBody s_held) (defScope s_held) .none kV17 dc17 pm17 an17 cd17 ct17), sl17⟩) (c17 : PySem.W.codeIn K cd17 "held" = true) (k17 : PySem.W.keepIn K (.ref f17) = true)
    (a18 : PySem.W.nsIn K mainGlobals "length_of" = some (some (.ref f18))) (l18 : K.lookup f18 = some ⟨oc18, od18, .func (PySem.W.fnOf "length_of" "length_of" (defArgs s_length_of) (defBody s_length_of) (defScope s_length_of) .none kV18 dc18 pm18 an18 cd18 ct18), sl18⟩) (c18 : PySem.W.codeIn K cd18 "length_of" = true) (k18 : PySem.W.keepIn K (.ref f18) = true)
    (a19 : PySem.W.nsIn K mainGlobals "moved" = some (some (.ref f19))) (l19 : K.lookup f19 = some ⟨oc19, od19, .func (PySem.W.fnOf "moved" "moved" (defArgs s_moved) (defBody s_moved) (defScope s_moved) .none kV19 dc19 pm19 an19 cd19 ct19), sl19⟩) (c19 : PySem.W.codeIn K cd19 "moved" = true) (k19 : PySem.W.keepIn K (.ref f19) = true)
    (a20 : PySem.W.nsIn K mainGlobals "full_length" = some (some (.ref f20))) (l20 : K.lookup f20 = some ⟨oc20, od20, .func (PySem.W.fnOf "full_length" "full_length" (defArgs s_full_length) (defBody s_full_length) (defScope s_full_length) .none kV20 dc20 pm20 an20 cd20 ct20), sl20⟩) (c20 : PySem.W.codeIn K cd20 "full_length" = true) (k20 : PySem.W.keepIn K (.ref f20) = true)
    (a21 : PySem.W.nsIn K mainGlobals "sheet_length" = some (some (.ref f21))) (l21 : K.lookup f21 = some ⟨oc21, od21, .func (PySem.W.fnOf "sheet_length" "sheet_length" (defArgs s_sheet_length) (defBody s_sheet_length) (defScope s_sheet_length) .none kV21 dc21 pm21 an21 cd21 ct21), sl21⟩) (c21 : PySem.W.codeIn K cd21 "sheet_length" = true) (k21 : PySem.W.keepIn K (.ref f21) = true)
    (a22 : PySem.W.nsIn K mainGlobals "first_time" = some (some (.ref f22))) (l22 : K.lookup f22 = some ⟨oc22, od22, .func (PySem.W.fnOf "first_time" "first_time" (defArgs s_first_time) (defBody s_first_time) (defScope s_first_time) .none kV22 dc22 pm22 an22 cd22 ct22), sl22⟩) (c22 : PySem.W.codeIn K cd22 "first_time" = true) (k22 : PySem.W.keepIn K (.ref f22) = true)
    (a23 : PySem.W.nsIn K mainGlobals "drawing_of" = some (some (.ref f23))) (l23 : K.lookup f23 = some ⟨oc23, od23, .func (PySem.W.fnOf "drawing_of" "drawing_of" (defArgs s_drawing_of) (defBody s_drawing_of) (defScope s_drawing_of) .none kV23 dc23 pm23 an23 cd23 ct23), sl23⟩) (c23 : PySem.W.codeIn K cd23 "drawing_of" = true) (k23 : PySem.W.keepIn K (.ref f23) = true)
    (a24 : PySem.W.nsIn K mainGlobals "common_divisor" = some (some (.ref f24))) (l24 : K.lookup f24 = some ⟨oc24, od24, .func (PySem.W.fnOf "common_divisor" "common_divisor" (defArgs s_common_divisor) (defBody s_common_divisor) (defScope s_common_divisor) .none kV24 dc24 pm24 an24 cd24 ct24), sl24⟩) (c24 : PySem.W.codeIn K cd24 "common_divisor" = true) (k24 : PySem.W.keepIn K (.ref f24) = true)
    (a25 : PySem.W.nsIn K mainGlobals "lowest" = some (some (.ref f25))) (l25 : K.lookup f25 = some ⟨oc25, od25, .func (PySem.W.fnOf "lowest" "lowest" (defArgs s_lowest) (defBody s_lowest) (defScope s_lowest) .none kV25 dc25 pm25 an25 cd25 ct25), sl25⟩) (c25 : PySem.W.codeIn K cd25 "lowest" = true) (k25 : PySem.W.keepIn K (.ref f25) = true)
    (a26 : PySem.W.nsIn K mainGlobals "on_the_way" = some (some (.ref f26))) (l26 : K.lookup f26 = some ⟨oc26, od26, .func (PySem.W.fnOf "on_the_way" "on_the_way" (defArgs s_on_the_way) (defBody s_on_the_way) (defScope s_on_the_way) .none kV26 dc26 pm26 an26 cd26 ct26), sl26⟩) (c26 : PySem.W.codeIn K cd26 "on_the_way" = true) (k26 : PySem.W.keepIn K (.ref f26) = true)
    (a27 : PySem.W.nsIn K mainGlobals "place_of" = some (some (.ref f27))) (l27 : K.lookup f27 = some ⟨oc27, od27, .func (PySem.W.fnOf "place_of" "place_of" (defArgs s_place_of) (defBody s_place_of) (defScope s_place_of) .none kV27 dc27 pm27 an27 cd27 ct27), sl27⟩) (c27 : PySem.W.codeIn K cd27 "place_of" = true) (k27 : PySem.W.keepIn K (.ref f27) = true)
    (a28 : PySem.W.nsIn K mainGlobals "picture_of" = some (some (.ref f28))) (l28 : K.lookup f28 = some ⟨oc28, od28, .func (PySem.W.fnOf "picture_of" "picture_of" (defArgs s_picture_of) (defBody s_picture_of) (defScope s_picture_of) .none kV28 dc28 pm28 an28 cd28 ct28), sl28⟩) (c28 : PySem.W.codeIn K cd28 "picture_of" = true) (k28 : PySem.W.keepIn K (.ref f28) = true)
    (a29 : PySem.W.nsIn K mainGlobals "picture_at" = some (some (.ref f29))) (l29 : K.lookup f29 = some ⟨oc29, od29, .func (PySem.W.fnOf "picture_at" "picture_at" (defArgs s_picture_at) (defBody s_picture_at) (defScope s_picture_at) .none kV29 dc29 pm29 an29 cd29 ct29), sl29⟩) (c29 : PySem.W.codeIn K cd29 "picture_at" = true) (k29 : PySem.W.keepIn K (.ref f29) = true)
    (a30 : PySem.W.nsIn K mainGlobals "is_plain_part" = some (some (.ref f30))) (l30 : K.lookup f30 = some ⟨oc30, od30, .func (PySem.W.fnOf "is_plain_part" "is_plain_part" (defArgs s_is_plain_part) (defBody s_is_plain_part) (defScope s_is_plain_part) .none kV30 dc30 pm30 an30 cd30 ct30), sl30⟩) (c30 : PySem.W.codeIn K cd30 "is_plain_part" = true) (k30 : PySem.W.keepIn K (.ref f30) = true)
    (a31 : PySem.W.nsIn K mainGlobals "named" = some (some (.ref f31))) (l31 : K.lookup f31 = some ⟨oc31, od31, .func (PySem.W.fnOf "named" "named" (defArgs s_named) (defBody s_named) (defScope s_named) .none kV31 dc31 pm31 an31 cd31 ct31), sl31⟩) (c31 : PySem.W.codeIn K cd31 "named" = true) (k31 : PySem.W.keepIn K (.ref f31) = true)
    (a32 : PySem.W.findIn K (.ref KC0) "__init__" = some (some (.ref f32))) (l32 : K.lookup f32 = some ⟨oc32, od32, .func (PySem.W.fnOf "__init__" "Made.__init__" (defArgs s_Made__init) (defBody s_Made__init) (defScope s_Made__init) .none kV32 dc32 pm32 an32 cd32 ct32), sl32⟩) (c32 : PySem.W.codeIn K cd32 "Made.__init__" = true) (k32 : PySem.W.keepIn K (.ref f32) = true) (n32 : PySem.W.isFn K (.ref f32) = true)
    (a33 : PySem.W.findIn K (.ref KC0) "twin" = some (some (.ref f33))) (l33 : K.lookup f33 = some ⟨oc33, od33, .func (PySem.W.fnOf "twin" "Made.twin" (defArgs s_Made__twin) (defBody s_Made__twin) (defScope s_Made__twin) .none kV33 dc33 pm33 an33 cd33 ct33), sl33⟩) (c33 : PySem.W.codeIn K cd33 "Made.twin" = true) (k33 : PySem.W.keepIn K (.ref f33) = true) (n33 : PySem.W.isFn K (.ref f33) = true)
    (a34 : PySem.W.findIn K (.ref KC0) "fits" = some (some (.ref f34))) (l34 : K.lookup f34 = some ⟨oc34, od34, .func (PySem.W.fnOf "fits" "Made.fits" (defArgs s_Made__fits) (defBody s_Made__fits) (defScope s_Made__fits) .none kV34 dc34 pm34 an34 cd34 ct34), sl34⟩) (c34 : PySem.W.codeIn K cd34 "Made.fits" = true) (k34 : PySem.W.keepIn K (.ref f34) = true) (n34 : PySem.W.isFn K (.ref f34) = true)
    (a35 : PySem.W.findIn K (.ref KC0) "takes" = some (some (.ref f35))) (l35 : K.lookup f35 = some ⟨oc35, od35, .func (PySem.W.fnOf "takes" "Made.takes" (defArgs s_Made__takes) (defBody s_Made__takes) (defScope s_Made__takes) .none kV35 dc35 pm35 an35 cd35 ct35), sl35⟩) (c35 : PySem.W.codeIn K cd35 "Made.takes" = true) (k35 : PySem.W.keepIn K (.ref f35) = true) (n35 : PySem.W.isFn K (.ref f35) = true)
    (a36 : PySem.W.findIn K (.ref KC0) "follow_row" = some (some (.ref f36))) (l36 : K.lookup f36 = some ⟨oc36, od36, .func (PySem.W.fnOf "follow_row" "Made.follow_row" (defArgs s_Made__follow_row) (defBody s_Made__follow_row) (defScope s_Made__follow_row) .none kV36 dc36 pm36 an36 cd36 ct36), sl36⟩) (c36 : PySem.W.codeIn K cd36 "Made.follow_row" = true) (k36 : PySem.W.keepIn K (.ref f36) = true) (n36 : PySem.W.isFn K (.ref f36) = true)
    (a37 : PySem.W.findIn K (.ref KC0) "follow" = some (some (.ref f37))) (l37 : K.lookup f37 = some ⟨oc37, od37, .func (PySem.W.fnOf "follow" "Made.follow" (defArgs s_Made__follow) (defBody s_Made__follow) (defScope s_Made__follow) .none kV37 dc37 pm37 an37 cd37 ct37), sl37⟩) (c37 : PySem.W.codeIn K cd37 "Made.follow" = true) (k37 : PySem.W.keepIn K (.ref f37) = true) (n37 : PySem.W.isFn K (.ref f37) = true)
    (a38 : PySem.W.findIn K (.ref KC0) "rows_in" = some (some (.ref f38))) (l38 : K.lookup f38 = some ⟨oc38, od38, .func (PySem.W.fnOf "rows_in" "Made.rows_in" (defArgs s_Made__rows_in) (defBody s_Made__rows_in) (defScope s_Made__rows_in) .none kV38 dc38 pm38 an38 cd38 ct38), sl38⟩) (c38 : PySem.W.codeIn K cd38 "Made.rows_in" = true) (k38 : PySem.W.keepIn K (.ref f38) = true) (n38 : PySem.W.isFn K (.ref f38) = true)
    (a39 : PySem.W.findIn K (.ref KC0) "need_room" = some (some (.ref f39))) (l39 : K.lookup f39 = some ⟨oc39, od39, .func (PySem.W.fnOf "need_room" "Made.need_room" (defArgs s_Made__need_room) (defBody s_Made__need_room) (defScope s_Made__need_room) .none kV39 dc39 pm39 an39 cd39 ct39), sl39⟩) (c39 : PySem.W.codeIn K cd39 "Made.need_room" = true) (k39 : PySem.W.keepIn K (.ref f39) = true) (n39 : PySem.W.isFn K (.ref f39) = true)
    (a40 : PySem.W.findIn K (.ref KC0) "layer_made" = some (some (.ref f40))) (l40 : K.lookup f40 = some ⟨oc40, od40, .func (PySem.W.fnOf "layer_made" "Made.layer_made" (defArgs s_Made__layer_made) (defBody s_Made__layer_made) (defScope s_Made__layer_made) .none kV40 dc40 pm40 an40 cd40 ct40), sl40⟩) (c40 : PySem.W.codeIn K cd40 "Made.layer_made" = true) (k40 : PySem.W.keepIn K (.ref f40) = true) (n40 : PySem.W.isFn K (.ref f40) = true)
    (a41 : PySem.W.findIn K (.ref KC0) "sheet_made" = some (some (.ref f41))) (l41 : K.lookup f41 = some ⟨oc41, od41, .func (PySem.W.fnOf "sheet_made" "Made.sheet_made" (defArgs s_Made__sheet_made) (defBody s_Made__sheet_made) (defScope s_Made__sheet_made) .none kV41 dc41 pm41 an41 cd41 ct41), sl41⟩) (c41 : PySem.W.codeIn K cd41 "Made.sheet_made" = true) (k41 : PySem.W.keepIn K (.ref f41) = true) (n41 : PySem.W.isFn K (.ref f41) = true)
    (a42 : PySem.W.nsIn K mainGlobals "made_anew" = some (some (.ref f42))) (l42 : K.lookup f42 = some ⟨oc42, od42, .func (PySem.W.fnOf "made_anew" "made_anew" (defArgs s_made_anew) (defBody s_made_anew) (defScope s_made_anew) .none kV42 dc42 pm42 an42 cd42 ct42), sl42⟩) (c42 : PySem.W.codeIn K cd42 "made_anew" = true) (k42 : PySem.W.keepIn K (.ref f42) = true)
    (a43 : PySem.W.findIn K (.ref KC1) "__init__" = some (some (.ref f43))) (l43 : K.lookup f43 = some ⟨oc43, od43, .func (PySem.W.fnOf "__init__" "Roll.__init__" (defArgs s_Roll__init) (defBody s_Roll__init) (defScope s_Roll__init) .none kV43 dc43 pm43 an43 cd43 ct43), sl43⟩) (c43 : PySem.W.codeIn K cd43 "Roll.__init__" = true) (k43 : PySem.W.keepIn K (.ref f43) = true) (n43 : PySem.W.isFn K (.ref f43) = true)
    (a44 : PySem.W.findIn K (.ref KC1) "need_standing" = some (some (.ref f44))) (l44 : K.lookup f44 = some ⟨oc44, od44, .func (PySem.W.fnOf "need_standing" "Roll.need_standing" (defArgs s_Roll__need_standing) (defBody s_Roll__need_standing) (defScope s_Roll__need_standing) .none kV44 dc44 pm44 an44 cd44 ct44), sl44⟩) (c44 : PySem.W.codeIn K cd44 "Roll.need_standing" = true) (k44 : PySem.W.keepIn K (.ref f44) = true) (n44 : PySem.W.isFn K (.ref f44) = true)
    (a45 : PySem.W.findIn K (.ref KC1) "put" = some (some (.ref f45))) (l45 : K.lookup f45 = some ⟨oc45, od45, .func (PySem.W.fnOf "put" "Roll.put" (defArgs s_Roll__put) (defBody s_Roll__put) (defScope s_Roll__put) .none kV45 dc45 pm45 an45 cd45 ct45), sl45⟩) (c45 : PySem.W.codeIn K cd45 "Roll.put" = true) (k45 : PySem.W.keepIn K (.ref f45) = true) (n45 : PySem.W.isFn K (.ref f45) = true)
    (a46 : PySem.W.findIn K (.ref KC1) "sheet_now" = some (some (.ref f46))) (l46 : K.lookup f46 = some ⟨oc46, od46, .func (PySem.W.fnOf "sheet_now" "Roll.sheet_now" (defArgs s_Roll__sheet_now) (defBody s_Roll__sheet_now) (defScope s_Roll__sheet_now) .none kV46 dc46 pm46 an46 cd46 ct46), sl46⟩) (c46 : PySem.W.codeIn K cd46 "Roll.sheet_now" = true) (k46 : PySem.W.keepIn K (.ref f46) = true) (n46 : PySem.W.isFn K (.ref f46) = true)
    (a47 : PySem.W.findIn K (.ref KC1) "standing" = some (some (.ref f47))) (l47 : K.lookup f47 = some ⟨oc47, od47, .func (PySem.W.fnOf "standing" "Roll.standing" (defArgs s_Roll__standing) (defBody s_Roll__standing) (defScope s_Roll__standing) .none kV47 dc47 pm47 an47 cd47 ct47), sl47⟩) (c47 : PySem.W.codeIn K cd47 "Roll.standing" = true) (k47 : PySem.W.keepIn K (.ref f47) = true) (n47 : PySem.W.isFn K (.ref f47) = true)
    (a48 : PySem.W.findIn K (.ref KC1) "leaning" = some (some (.ref f48))) (l48 : K.lookup f48 = some ⟨oc48, od48, .func (PySem.W.fnOf "leaning" "Roll.leaning" (defArgs s_Roll__leaning) (defBody s_Roll__leaning) (defScope s_Roll__leaning) .none kV48 dc48 pm48 an48 cd48 ct48), sl48⟩) (c48 : PySem.W.codeIn K cd48 "Roll.leaning" = true) (k48 : PySem.W.keepIn K (.ref f48) = true) (n48 : PySem.W.isFn K (.ref f48) = true)
    (a49 : PySem.W.findIn K (.ref KC1) "undo" = some (some (.ref f49))) (l49 : K.lookup f49 = some ⟨oc49, od49, .func (PySem.W.fnOf "undo" "Roll.undo" (defArgs s_Roll__undo) (defBody s_Roll__undo) (defScope s_Roll__undo) .none kV49 dc49 pm49 an49 cd49 ct49), sl49⟩) (c49 : PySem.W.codeIn K cd49 "Roll.undo" = true) (k49 : PySem.W.keepIn K (.ref f49) = true) (n49 : PySem.W.isFn K (.ref f49) = true)
    (a50 : PySem.W.nsIn K mainGlobals "writes_number" = some (some (.ref f50))) (l50 : K.lookup f50 = some ⟨oc50, od50, .func (PySem.W.fnOf "writes_number" "writes_number" (defArgs s_writes_number) (defBody s_writes_number) (defScope s_writes_number) .none kV50 dc50 pm50 an50 cd50 ct50), sl50⟩) (c50 : PySem.W.codeIn K cd50 "writes_number" = true) (k50 : PySem.W.keepIn K (.ref f50) = true)
    (a51 : PySem.W.nsIn K mainGlobals "number_in" = some (some (.ref f51))) (l51 : K.lookup f51 = some ⟨oc51, od51, .func (PySem.W.fnOf "number_in" "number_in" (defArgs s_number_in) (defBody s_number_in) (defScope s_number_in) .none kV51 dc51 pm51 an51 cd51 ct51), sl51⟩) (c51 : PySem.W.codeIn K cd51 "number_in" = true) (k51 : PySem.W.keepIn K (.ref f51) = true)
    (a52 : PySem.W.nsIn K mainGlobals "numbers_in" = some (some (.ref f52))) (l52 : K.lookup f52 = some ⟨oc52, od52, .func (PySem.W.fnOf "numbers_in" "numbers_in" (defArgs s_numbers_in) (defBody s_numbers_in) (defScope s_numbers_in) .none kV52 dc52 pm52 an52 cd52 ct52), sl52⟩) (c52 : PySem.W.codeIn K cd52 "numbers_in" = true) (k52 : PySem.W.keepIn K (.ref f52) = true)
    (a53 : PySem.W.nsIn K mainGlobals "move_text" = some (some (.ref f53))) (l53 : K.lookup f53 = some ⟨oc53, od53, .func (PySem.W.fnOf "move_text" "move_text" (defArgs s_move_text) (defBody s_move_text) (defScope s_move_text) .none kV53 dc53 pm53 an53 cd53 ct53), sl53⟩) (c53 : PySem.W.codeIn K cd53 "move_text" = true) (k53 : PySem.W.keepIn K (.ref f53) = true)
    (a54 : PySem.W.nsIn K mainGlobals "row_text" = some (some (.ref f54))) (l54 : K.lookup f54 = some ⟨oc54, od54, .func (PySem.W.fnOf "row_text" "row_text" (defArgs s_row_text) (defBody s_row_text) (defScope s_row_text) .none kV54 dc54 pm54 an54 cd54 ct54), sl54⟩) (c54 : PySem.W.codeIn K cd54 "row_text" = true) (k54 : PySem.W.keepIn K (.ref f54) = true)
    (a55 : PySem.W.nsIn K mainGlobals "window_text" = some (some (.ref f55))) (l55 : K.lookup f55 = some ⟨oc55, od55, .func (PySem.W.fnOf "window_text" "window_text" (defArgs s_window_text) (defBody s_window_text) (defScope s_window_text) .none kV55 dc55 pm55 an55 cd55 ct55), sl55⟩) (c55 : PySem.W.codeIn K cd55 "window_text" = true) (k55 : PySem.W.keepIn K (.ref f55) = true)
    (a56 : PySem.W.nsIn K mainGlobals "layer_text" = some (some (.ref f56))) (l56 : K.lookup f56 = some ⟨oc56, od56, .func (PySem.W.fnOf "layer_text" "layer_text" (defArgs s_layer_text) (defBody s_layer_text) (defScope s_layer_text) .none kV56 dc56 pm56 an56 cd56 ct56), sl56⟩) (c56 : PySem.W.codeIn K cd56 "layer_text" = true) (k56 : PySem.W.keepIn K (.ref f56) = true)
    (a57 : PySem.W.nsIn K mainGlobals "text_of" = some (some (.ref f57))) (l57 : K.lookup f57 = some ⟨oc57, od57, .func (PySem.W.fnOf "text_of" "text_of" (defArgs s_text_of) (defBody s_text_of) (defScope s_text_of) .none kV57 dc57 pm57 an57 cd57 ct57), sl57⟩) (c57 : PySem.W.codeIn K cd57 "text_of" = true) (k57 : PySem.W.keepIn K (.ref f57) = true)
    (a58 : PySem.W.nsIn K mainGlobals "sheet_text" = some (some (.ref f58))) (l58 : K.lookup f58 = some ⟨oc58, od58, .func (PySem.W.fnOf "sheet_text" "sheet_text" (defArgs s_sheet_text) (defBody s_sheet_text) (defScope s_sheet_text) .none kV58 dc58 pm58 an58 cd58 ct58), sl58⟩) (c58 : PySem.W.codeIn K cd58 "sheet_text" = true) (k58 : PySem.W.keepIn K (.ref f58) = true)
    (a59 : PySem.W.nsIn K mainGlobals "window_in" = some (some (.ref f59))) (l59 : K.lookup f59 = some ⟨oc59, od59, .func (PySem.W.fnOf "window_in" "window_in" (defArgs s_window_in) (defBody s_window_in) (defScope s_window_in) .none kV59 dc59 pm59 an59 cd59 ct59), sl59⟩) (c59 : PySem.W.codeIn K cd59 "window_in" = true) (k59 : PySem.W.keepIn K (.ref f59) = true)
    (a60 : PySem.W.nsIn K mainGlobals "layer_in" = some (some (.ref f60))) (l60 : K.lookup f60 = some ⟨oc60, od60, .func (PySem.W.fnOf "layer_in" "layer_in" (defArgs s_layer_in) (defBody s_layer_in) (defScope s_layer_in) .none kV60 dc60 pm60 an60 cd60 ct60), sl60⟩) (c60 : PySem.W.codeIn K cd60 "layer_in" = true) (k60 : PySem.W.keepIn K (.ref f60) = true)
    (a61 : PySem.W.nsIn K mainGlobals "sheet_in" = some (some (.ref f61))) (l61 : K.lookup f61 = some ⟨oc61, od61, .func (PySem.W.fnOf "sheet_in" "sheet_in" (defArgs s_sheet_in) (defBody s_sheet_in) (defScope s_sheet_in) .none kV61 dc61 pm61 an61 cd61 ct61), sl61⟩) (c61 : PySem.W.codeIn K cd61 "sheet_in" = true) (k61 : PySem.W.keepIn K (.ref f61) = true)
    (a62 : PySem.W.nsIn K mainGlobals "read_sheet" = some (some (.ref f62))) (l62 : K.lookup f62 = some ⟨oc62, od62, .func (PySem.W.fnOf "read_sheet" "read_sheet" (defArgs s_read_sheet) (defBody s_read_sheet) (defScope s_read_sheet) .none kV62 dc62 pm62 an62 cd62 ct62), sl62⟩) (c62 : PySem.W.codeIn K cd62 "read_sheet" = true) (k62 : PySem.W.keepIn K (.ref f62) = true)
    (a63 : PySem.W.nsIn K mainGlobals "spaced" = some (some (.ref f63))) (l63 : K.lookup f63 = some ⟨oc63, od63, .func (PySem.W.fnOf "spaced" "spaced" (defArgs s_spaced) (defBody s_spaced) (defScope s_spaced) .none kV63 dc63 pm63 an63 cd63 ct63), sl63⟩) (c63 : PySem.W.codeIn K cd63 "spaced" = true) (k63 : PySem.W.keepIn K (.ref f63) = true)
    (a64 : PySem.W.nsIn K mainGlobals "picture_text" = some (some (.ref f64))) (l64 : K.lookup f64 = some ⟨oc64, od64, .func (PySem.W.fnOf "picture_text" "picture_text" (defArgs s_picture_text) (defBody s_picture_text) (defScope s_picture_text) .none kV64 dc64 pm64 an64 cd64 ct64), sl64⟩) (c64 : PySem.W.codeIn K cd64 "picture_text" = true) (k64 : PySem.W.keepIn K (.ref f64) = true)
    (a65 : PySem.W.nsIn K mainGlobals "undone" = some (some (.ref f65))) (l65 : K.lookup f65 = some ⟨oc65, od65, .func (PySem.W.fnOf "undone" "undone" (defArgs s_undone) (defBody s_undone) (defScope s_undone) .none kV65 dc65 pm65 an65 cd65 ct65), sl65⟩) (c65 : PySem.W.codeIn K cd65 "undone" = true) (k65 : PySem.W.keepIn K (.ref f65) = true)
    (a66 : PySem.W.nsIn K mainGlobals "written_sheet" = some (some (.ref f66))) (l66 : K.lookup f66 = some ⟨oc66, od66, .func (PySem.W.fnOf "written_sheet" "written_sheet" (defArgs s_written_sheet) (defBody s_written_sheet) (defScope s_written_sheet) .none kV66 dc66 pm66 an66 cd66 ct66), sl66⟩) (c66 : PySem.W.codeIn K cd66 "written_sheet" = true) (k66 : PySem.W.keepIn K (.ref f66) = true)
    (a67 : PySem.W.nsIn K mainGlobals "written_length" = some (some (.ref f67))) (l67 : K.lookup f67 = some ⟨oc67, od67, .func (PySem.W.fnOf "written_length" "written_length" (defArgs s_written_length) (defBody s_written_length) (defScope s_written_length) .none kV67 dc67 pm67 an67 cd67 ct67), sl67⟩) (c67 : PySem.W.codeIn K cd67 "written_length" = true) (k67 : PySem.W.keepIn K (.ref f67) = true)
    (a68 : PySem.W.nsIn K mainGlobals "written_picture" = some (some (.ref f68))) (l68 : K.lookup f68 = some ⟨oc68, od68, .func (PySem.W.fnOf "written_picture" "written_picture" (defArgs s_written_picture) (defBody s_written_picture) (defScope s_written_picture) .none kV68 dc68 pm68 an68 cd68 ct68), sl68⟩) (c68 : PySem.W.codeIn K cd68 "written_picture" = true) (k68 : PySem.W.keepIn K (.ref f68) = true)
    (a69 : PySem.W.nsIn K mainGlobals "written_leaning" = some (some (.ref f69))) (l69 : K.lookup f69 = some ⟨oc69, od69, .func (PySem.W.fnOf "written_leaning" "written_leaning" (defArgs s_written_leaning) (defBody s_written_leaning) (defScope s_written_leaning) .none kV69 dc69 pm69 an69 cd69 ct69), sl69⟩) (c69 : PySem.W.codeIn K cd69 "written_leaning" = true) (k69 : PySem.W.keepIn K (.ref f69) = true)
    (a70 : PySem.W.nsIn K mainGlobals "numbers_behind" = some (some (.ref f70))) (l70 : K.lookup f70 = some ⟨oc70, od70, .func (PySem.W.fnOf "numbers_behind" "numbers_behind" (defArgs s_numbers_behind) (defBody s_numbers_behind) (defScope s_numbers_behind) .none kV70 dc70 pm70 an70 cd70 ct70), sl70⟩) (c70 : PySem.W.codeIn K cd70 "numbers_behind" = true) (k70 : PySem.W.keepIn K (.ref f70) = true)
    (a71 : PySem.W.nsIn K mainGlobals "read_row" = some (some (.ref f71))) (l71 : K.lookup f71 = some ⟨oc71, od71, .func (PySem.W.fnOf "read_row" "read_row" (defArgs s_read_row) (defBody s_read_row) (defScope s_read_row) .none kV71 dc71 pm71 an71 cd71 ct71), sl71⟩) (c71 : PySem.W.codeIn K cd71 "read_row" = true) (k71 : PySem.W.keepIn K (.ref f71) = true)
    (a72 : PySem.W.findIn K (.ref KC2) "__init__" = some (some (.ref f72))) (l72 : K.lookup f72 = some ⟨oc72, od72, .func (PySem.W.fnOf "__init__" "Desk.__init__" (defArgs s_Desk__init) (defBody s_Desk__init) (defScope s_Desk__init) .none kV72 dc72 pm72 an72 cd72 ct72), sl72⟩) (c72 : PySem.W.codeIn K cd72 "Desk.__init__" = true) (k72 : PySem.W.keepIn K (.ref f72) = true) (n72 : PySem.W.isFn K (.ref f72) = true)
    (a73 : PySem.W.findIn K (.ref KC2) "tell" = some (some (.ref f73))) (l73 : K.lookup f73 = some ⟨oc73, od73, .func (PySem.W.fnOf "tell" "Desk.tell" (defArgs s_Desk__tell) (defBody s_Desk__tell) (defScope s_Desk__tell) .none kV73 dc73 pm73 an73 cd73 ct73), sl73⟩) (c73 : PySem.W.codeIn K cd73 "Desk.tell" = true) (k73 : PySem.W.keepIn K (.ref f73) = true) (n73 : PySem.W.isFn K (.ref f73) = true)
    (a74 : PySem.W.nsIn K mainGlobals "_law_cell_at" = some (some (.ref f74))) (l74 : K.lookup f74 = some ⟨oc74, od74, .func (PySem.W.fnOf "_law_cell_at" "_law_cell_at" (defArgs s__law_cell_at) (defBody s__law_cell_at) (defScope s__law_cell_at) .none kV74 dc74 pm74 an74 cd74 ct74), sl74⟩) (c74 : PySem.W.codeIn K cd74 "_law_cell_at" = true) (k74 : PySem.W.keepIn K (.ref f74) = true)
    (a75 : PySem.W.nsIn K mainGlobals "_law_state" = some (some (.ref f75))) (l75 : K.lookup f75 = some ⟨oc75, od75, .func (PySem.W.fnOf "_law_state" "_law_state" (defArgs s__law_state) (defBody s__law_state) (defScope s__law_state) .none kV75 dc75 pm75 an75 cd75 ct75), sl75⟩) (c75 : PySem.W.codeIn K cd75 "_law_state" = true) (k75 : PySem.W.keepIn K (.ref f75) = true)
    (a76 : PySem.W.nsIn K mainGlobals "_law_take" = some (some (.ref f76))) (l76 : K.lookup f76 = some ⟨oc76, od76, .func (PySem.W.fnOf "_law_take" "_law_take" (defArgs s__law_take) (defBody s__law_take) (defScope s__law_take) .none kV76 dc76 pm76 an76 cd76 ct76), sl76⟩) (c76 : PySem.W.codeIn K cd76 "_law_take" = true) (k76 : PySem.W.keepIn K (.ref f76) = true)
    (a77 : PySem.W.nsIn K mainGlobals "_law_known" = some (some (.ref f77))) (l77 : K.lookup f77 = some ⟨oc77, od77, .func (PySem.W.fnOf "_law_known" "_law_known" (defArgs s__law_known) (defBody s__law_known) (defScope s__law_known) .none kV77 dc77 pm77 an77 cd77 ct77), sl77⟩) (c77 : PySem.W.codeIn K cd77 "_law_known" = true) (k77 : PySem.W.keepIn K (.ref f77) = true)
    (a78 : PySem.W.nsIn K mainGlobals "_law_deed" = some (some (.ref f78))) (l78 : K.lookup f78 = some ⟨oc78, od78, .func (PySem.W.fnOf "_law_deed" "_law_deed" (defArgs s__law_deed) (defBody s__law_deed) (defScope s__law_deed) .none kV78 dc78 pm78 an78 cd78 ct78), sl78⟩) (c78 : PySem.W.codeIn K cd78 "_law_deed" = true) (k78 : PySem.W.keepIn K (.ref f78) = true)
    (a79 : PySem.W.nsIn K mainGlobals "_law_line" = some (some (.ref f79))) (l79 : K.lookup f79 = some ⟨oc79, od79, .func (PySem.W.fnOf "_law_line" "_law_line" (defArgs s__law_line) (defBody s__law_line) (defScope s__law_line) .none kV79 dc79 pm79 an79 cd79 ct79), sl79⟩) (c79 : PySem.W.codeIn K cd79 "_law_line" = true) (k79 : PySem.W.keepIn K (.ref f79) = true)
    (a80 : PySem.W.nsIn K mainGlobals "_law_same" = some (some (.ref f80))) (l80 : K.lookup f80 = some ⟨oc80, od80, .func (PySem.W.fnOf "_law_same" "_law_same" (defArgs s__law_same) (defBody s__law_same) (defScope s__law_same) .none kV80 dc80 pm80 an80 cd80 ct80), sl80⟩) (c80 : PySem.W.codeIn K cd80 "_law_same" = true) (k80 : PySem.W.keepIn K (.ref f80) = true)
    (a81 : PySem.W.nsIn K mainGlobals "law" = some (some (.ref f81))) (l81 : K.lookup f81 = some ⟨oc81, od81, .func (PySem.W.fnOf "law" "law" (defArgs s_law) (defBody s_law) (defScope s_law) .none kV81 dc81 pm81 an81 (.ref cc81) ct81), sl81⟩) (c81 : PySem.W.codeIn K (.ref cc81) "law" = true) (k81 : PySem.W.keepIn K (.ref f81) = true)
    (te81 : h.get? PP81 = some { cls := .none, data := .fields #[] }) (th81 : PySem.W.CodeHd h cc81 PP81) (tn81 : K.lookup PP81 = none)
    (z_dict : PySem.W.nsIn K mainGlobals "dict" = some none)
    (z_ValueError : PySem.W.nsIn K mainGlobals "ValueError" = some none)
    (z_len : PySem.W.nsIn K mainGlobals "len" = some none)
    (z_isinstance : PySem.W.nsIn K mainGlobals "isinstance" = some none)
    (z_max : PySem.W.nsIn K mainGlobals "max" = some none)
    (z_sum : PySem.W.nsIn K mainGlobals "sum" = some none)
    (z_all : PySem.W.nsIn K mainGlobals "all" = some none)
    (z_tuple : PySem.W.nsIn K mainGlobals "tuple" = some none)
    (z_list : PySem.W.nsIn K mainGlobals "list" = some none)
    (z_abs : PySem.W.nsIn K mainGlobals "abs" = some none)
    (z_range : PySem.W.nsIn K mainGlobals "range" = some none)
    (z_zip : PySem.W.nsIn K mainGlobals "zip" = some none)
    (z_bool : PySem.W.nsIn K mainGlobals "bool" = some none)
    (z_int : PySem.W.nsIn K mainGlobals "int" = some none)
    (z_str : PySem.W.nsIn K mainGlobals "str" = some none)
    (v_LAST_MOMENT : PySem.W.nsIn K mainGlobals "LAST_MOMENT" = some (some (.int 1000000000 t0)))
    (v_MOST_DRAWING : PySem.W.nsIn K mainGlobals "MOST_DRAWING" = some (some (.int 9 t1)))
    (v_MOST_HOLD : PySem.W.nsIn K mainGlobals "MOST_HOLD" = some (some (.int 24 t2)))
    (v_MOST_ROWS : PySem.W.nsIn K mainGlobals "MOST_ROWS" = some (some (.int 8 t3)))
    (v_MOST_WAY : PySem.W.nsIn K mainGlobals "MOST_WAY" = some (some (.int 20 t4)))
    (v_MOST_MANY : PySem.W.nsIn K mainGlobals "MOST_MANY" = some (some (.int 24 t5)))
    (v_MOST_MOVES : PySem.W.nsIn K mainGlobals "MOST_MOVES" = some (some (.int 8 t6)))
    (v_MOST_LAYERS : PySem.W.nsIn K mainGlobals "MOST_LAYERS" = some (some (.int 4 t7)))
    (v_MOST_FIGURES : PySem.W.nsIn K mainGlobals "MOST_FIGURES" = some (some (.int 30 t8)))
    (x0 : PySem.W.nsIn K mainGlobals "NoLayer" = some (some (.ref C0)))
    (x1 : PySem.W.nsIn K mainGlobals "NoWindow" = some (some (.ref C1)))
    (x2 : PySem.W.nsIn K mainGlobals "NoSheet" = some (some (.ref C2)))
    (x3 : PySem.W.nsIn K mainGlobals "NoMoment" = some (some (.ref C3)))
    (x4 : PySem.W.nsIn K mainGlobals "NoRow" = some (some (.ref C4)))
    (x5 : PySem.W.nsIn K mainGlobals "NoNumber" = some (some (.ref C5)))
    (x6 : PySem.W.nsIn K mainGlobals "NoDrawings" = some (some (.ref C6)))
    (x7 : PySem.W.nsIn K mainGlobals "Unlike" = some (some (.ref C7)))
    (x8 : PySem.W.nsIn K mainGlobals "Endless" = some (some (.ref C8)))
    (x9 : PySem.W.nsIn K mainGlobals "Squeezed" = some (some (.ref C9)))
    (x10 : PySem.W.nsIn K mainGlobals "NoPaper" = some (some (.ref C10)))
    (x11 : PySem.W.nsIn K mainGlobals "NoDeed" = some (some (.ref C11)))
    (x12 : PySem.W.nsIn K mainGlobals "NoText" = some (some (.ref C12)))
    (x13 : PySem.W.nsIn K mainGlobals "NoWords" = some (some (.ref C13)))
    (x14 : PySem.W.nsIn K mainGlobals "TooMany" = some (some (.ref C14)))
    (x15 : PySem.W.nsIn K mainGlobals "Leaned" = some (some (.ref C15)))
    (xL : PySem.W.nsIn K mainGlobals "LanternError" = some (some (.ref LE)))
    (xb : excTB K (fun i => [C0, C1, C2, C3, C4, C5, C6, C7, C8, C9, C10, C11, C12, C13, C14, C15].getD i 0) LE = true) (nm1 : PySem.W.findIn K (.ref C14) "many" = some none) (nm2 : PySem.W.findIn K (.ref C14) "most" = some none) (nm3 : PySem.W.findIn K (.ref C15) "numbers" = some none)
    {nmTooMany qnTooMany : Str} {NTooMany fITooMany : Addr} {bsTooMany bmTooMany subTooMany : List Value} {snTooMany : List Str} {abTooMany : Bool} {colTooMany : Option Bool} {ddTooMany odTooMany anTooMany : Option Addr} {m0TooMany m1TooMany m2TooMany m3TooMany m5TooMany : Option Value} {ocTooMany kVTooMany dcTooMany pmTooMany cdTooMany ctTooMany : Value} {slTooMany : Array (Option Value)}
    (xoTooMany : K.lookup C14 = some (excClassObj nmTooMany qnTooMany C14 NTooMany bsTooMany bmTooMany true snTooMany subTooMany abTooMany colTooMany ddTooMany m0TooMany m1TooMany m2TooMany m3TooMany m5TooMany "ValueError.__new__")) (xrTooMany : PySem.HandSPX.refsVE bmTooMany = true) (saTooMany : PySem.W.findIn K (.ref C14) "__setattr__" = some (some (.builtin "object.__setattr__"))) (iITooMany : PySem.W.findIn K (.ref C14) "__init__" = some (some (.ref fITooMany))) (tITooMany : PySem.W.typeIn K (.ref fITooMany) = some (.type "function"))
    (lITooMany : K.lookup fITooMany = some ⟨ocTooMany, odTooMany, .func (PySem.W.fnOf "__init__" "TooMany.__init__" (defArgs s_TooMany_init) (defBody s_TooMany_init) (defScope s_TooMany_init) .none kVTooMany dcTooMany pmTooMany anTooMany cdTooMany ctTooMany), slTooMany⟩) (cITooMany : PySem.W.codeIn K cdTooMany "TooMany.__init__" = true) (kITooMany : PySem.W.keepIn K (.ref fITooMany) = true)
    {nmLeaned qnLeaned : Str} {NLeaned fILeaned : Addr} {bsLeaned bmLeaned subLeaned : List Value} {snLeaned : List Str} {abLeaned : Bool} {colLeaned : Option Bool} {ddLeaned odLeaned anLeaned : Option Addr} {m0Leaned m1Leaned m2Leaned m3Leaned m5Leaned : Option Value} {ocLeaned kVLeaned dcLeaned pmLeaned cdLeaned ctLeaned : Value} {slLeaned : Array (Option Value)}
    (xoLeaned : K.lookup C15 = some (excClassObj nmLeaned qnLeaned C15 NLeaned bsLeaned bmLeaned true snLeaned subLeaned abLeaned colLeaned ddLeaned m0Leaned m1Leaned m2Leaned m3Leaned m5Leaned "ValueError.__new__")) (xrLeaned : PySem.HandSPX.refsVE bmLeaned = true) (saLeaned : PySem.W.findIn K (.ref C15) "__setattr__" = some (some (.builtin "object.__setattr__"))) (iILeaned : PySem.W.findIn K (.ref C15) "__init__" = some (some (.ref fILeaned))) (tILeaned : PySem.W.typeIn K (.ref fILeaned) = some (.type "function"))
    (lILeaned : K.lookup fILeaned = some ⟨ocLeaned, odLeaned, .func (PySem.W.fnOf "__init__" "Leaned.__init__" (defArgs s_Leaned_init) (defBody s_Leaned_init) (defScope s_Leaned_init) .none kVLeaned dcLeaned pmLeaned anLeaned cdLeaned ctLeaned), slLeaned⟩) (cILeaned : PySem.W.codeIn K cdLeaned "Leaned.__init__" = true) (kILeaned : PySem.W.keepIn K (.ref fILeaned) = true) :
    LamX.LawAtS l w K CX0 12 63 "_law_script" mg fa h := by
  have e := hfa.symm.trans (PySem.W.mg_of X G a81)
  cases e
  have T : Txt K mg := ⟨PySem.W.mg_none_of X G z_dict, PySem.W.mg_none_of X G z_ValueError, PySem.W.mg_none_of X G z_len, PySem.W.mg_none_of X G z_isinstance, PySem.W.mg_none_of X G z_max, PySem.W.mg_none_of X G z_sum, PySem.W.mg_none_of X G z_all, PySem.W.mg_none_of X G z_tuple, PySem.W.mg_none_of X G z_list, PySem.W.mg_none_of X G z_abs, PySem.W.mg_none_of X G z_range, PySem.W.mg_none_of X G z_zip, PySem.W.mg_none_of X G z_bool, PySem.W.mg_none_of X G z_int, PySem.W.mg_none_of X G z_str, ⟨_, PySem.W.mg_of X G v_LAST_MOMENT⟩, ⟨_, PySem.W.mg_of X G v_MOST_DRAWING⟩, ⟨_, PySem.W.mg_of X G v_MOST_HOLD⟩, ⟨_, PySem.W.mg_of X G v_MOST_ROWS⟩, ⟨_, PySem.W.mg_of X G v_MOST_WAY⟩, ⟨_, PySem.W.mg_of X G v_MOST_MANY⟩, ⟨_, PySem.W.mg_of X G v_MOST_MOVES⟩, ⟨_, PySem.W.mg_of X G v_MOST_LAYERS⟩, ⟨_, PySem.W.mg_of X G v_MOST_FIGURES⟩⟩
  have gX : ∀ i n, clsN[i]? = some n → mg n = some (.ref ((fun i => [C0, C1, C2, C3, C4, C5, C6, C7, C8, C9, C10, C11, C12, C13, C14, C15].getD i 0) i)) := fun i n hn => match i, hn with
    | 0, h => by cases (show some ("NoLayer" : Str) = some n from h); exact PySem.W.mg_of X G x0
    | 1, h => by cases (show some ("NoWindow" : Str) = some n from h); exact PySem.W.mg_of X G x1
    | 2, h => by cases (show some ("NoSheet" : Str) = some n from h); exact PySem.W.mg_of X G x2
    | 3, h => by cases (show some ("NoMoment" : Str) = some n from h); exact PySem.W.mg_of X G x3
    | 4, h => by cases (show some ("NoRow" : Str) = some n from h); exact PySem.W.mg_of X G x4
    | 5, h => by cases (show some ("NoNumber" : Str) = some n from h); exact PySem.W.mg_of X G x5
    | 6, h => by cases (show some ("NoDrawings" : Str) = some n from h); exact PySem.W.mg_of X G x6
    | 7, h => by cases (show some ("Unlike" : Str) = some n from h); exact PySem.W.mg_of X G x7
    | 8, h => by cases (show some ("Endless" : Str) = some n from h); exact PySem.W.mg_of X G x8
    | 9, h => by cases (show some ("Squeezed" : Str) = some n from h); exact PySem.W.mg_of X G x9
    | 10, h => by cases (show some ("NoPaper" : Str) = some n from h); exact PySem.W.mg_of X G x10
    | 11, h => by cases (show some ("NoDeed" : Str) = some n from h); exact PySem.W.mg_of X G x11
    | 12, h => by cases (show some ("NoText" : Str) = some n from h); exact PySem.W.mg_of X G x12
    | 13, h => by cases (show some ("NoWords" : Str) = some n from h); exact PySem.W.mg_of X G x13
    | 14, h => by cases (show some ("TooMany" : Str) = some n from h); exact PySem.W.mg_of X G x14
    | 15, h => by cases (show some ("Leaned" : Str) = some n from h); exact PySem.W.mg_of X G x15
    | k + 16, h => by simp [clsN] at h
  have TX : ExcN K mg (fun i => [C0, C1, C2, C3, C4, C5, C6, C7, C8, C9, C10, C11, C12, C13, C14, C15].getD i 0) LE := ⟨excT_of xb, gX, PySem.W.mg_of X G xL, nm1, nm2, nm3⟩
  refine ⟨(PySem.W.fnOf "law" "law" (defArgs s_law) (defBody s_law) (defScope s_law) .none kV81 dc81 pm81 an81 (.ref cc81) ct81), [(cc81, PP81)], sp_law K [(PP81, qLam "law")], ?_, ?_, ?_, fun s v => .of_eq rfl, fun H a ns hl _ hT hS => ⟨a, ns, rfl, hS, hl, ?_, fun _ => rfl⟩, fun base kb gb tb => ?_⟩
  · intro p hp
    simp only [List.mem_cons, List.not_mem_nil, or_false] at hp
    rcases hp with rfl
    · exact te81
  · intro p hp
    simp only [List.mem_cons, List.not_mem_nil, or_false] at hp
    rcases hp with rfl
    · exact tn81
  · intro p hp
    simp only [List.mem_cons, List.not_mem_nil, or_false] at hp
    rcases hp with rfl
    · exact th81
  · intro p hp
    simp only [List.mem_cons, List.not_mem_nil, or_false] at hp
    rcases hp with rfl
    · exact LamX.TabS.nil (hT (cc81, PP81) (by simp))
  have TC : ClT K w mg (fun i => [KC0, KC1, KC2, 0, 0, 0, 0, T7, T8, T9].getD i 0) := ⟨⟨pgKC0, hdKC0, poKC0, saKC0⟩, ⟨pgKC1, hdKC1, poKC1, saKC1⟩, ⟨pgKC2, hdKC2, poKC2, saKC2⟩, naKC0layers, naKC0rows, naKC0backs, naKC0moves, naKC1deeds, naKC1made, naKC1numbered, naKC2roll, PySem.W.mg_of X G gPA, He.dicW_ok dW, partsP0 dW, partsP1 pn0 pn1 pn2 pn3 pn4 pn5 pn6 pn7 pw0 pw1 pw2 pw3 pw4 pw5 pw6 pw7, PySem.W.mg_of X G gANS, He.dicW_ok dWA, ansP aw0 aw1 aw2 aw3 aw4 (PySem.W.mg_of X G a65) (PySem.W.mg_of X G a66) (PySem.W.mg_of X G a67) (PySem.W.mg_of X G a68) (PySem.W.mg_of X G a69), PySem.W.mg_of X G gNBS, He.dicW_ok dWN, nbP0 dWN, nbP1 nw0 nw1 nw2 nw3 nw4, ⟨_, PySem.W.mg_of X G gYET⟩⟩
  have FITooMany := fun_mk (st := s_TooMany_init) lITooMany cITooMany kITooMany
  have bITooMany := FITooMany.binds (ps := ["self", "many", "most"]) fun _ _ _ _ _ _ us hl => match us, hl with | [_, _, _], _ => rfl
  have TITooMany : IniT l.prog w K mg base ((fun i => [C0, C1, C2, C3, C4, C5, C6, C7, C8, C9, C10, C11, C12, C13, C14, C15].getD i 0) 14) 3 (sp_TooMany_init (fun i => [C0, C1, C2, C3, C4, C5, C6, C7, C8, C9, C10, C11, C12, C13, C14, C15].getD i 0) K) := ⟨fITooMany, _, _, ⟨⟨_, _, _, _, _, _, _, _, _, _, _, _, _, _, _, xoTooMany, xrTooMany⟩, saTooMany, (TX.e 14 (by decide)).hs, TX.ty 14 (by decide), TX.kp 14 (by decide)⟩, iITooMany, tITooMany, ok_TooMany_init FITooMany, bITooMany⟩
  have FILeaned := fun_mk (st := s_Leaned_init) lILeaned cILeaned kILeaned
  have bILeaned := FILeaned.binds (ps := ["self", "numbers"]) fun _ _ _ _ _ _ us hl => match us, hl with | [_, _], _ => rfl
  have TILeaned : IniT l.prog w K mg base ((fun i => [C0, C1, C2, C3, C4, C5, C6, C7, C8, C9, C10, C11, C12, C13, C14, C15].getD i 0) 15) 2 (sp_Leaned_init (fun i => [C0, C1, C2, C3, C4, C5, C6, C7, C8, C9, C10, C11, C12, C13, C14, C15].getD i 0) K) := ⟨fILeaned, _, _, ⟨⟨_, _, _, _, _, _, _, _, _, _, _, _, _, _, _, xoLeaned, xrLeaned⟩, saLeaned, (TX.e 15 (by decide)).hs, TX.ty 15 (by decide), TX.kp 15 (by decide)⟩, iILeaned, tILeaned, ok_Leaned_init FILeaned, bILeaned⟩
  have F0 := fun_mk (st := s__law_met) l0 c0 k0
  have b0 := F0.binds (ps := ["_law_call"]) fun _ _ _ _ _ _ us hl => match us, hl with | [_], _ => rfl
  have F1 := fun_mk (st := s__law_classes) l1 c1 k1
  have b1 := F1.binds (ps := ["_law_e"]) fun _ _ _ _ _ _ us hl => match us, hl with | [_], _ => rfl
  have DE : ClE l.prog w K mg base 1 "_law_classes" ["_law_e"] (spCls (fun i => [C0, C1, C2, C3, C4, C5, C6, C7, C8, C9, C10, C11, C12, C13, C14, C15].getD i 0)) := ⟨_, _, ok__law_classes F1 T TX, k1, b1, PySem.W.mg_of X G a1⟩
  have F2 := fun_mk (st := s_is_whole_from) l2 c2 k2
  have b2 := F2.binds (ps := ["thing", "least"]) fun _ _ _ _ _ _ us hl => match us, hl with | [_, _], _ => rfl
  have D_is_whole_from : Cl l.prog w K mg base 1 "is_whole_from" ["thing", "least"] (sp_is_whole_from K) := ⟨_, _, ok_is_whole_from F2 T , k2, b2, PySem.W.mg_of X G a2⟩
  have F3 := fun_mk (st := s_is_whole) l3 c3 k3
  have b3 := F3.binds (ps := ["thing", "least", "most"]) fun _ _ _ _ _ _ us hl => match us, hl with | [_, _, _], _ => rfl
  have D_is_whole : Cl l.prog w K mg base 2 "is_whole" ["thing", "least", "most"] (sp_is_whole K) := ⟨_, _, ok_is_whole F3 T D_is_whole_from, k3, b3, PySem.W.mg_of X G a3⟩
  have F4 := fun_mk (st := s_need_moment) l4 c4 k4
  have b4 := F4.binds (ps := ["thing"]) fun _ _ _ _ _ _ us hl => match us, hl with | [_], _ => rfl
  have D_need_moment : ClX l.prog w K mg base 3 "need_moment" ["thing"] (sp_need_moment K (fun i => [C0, C1, C2, C3, C4, C5, C6, C7, C8, C9, C10, C11, C12, C13, C14, C15].getD i 0)) := ⟨_, _, ok_need_moment F4 T TX  D_is_whole, k4, b4, PySem.W.mg_of X G a4⟩
  have F5 := fun_mk (st := s_need_at_most) l5 c5 k5
  have b5 := F5.binds (ps := ["many", "most"]) fun _ _ _ _ _ _ us hl => match us, hl with | [_, _], _ => rfl
  have D_need_at_most : ClX l.prog w K mg base 3 "need_at_most" ["many", "most"] (sp_need_at_most K (fun i => [C0, C1, C2, C3, C4, C5, C6, C7, C8, C9, C10, C11, C12, C13, C14, C15].getD i 0)) := ⟨_, _, ok_need_at_most F5 T TX TITooMany , k5, b5, PySem.W.mg_of X G a5⟩
  have F6 := fun_mk (st := s_is_tuple) l6 c6 k6
  have b6 := F6.binds (ps := ["thing", "least", "most"]) fun _ _ _ _ _ _ us hl => match us, hl with | [_, _, _], _ => rfl
  have D_is_tuple : Cl l.prog w K mg base 1 "is_tuple" ["thing", "least", "most"] (sp_is_tuple K) := ⟨_, _, ok_is_tuple F6 T , k6, b6, PySem.W.mg_of X G a6⟩
  have F7 := fun_mk (st := s_is_drawing) l7 c7 k7
  have b7 := F7.binds (ps := ["thing"]) fun _ _ _ _ _ _ us hl => match us, hl with | [_], _ => rfl
  have D_is_drawing : Cl l.prog w K mg base 3 "is_drawing" ["thing"] (sp_is_drawing K) := ⟨_, _, ok_is_drawing F7 T D_is_whole, k7, b7, PySem.W.mg_of X G a7⟩
  have F8 := fun_mk (st := s_is_hold) l8 c8 k8
  have b8 := F8.binds (ps := ["thing"]) fun _ _ _ _ _ _ us hl => match us, hl with | [_], _ => rfl
  have D_is_hold : Cl l.prog w K mg base 3 "is_hold" ["thing"] (sp_is_hold K) := ⟨_, _, ok_is_hold F8 T D_is_whole, k8, b8, PySem.W.mg_of X G a8⟩
  have F9 := fun_mk (st := s_is_row) l9 c9 k9
  have b9 := F9.binds (ps := ["thing"]) fun _ _ _ _ _ _ us hl => match us, hl with | [_], _ => rfl
  have D_is_row : Cl l.prog w K mg base 4 "is_row" ["thing"] (sp_is_row K) := ⟨_, _, ok_is_row F9 T D_is_tuple D_is_drawing D_is_hold, k9, b9, PySem.W.mg_of X G a9⟩
  have F10 := fun_mk (st := s_is_layer) l10 c10 k10
  have b10 := F10.binds (ps := ["thing"]) fun _ _ _ _ _ _ us hl => match us, hl with | [_], _ => rfl
  have D_is_layer : Cl l.prog w K mg base 5 "is_layer" ["thing"] (sp_is_layer K) := ⟨_, _, ok_is_layer F10 T D_is_tuple D_is_row D_is_whole, k10, b10, PySem.W.mg_of X G a10⟩
  have F11 := fun_mk (st := s_is_way) l11 c11 k11
  have b11 := F11.binds (ps := ["thing"]) fun _ _ _ _ _ _ us hl => match us, hl with | [_], _ => rfl
  have D_is_way : Cl l.prog w K mg base 3 "is_way" ["thing"] (sp_is_way K) := ⟨_, _, ok_is_way F11 T D_is_whole, k11, b11, PySem.W.mg_of X G a11⟩
  have F12 := fun_mk (st := s_is_many) l12 c12 k12
  have b12 := F12.binds (ps := ["thing"]) fun _ _ _ _ _ _ us hl => match us, hl with | [_], _ => rfl
  have D_is_many : Cl l.prog w K mg base 3 "is_many" ["thing"] (sp_is_many K) := ⟨_, _, ok_is_many F12 T D_is_whole, k12, b12, PySem.W.mg_of X G a12⟩
  have F13 := fun_mk (st := s_is_move) l13 c13 k13
  have b13 := F13.binds (ps := ["thing"]) fun _ _ _ _ _ _ us hl => match us, hl with | [_], _ => rfl
  have D_is_move : Cl l.prog w K mg base 4 "is_move" ["thing"] (sp_is_move K) := ⟨_, _, ok_is_move F13 T D_is_tuple D_is_way D_is_many, k13, b13, PySem.W.mg_of X G a13⟩
  have F14 := fun_mk (st := s_is_window) l14 c14 k14
  have b14 := F14.binds (ps := ["thing"]) fun _ _ _ _ _ _ us hl => match us, hl with | [_], _ => rfl
  have D_is_window : Cl l.prog w K mg base 5 "is_window" ["thing"] (sp_is_window K) := ⟨_, _, ok_is_window F14 T D_is_tuple D_is_way D_is_move, k14, b14, PySem.W.mg_of X G a14⟩
  have F15 := fun_mk (st := s_is_sheet) l15 c15 k15
  have b15 := F15.binds (ps := ["thing"]) fun _ _ _ _ _ _ us hl => match us, hl with | [_], _ => rfl
  have D_is_sheet : Cl l.prog w K mg base 6 "is_sheet" ["thing"] (sp_is_sheet K) := ⟨_, _, ok_is_sheet F15 T D_is_tuple D_is_window D_is_layer, k15, b15, PySem.W.mg_of X G a15⟩
  have F16 := fun_mk (st := s_need_sheet) l16 c16 k16
  have b16 := F16.binds (ps := ["thing"]) fun _ _ _ _ _ _ us hl => match us, hl with | [_], _ => rfl
  have D_need_sheet : Cl l.prog w K mg base 7 "need_sheet" ["thing"] (sp_need_sheet K) := ⟨_, _, ok_need_sheet F16 T D_is_sheet, k16, b16, PySem.W.mg_of X G a16⟩
  have F17 := fun_mk (st := s_held) l17 c17 k17
  have b17 := F17.binds (ps := ["rows"]) fun _ _ _ _ _ _ us hl => match us, hl with | [_], _ => rfl
  have D_held : Cl l.prog w K mg base 1 "held" ["rows"] (sp_held K) := ⟨_, _, ok_held F17 T , k17, b17, PySem.W.mg_of X G a17⟩
  have F18 := fun_mk (st := s_length_of) l18 c18 k18
  have b18 := F18.binds (ps := ["layer"]) fun _ _ _ _ _ _ us hl => match us, hl with | [_], _ => rfl
  have D_length_of : Cl l.prog w K mg base 2 "length_of" ["layer"] (sp_length_of K) := ⟨_, _, ok_length_of F18 T D_held, k18, b18, PySem.W.mg_of X G a18⟩
  have F19 := fun_mk (st := s_moved) l19 c19 k19
  have b19 := F19.binds (ps := ["window"]) fun _ _ _ _ _ _ us hl => match us, hl with | [_], _ => rfl
  have D_moved : Cl l.prog w K mg base 1 "moved" ["window"] (sp_moved K) := ⟨_, _, ok_moved F19 T , k19, b19, PySem.W.mg_of X G a19⟩
  have F20 := fun_mk (st := s_full_length) l20 c20 k20
  have b20 := F20.binds (ps := ["sheet"]) fun _ _ _ _ _ _ us hl => match us, hl with | [_], _ => rfl
  have D_full_length : Cl l.prog w K mg base 3 "full_length" ["sheet"] (sp_full_length K) := ⟨_, _, ok_full_length F20 T D_length_of D_moved, k20, b20, PySem.W.mg_of X G a20⟩
  have F21 := fun_mk (st := s_sheet_length) l21 c21 k21
  have b21 := F21.binds (ps := ["sheet"]) fun _ _ _ _ _ _ us hl => match us, hl with | [_], _ => rfl
  have D_sheet_length : Cl l.prog w K mg base 8 "sheet_length" ["sheet"] (sp_sheet_length K) := ⟨_, _, ok_sheet_length F21 T D_need_sheet D_full_length, k21, b21, PySem.W.mg_of X G a21⟩
  have F22 := fun_mk (st := s_first_time) l22 c22 k22
  have b22 := F22.binds (ps := ["rows", "back", "moment"]) fun _ _ _ _ _ _ us hl => match us, hl with | [_, _, _], _ => rfl
  have D_first_time : Cl l.prog w K mg base 2 "first_time" ["rows", "back", "moment"] (sp_first_time K) := ⟨_, _, ok_first_time F22 T D_held, k22, b22, PySem.W.mg_of X G a22⟩
  have F23 := fun_mk (st := s_drawing_of) l23 c23 k23
  have b23 := F23.binds (ps := ["layer", "moment"]) fun _ _ _ _ _ _ us hl => match us, hl with | [_, _], _ => rfl
  have D_drawing_of : Cl l.prog w K mg base 3 "drawing_of" ["layer", "moment"] (sp_drawing_of K) := ⟨_, _, ok_drawing_of F23 T D_first_time, k23, b23, PySem.W.mg_of X G a23⟩
  have F24 := fun_mk (st := s_common_divisor) l24 c24 k24
  have b24 := F24.binds (ps := ["one", "other"]) fun _ _ _ _ _ _ us hl => match us, hl with | [_, _], _ => rfl
  have D_common_divisor : Cl l.prog w K mg base 1 "common_divisor" ["one", "other"] (sp_common_divisor K) := ⟨_, _, ok_common_divisor F24 T , k24, b24, PySem.W.mg_of X G a24⟩
  have F25 := fun_mk (st := s_lowest) l25 c25 k25
  have b25 := F25.binds (ps := ["top", "bottom"]) fun _ _ _ _ _ _ us hl => match us, hl with | [_, _], _ => rfl
  have D_lowest : Cl l.prog w K mg base 2 "lowest" ["top", "bottom"] (sp_lowest K) := ⟨_, _, ok_lowest F25 T D_common_divisor, k25, b25, PySem.W.mg_of X G a25⟩
  have F26 := fun_mk (st := s_on_the_way) l26 c26 k26
  have b26 := F26.binds (ps := ["start", "goal", "step", "many"]) fun _ _ _ _ _ _ us hl => match us, hl with | [_, _, _, _], _ => rfl
  have D_on_the_way : Cl l.prog w K mg base 3 "on_the_way" ["start", "goal", "step", "many"] (sp_on_the_way K) := ⟨_, _, ok_on_the_way F26 T D_lowest, k26, b26, PySem.W.mg_of X G a26⟩
  have F27 := fun_mk (st := s_place_of) l27 c27 k27
  have b27 := F27.binds (ps := ["window", "moment"]) fun _ _ _ _ _ _ us hl => match us, hl with | [_, _], _ => rfl
  have D_place_of : Cl l.prog w K mg base 4 "place_of" ["window", "moment"] (sp_place_of K) := ⟨_, _, ok_place_of F27 T D_on_the_way, k27, b27, PySem.W.mg_of X G a27⟩
  have F28 := fun_mk (st := s_picture_of) l28 c28 k28
  have b28 := F28.binds (ps := ["sheet", "moment"]) fun _ _ _ _ _ _ us hl => match us, hl with | [_, _], _ => rfl
  have D_picture_of : Cl l.prog w K mg base 5 "picture_of" ["sheet", "moment"] (sp_picture_of K) := ⟨_, _, ok_picture_of F28 T D_drawing_of D_place_of, k28, b28, PySem.W.mg_of X G a28⟩
  have F29 := fun_mk (st := s_picture_at) l29 c29 k29
  have b29 := F29.binds (ps := ["sheet", "moment"]) fun _ _ _ _ _ _ us hl => match us, hl with | [_, _], _ => rfl
  have D_picture_at : Cl l.prog w K mg base 8 "picture_at" ["sheet", "moment"] (sp_picture_at K) := ⟨_, _, ok_picture_at F29 T D_need_sheet D_need_moment D_picture_of, k29, b29, PySem.W.mg_of X G a29⟩
  have F30 := fun_mk (st := s_is_plain_part) l30 c30 k30
  have b30 := F30.binds (ps := ["part", "thing"]) fun _ _ _ _ _ _ us hl => match us, hl with | [_, _], _ => rfl
  have D_is_plain_part : Cl l.prog w K mg base 4 "is_plain_part" ["part", "thing"] (sp_is_plain_part K) := ⟨_, _, ok_is_plain_part F30 T D_is_drawing D_is_hold D_is_way D_is_many, k30, b30, PySem.W.mg_of X G a30⟩
  have F31 := fun_mk (st := s_named) l31 c31 k31
  have b31 := F31.binds (ps := ["deed"]) fun _ _ _ _ _ _ us hl => match us, hl with | [_], _ => rfl
  have D_named : Cl l.prog w K mg base 1 "named" ["deed"] (sp_named K) := ⟨_, _, ok_named F31 T , k31, b31, PySem.W.mg_of X G a31⟩
  have F32 := fun_mk (st := s_Made__init) l32 c32 k32
  have b32 := F32.binds (ps := ["self"]) fun _ _ _ _ _ _ us hl => match us, hl with | [_], _ => rfl
  have D_Made__init : Mi l.prog w K mg base 1 ((fun i => [KC0, KC1, KC2, 0, 0, 0, 0, T7, T8, T9].getD i 0) 0) "Made" ["self"] (sp_Made__init K (fun i => [KC0, KC1, KC2, 0, 0, 0, 0, T7, T8, T9].getD i 0)) := ⟨_, _, ok_Made__init F32 T TC , b32, ⟨mkKC0, a32, n32, kpKC0⟩, PySem.W.mg_of X G gKC0⟩
  have F33 := fun_mk (st := s_Made__twin) l33 c33 k33
  have b33 := F33.binds (ps := ["self"]) fun _ _ _ _ _ _ us hl => match us, hl with | [_], _ => rfl
  have D_Made__twin : Ml l.prog w K mg base 3 ((fun i => [KC0, KC1, KC2, 0, 0, 0, 0, T7, T8, T9].getD i 0) 0) "twin" ["self"] (sp_Made__twin K (fun i => [KC0, KC1, KC2, 0, 0, 0, 0, T7, T8, T9].getD i 0)) := ⟨_, _, ok_Made__twin F33 T TC D_Made__init, b33, ⟨a33, n33, k33⟩⟩
  have F34 := fun_mk (st := s_Made__fits) l34 c34 k34
  have b34 := F34.binds (ps := ["self", "part", "thing"]) fun _ _ _ _ _ _ us hl => match us, hl with | [_, _, _], _ => rfl
  have D_Made__fits : Ml l.prog w K mg base 5 ((fun i => [KC0, KC1, KC2, 0, 0, 0, 0, T7, T8, T9].getD i 0) 0) "fits" ["self", "part", "thing"] (sp_Made__fits K (fun i => [KC0, KC1, KC2, 0, 0, 0, 0, T7, T8, T9].getD i 0)) := ⟨_, _, ok_Made__fits F34 T TC D_is_whole_from D_is_plain_part, b34, ⟨a34, n34, k34⟩⟩
  have F35 := fun_mk (st := s_Made__takes) l35 c35 k35
  have b35 := F35.binds (ps := ["self", "thing"]) fun _ _ _ _ _ _ us hl => match us, hl with | [_, _], _ => rfl
  have D_Made__takes : Ml l.prog w K mg base 6 ((fun i => [KC0, KC1, KC2, 0, 0, 0, 0, T7, T8, T9].getD i 0) 0) "takes" ["self", "thing"] (sp_Made__takes K (fun i => [KC0, KC1, KC2, 0, 0, 0, 0, T7, T8, T9].getD i 0)) := ⟨_, _, ok_Made__takes F35 T TC D_Made__fits, b35, ⟨a35, n35, k35⟩⟩
  have F36 := fun_mk (st := s_Made__follow_row) l36 c36 k36
  have b36 := F36.binds (ps := ["self", "word", "row", "new"]) fun _ _ _ _ _ _ us hl => match us, hl with | [_, _, _, _], _ => rfl
  have D_Made__follow_row : Ml l.prog w K mg base 1 ((fun i => [KC0, KC1, KC2, 0, 0, 0, 0, T7, T8, T9].getD i 0) 0) "follow_row" ["self", "word", "row", "new"] (sp_Made__follow_row K (fun i => [KC0, KC1, KC2, 0, 0, 0, 0, T7, T8, T9].getD i 0)) := ⟨_, _, ok_Made__follow_row F36 T TC , b36, ⟨a36, n36, k36⟩⟩
  have F37 := fun_mk (st := s_Made__follow) l37 c37 k37
  have b37 := F37.binds (ps := ["self", "number", "deed"]) fun _ _ _ _ _ _ us hl => match us, hl with | [_, _, _], _ => rfl
  have D_Made__follow : Ml l.prog w K mg base 2 ((fun i => [KC0, KC1, KC2, 0, 0, 0, 0, T7, T8, T9].getD i 0) 0) "follow" ["self", "number", "deed"] (sp_Made__follow K (fun i => [KC0, KC1, KC2, 0, 0, 0, 0, T7, T8, T9].getD i 0)) := ⟨_, _, ok_Made__follow F37 T TC D_Made__follow_row, b37, ⟨a37, n37, k37⟩⟩
  have F38 := fun_mk (st := s_Made__rows_in) l38 c38 k38
  have b38 := F38.binds (ps := ["self", "layer"]) fun _ _ _ _ _ _ us hl => match us, hl with | [_, _], _ => rfl
  have D_Made__rows_in : Ml l.prog w K mg base 1 ((fun i => [KC0, KC1, KC2, 0, 0, 0, 0, T7, T8, T9].getD i 0) 0) "rows_in" ["self", "layer"] (sp_Made__rows_in K (fun i => [KC0, KC1, KC2, 0, 0, 0, 0, T7, T8, T9].getD i 0)) := ⟨_, _, ok_Made__rows_in F38 T TC , b38, ⟨a38, n38, k38⟩⟩
  have F39 := fun_mk (st := s_Made__need_room) l39 c39 k39
  have b39 := F39.binds (ps := ["self"]) fun _ _ _ _ _ _ us hl => match us, hl with | [_], _ => rfl
  have D_Made__need_room : MlX l.prog w K mg base 4 ((fun i => [KC0, KC1, KC2, 0, 0, 0, 0, T7, T8, T9].getD i 0) 0) "need_room" ["self"] (sp_Made__need_room K (fun i => [C0, C1, C2, C3, C4, C5, C6, C7, C8, C9, C10, C11, C12, C13, C14, C15].getD i 0) (fun i => [KC0, KC1, KC2, 0, 0, 0, 0, T7, T8, T9].getD i 0)) := ⟨_, _, ok_Made__need_room F39 T TX TC  D_need_at_most D_Made__rows_in, b39, ⟨a39, n39, k39⟩⟩
  have F40 := fun_mk (st := s_Made__layer_made) l40 c40 k40
  have b40 := F40.binds (ps := ["self", "layer"]) fun _ _ _ _ _ _ us hl => match us, hl with | [_, _], _ => rfl
  have D_Made__layer_made : Ml l.prog w K mg base 2 ((fun i => [KC0, KC1, KC2, 0, 0, 0, 0, T7, T8, T9].getD i 0) 0) "layer_made" ["self", "layer"] (sp_Made__layer_made K (fun i => [KC0, KC1, KC2, 0, 0, 0, 0, T7, T8, T9].getD i 0)) := ⟨_, _, ok_Made__layer_made F40 T TC D_Made__rows_in, b40, ⟨a40, n40, k40⟩⟩
  have F41 := fun_mk (st := s_Made__sheet_made) l41 c41 k41
  have b41 := F41.binds (ps := ["self"]) fun _ _ _ _ _ _ us hl => match us, hl with | [_], _ => rfl
  have D_Made__sheet_made : Ml l.prog w K mg base 3 ((fun i => [KC0, KC1, KC2, 0, 0, 0, 0, T7, T8, T9].getD i 0) 0) "sheet_made" ["self"] (sp_Made__sheet_made K (fun i => [KC0, KC1, KC2, 0, 0, 0, 0, T7, T8, T9].getD i 0)) := ⟨_, _, ok_Made__sheet_made F41 T TC D_Made__layer_made, b41, ⟨a41, n41, k41⟩⟩
  have F42 := fun_mk (st := s_made_anew) l42 c42 k42
  have b42 := F42.binds (ps := ["deeds"]) fun _ _ _ _ _ _ us hl => match us, hl with | [_], _ => rfl
  have D_made_anew : Cl l.prog w K mg base 3 "made_anew" ["deeds"] (sp_made_anew K (fun i => [KC0, KC1, KC2, 0, 0, 0, 0, T7, T8, T9].getD i 0)) := ⟨_, _, ok_made_anew F42 T TC D_Made__init D_Made__follow, k42, b42, PySem.W.mg_of X G a42⟩
  have F43 := fun_mk (st := s_Roll__init) l43 c43 k43
  have b43 := F43.binds (ps := ["self"]) fun _ _ _ _ _ _ us hl => match us, hl with | [_], _ => rfl
  have D_Roll__init : Mi l.prog w K mg base 3 ((fun i => [KC0, KC1, KC2, 0, 0, 0, 0, T7, T8, T9].getD i 0) 1) "Roll" ["self"] (sp_Roll__init K (fun i => [KC0, KC1, KC2, 0, 0, 0, 0, T7, T8, T9].getD i 0)) := ⟨_, _, ok_Roll__init F43 T TC D_Made__init, b43, ⟨mkKC1, a43, n43, kpKC1⟩, PySem.W.mg_of X G gKC1⟩
  have F44 := fun_mk (st := s_Roll__need_standing) l44 c44 k44
  have b44 := F44.binds (ps := ["self", "number"]) fun _ _ _ _ _ _ us hl => match us, hl with | [_, _], _ => rfl
  have D_Roll__need_standing : MlX l.prog w K mg base 2 ((fun i => [KC0, KC1, KC2, 0, 0, 0, 0, T7, T8, T9].getD i 0) 1) "need_standing" ["self", "number"] (sp_Roll__need_standing K (fun i => [C0, C1, C2, C3, C4, C5, C6, C7, C8, C9, C10, C11, C12, C13, C14, C15].getD i 0) (fun i => [KC0, KC1, KC2, 0, 0, 0, 0, T7, T8, T9].getD i 0)) := ⟨_, _, ok_Roll__need_standing F44 T TX TC  D_is_whole_from, b44, ⟨a44, n44, k44⟩⟩
  have F45 := fun_mk (st := s_Roll__put) l45 c45 k45
  have b45 := F45.binds (ps := ["self", "deed"]) fun _ _ _ _ _ _ us hl => match us, hl with | [_, _], _ => rfl
  have D_Roll__put : MlX l.prog w K mg base 7 ((fun i => [KC0, KC1, KC2, 0, 0, 0, 0, T7, T8, T9].getD i 0) 1) "put" ["self", "deed"] (sp_Roll__put K (fun i => [C0, C1, C2, C3, C4, C5, C6, C7, C8, C9, C10, C11, C12, C13, C14, C15].getD i 0) (fun i => [KC0, KC1, KC2, 0, 0, 0, 0, T7, T8, T9].getD i 0)) := ⟨_, _, ok_Roll__put F45 T TX TC  D_Made__takes D_Made__twin D_Made__follow D_Made__need_room, b45, ⟨a45, n45, k45⟩⟩
  have F46 := fun_mk (st := s_Roll__sheet_now) l46 c46 k46
  have b46 := F46.binds (ps := ["self"]) fun _ _ _ _ _ _ us hl => match us, hl with | [_], _ => rfl
  have D_Roll__sheet_now : Ml l.prog w K mg base 4 ((fun i => [KC0, KC1, KC2, 0, 0, 0, 0, T7, T8, T9].getD i 0) 1) "sheet_now" ["self"] (sp_Roll__sheet_now K (fun i => [KC0, KC1, KC2, 0, 0, 0, 0, T7, T8, T9].getD i 0)) := ⟨_, _, ok_Roll__sheet_now F46 T TC D_Made__sheet_made, b46, ⟨a46, n46, k46⟩⟩
  have F47 := fun_mk (st := s_Roll__standing) l47 c47 k47
  have b47 := F47.binds (ps := ["self"]) fun _ _ _ _ _ _ us hl => match us, hl with | [_], _ => rfl
  have D_Roll__standing : Ml l.prog w K mg base 1 ((fun i => [KC0, KC1, KC2, 0, 0, 0, 0, T7, T8, T9].getD i 0) 1) "standing" ["self"] (sp_Roll__standing K (fun i => [KC0, KC1, KC2, 0, 0, 0, 0, T7, T8, T9].getD i 0)) := ⟨_, _, ok_Roll__standing F47 T TC , b47, ⟨a47, n47, k47⟩⟩
  have F48 := fun_mk (st := s_Roll__leaning) l48 c48 k48
  have b48 := F48.binds (ps := ["self", "number"]) fun _ _ _ _ _ _ us hl => match us, hl with | [_, _], _ => rfl
  have D_Roll__leaning : MlX l.prog w K mg base 3 ((fun i => [KC0, KC1, KC2, 0, 0, 0, 0, T7, T8, T9].getD i 0) 1) "leaning" ["self", "number"] (sp_Roll__leaning K (fun i => [C0, C1, C2, C3, C4, C5, C6, C7, C8, C9, C10, C11, C12, C13, C14, C15].getD i 0) (fun i => [KC0, KC1, KC2, 0, 0, 0, 0, T7, T8, T9].getD i 0)) := ⟨_, _, ok_Roll__leaning F48 T TX TC  D_Roll__need_standing D_named, b48, ⟨a48, n48, k48⟩⟩
  have F49 := fun_mk (st := s_Roll__undo) l49 c49 k49
  have b49 := F49.binds (ps := ["self", "number"]) fun _ _ _ _ _ _ us hl => match us, hl with | [_, _], _ => rfl
  have D_Roll__undo : MlX l.prog w K mg base 5 ((fun i => [KC0, KC1, KC2, 0, 0, 0, 0, T7, T8, T9].getD i 0) 1) "undo" ["self", "number"] (sp_Roll__undo K (fun i => [C0, C1, C2, C3, C4, C5, C6, C7, C8, C9, C10, C11, C12, C13, C14, C15].getD i 0) (fun i => [KC0, KC1, KC2, 0, 0, 0, 0, T7, T8, T9].getD i 0)) := ⟨_, _, ok_Roll__undo F49 T TX TC TILeaned D_Roll__leaning D_made_anew D_Made__need_room, b49, ⟨a49, n49, k49⟩⟩
  have F50 := fun_mk (st := s_writes_number) l50 c50 k50
  have b50 := F50.binds (ps := ["word"]) fun _ _ _ _ _ _ us hl => match us, hl with | [_], _ => rfl
  have D_writes_number : Cl l.prog w K mg base 1 "writes_number" ["word"] (sp_writes_number K) := ⟨_, _, ok_writes_number F50 T , k50, b50, PySem.W.mg_of X G a50⟩
  have F51 := fun_mk (st := s_number_in) l51 c51 k51
  have b51 := F51.binds (ps := ["word"]) fun _ _ _ _ _ _ us hl => match us, hl with | [_], _ => rfl
  have D_number_in : Cl l.prog w K mg base 2 "number_in" ["word"] (sp_number_in K) := ⟨_, _, ok_number_in F51 T D_writes_number, k51, b51, PySem.W.mg_of X G a51⟩
  have F52 := fun_mk (st := s_numbers_in) l52 c52 k52
  have b52 := F52.binds (ps := ["word", "between"]) fun _ _ _ _ _ _ us hl => match us, hl with | [_, _], _ => rfl
  have D_numbers_in : Cl l.prog w K mg base 3 "numbers_in" ["word", "between"] (sp_numbers_in K) := ⟨_, _, ok_numbers_in F52 T D_number_in, k52, b52, PySem.W.mg_of X G a52⟩
  have F53 := fun_mk (st := s_move_text) l53 c53 k53
  have b53 := F53.binds (ps := ["move"]) fun _ _ _ _ _ _ us hl => match us, hl with | [_], _ => rfl
  have D_move_text : Cl l.prog w K mg base 1 "move_text" ["move"] (sp_move_text K) := ⟨_, _, ok_move_text F53 T , k53, b53, PySem.W.mg_of X G a53⟩
  have F54 := fun_mk (st := s_row_text) l54 c54 k54
  have b54 := F54.binds (ps := ["row"]) fun _ _ _ _ _ _ us hl => match us, hl with | [_], _ => rfl
  have D_row_text : Cl l.prog w K mg base 1 "row_text" ["row"] (sp_row_text K) := ⟨_, _, ok_row_text F54 T , k54, b54, PySem.W.mg_of X G a54⟩
  have F55 := fun_mk (st := s_window_text) l55 c55 k55
  have b55 := F55.binds (ps := ["window"]) fun _ _ _ _ _ _ us hl => match us, hl with | [_], _ => rfl
  have D_window_text : Cl l.prog w K mg base 2 "window_text" ["window"] (sp_window_text K) := ⟨_, _, ok_window_text F55 T D_move_text, k55, b55, PySem.W.mg_of X G a55⟩
  have F56 := fun_mk (st := s_layer_text) l56 c56 k56
  have b56 := F56.binds (ps := ["layer"]) fun _ _ _ _ _ _ us hl => match us, hl with | [_], _ => rfl
  have D_layer_text : Cl l.prog w K mg base 2 "layer_text" ["layer"] (sp_layer_text K) := ⟨_, _, ok_layer_text F56 T D_row_text, k56, b56, PySem.W.mg_of X G a56⟩
  have F57 := fun_mk (st := s_text_of) l57 c57 k57
  have b57 := F57.binds (ps := ["sheet"]) fun _ _ _ _ _ _ us hl => match us, hl with | [_], _ => rfl
  have D_text_of : Cl l.prog w K mg base 3 "text_of" ["sheet"] (sp_text_of K) := ⟨_, _, ok_text_of F57 T D_window_text D_layer_text, k57, b57, PySem.W.mg_of X G a57⟩
  have F58 := fun_mk (st := s_sheet_text) l58 c58 k58
  have b58 := F58.binds (ps := ["sheet"]) fun _ _ _ _ _ _ us hl => match us, hl with | [_], _ => rfl
  have D_sheet_text : Cl l.prog w K mg base 8 "sheet_text" ["sheet"] (sp_sheet_text K) := ⟨_, _, ok_sheet_text F58 T D_need_sheet D_text_of, k58, b58, PySem.W.mg_of X G a58⟩
  have F59 := fun_mk (st := s_window_in) l59 c59 k59
  have b59 := F59.binds (ps := ["line"]) fun _ _ _ _ _ _ us hl => match us, hl with | [_], _ => rfl
  have D_window_in : Cl l.prog w K mg base 4 "window_in" ["line"] (sp_window_in K) := ⟨_, _, ok_window_in F59 T D_numbers_in D_number_in, k59, b59, PySem.W.mg_of X G a59⟩
  have F60 := fun_mk (st := s_layer_in) l60 c60 k60
  have b60 := F60.binds (ps := ["line"]) fun _ _ _ _ _ _ us hl => match us, hl with | [_], _ => rfl
  have D_layer_in : Cl l.prog w K mg base 4 "layer_in" ["line"] (sp_layer_in K) := ⟨_, _, ok_layer_in F60 T D_numbers_in D_number_in, k60, b60, PySem.W.mg_of X G a60⟩
  have F61 := fun_mk (st := s_sheet_in) l61 c61 k61
  have b61 := F61.binds (ps := ["text"]) fun _ _ _ _ _ _ us hl => match us, hl with | [_], _ => rfl
  have D_sheet_in : Cl l.prog w K mg base 5 "sheet_in" ["text"] (sp_sheet_in K) := ⟨_, _, ok_sheet_in F61 T D_window_in D_layer_in, k61, b61, PySem.W.mg_of X G a61⟩
  have F62 := fun_mk (st := s_read_sheet) l62 c62 k62
  have b62 := F62.binds (ps := ["text"]) fun _ _ _ _ _ _ us hl => match us, hl with | [_], _ => rfl
  have D_read_sheet : Cl l.prog w K mg base 7 "read_sheet" ["text"] (sp_read_sheet K) := ⟨_, _, ok_read_sheet F62 T D_sheet_in D_is_sheet, k62, b62, PySem.W.mg_of X G a62⟩
  have F63 := fun_mk (st := s_spaced) l63 c63 k63
  have b63 := F63.binds (ps := ["numbers"]) fun _ _ _ _ _ _ us hl => match us, hl with | [_], _ => rfl
  have D_spaced : Cl l.prog w K mg base 1 "spaced" ["numbers"] (sp_spaced K) := ⟨_, _, ok_spaced F63 T , k63, b63, PySem.W.mg_of X G a63⟩
  have F64 := fun_mk (st := s_picture_text) l64 c64 k64
  have b64 := F64.binds (ps := ["picture"]) fun _ _ _ _ _ _ us hl => match us, hl with | [_], _ => rfl
  have D_picture_text : Cl l.prog w K mg base 2 "picture_text" ["picture"] (sp_picture_text K) := ⟨_, _, ok_picture_text F64 T D_spaced, k64, b64, PySem.W.mg_of X G a64⟩
  have F65 := fun_mk (st := s_undone) l65 c65 k65
  have b65 := F65.binds (ps := ["roll", "numbers"]) fun _ _ _ _ _ _ us hl => match us, hl with | [_, _], _ => rfl
  have D_undone : ClX l.prog w K mg base 6 "undone" ["roll", "numbers"] (sp_undone K (fun i => [C0, C1, C2, C3, C4, C5, C6, C7, C8, C9, C10, C11, C12, C13, C14, C15].getD i 0) (fun i => [KC0, KC1, KC2, 0, 0, 0, 0, T7, T8, T9].getD i 0)) := ⟨_, _, ok_undone F65 T TX TC  D_Roll__undo, k65, b65, PySem.W.mg_of X G a65⟩
  have F66 := fun_mk (st := s_written_sheet) l66 c66 k66
  have b66 := F66.binds (ps := ["roll", "numbers"]) fun _ _ _ _ _ _ us hl => match us, hl with | [_, _], _ => rfl
  have D_written_sheet : ClX l.prog w K mg base 5 "written_sheet" ["roll", "numbers"] (sp_written_sheet K (fun i => [C0, C1, C2, C3, C4, C5, C6, C7, C8, C9, C10, C11, C12, C13, C14, C15].getD i 0) (fun i => [KC0, KC1, KC2, 0, 0, 0, 0, T7, T8, T9].getD i 0)) := ⟨_, _, ok_written_sheet F66 T TX TC  D_Roll__sheet_now D_text_of, k66, b66, PySem.W.mg_of X G a66⟩
  have F67 := fun_mk (st := s_written_length) l67 c67 k67
  have b67 := F67.binds (ps := ["roll", "numbers"]) fun _ _ _ _ _ _ us hl => match us, hl with | [_, _], _ => rfl
  have D_written_length : ClX l.prog w K mg base 5 "written_length" ["roll", "numbers"] (sp_written_length K (fun i => [C0, C1, C2, C3, C4, C5, C6, C7, C8, C9, C10, C11, C12, C13, C14, C15].getD i 0) (fun i => [KC0, KC1, KC2, 0, 0, 0, 0, T7, T8, T9].getD i 0)) := ⟨_, _, ok_written_length F67 T TX TC  D_Roll__sheet_now D_full_length, k67, b67, PySem.W.mg_of X G a67⟩
  have F68 := fun_mk (st := s_written_picture) l68 c68 k68
  have b68 := F68.binds (ps := ["roll", "numbers"]) fun _ _ _ _ _ _ us hl => match us, hl with | [_, _], _ => rfl
  have D_written_picture : ClX l.prog w K mg base 6 "written_picture" ["roll", "numbers"] (sp_written_picture K (fun i => [C0, C1, C2, C3, C4, C5, C6, C7, C8, C9, C10, C11, C12, C13, C14, C15].getD i 0) (fun i => [KC0, KC1, KC2, 0, 0, 0, 0, T7, T8, T9].getD i 0)) := ⟨_, _, ok_written_picture F68 T TX TC  D_need_moment D_Roll__sheet_now D_picture_text D_picture_of, k68, b68, PySem.W.mg_of X G a68⟩
  have F69 := fun_mk (st := s_written_leaning) l69 c69 k69
  have b69 := F69.binds (ps := ["roll", "numbers"]) fun _ _ _ _ _ _ us hl => match us, hl with | [_, _], _ => rfl
  have D_written_leaning : ClX l.prog w K mg base 4 "written_leaning" ["roll", "numbers"] (sp_written_leaning K (fun i => [C0, C1, C2, C3, C4, C5, C6, C7, C8, C9, C10, C11, C12, C13, C14, C15].getD i 0) (fun i => [KC0, KC1, KC2, 0, 0, 0, 0, T7, T8, T9].getD i 0)) := ⟨_, _, ok_written_leaning F69 T TX TC  D_Roll__leaning D_spaced, k69, b69, PySem.W.mg_of X G a69⟩
  have F70 := fun_mk (st := s_numbers_behind) l70 c70 k70
  have b70 := F70.binds (ps := ["word"]) fun _ _ _ _ _ _ us hl => match us, hl with | [_], _ => rfl
  have D_numbers_behind : Cl l.prog w K mg base 1 "numbers_behind" ["word"] (sp_numbers_behind K (fun i => [KC0, KC1, KC2, 0, 0, 0, 0, T7, T8, T9].getD i 0)) := ⟨_, _, ok_numbers_behind F70 T TC , k70, b70, PySem.W.mg_of X G a70⟩
  have F71 := fun_mk (st := s_read_row) l71 c71 k71
  have b71 := F71.binds (ps := ["row"]) fun _ _ _ _ _ _ us hl => match us, hl with | [_], _ => rfl
  have D_read_row : ClX l.prog w K mg base 2 "read_row" ["row"] (sp_read_row K (fun i => [C0, C1, C2, C3, C4, C5, C6, C7, C8, C9, C10, C11, C12, C13, C14, C15].getD i 0) (fun i => [KC0, KC1, KC2, 0, 0, 0, 0, T7, T8, T9].getD i 0)) := ⟨_, _, ok_read_row F71 T TX TC  D_numbers_behind D_writes_number, k71, b71, PySem.W.mg_of X G a71⟩
  have F72 := fun_mk (st := s_Desk__init) l72 c72 k72
  have b72 := F72.binds (ps := ["self"]) fun _ _ _ _ _ _ us hl => match us, hl with | [_], _ => rfl
  have D_Desk__init : Mi l.prog w K mg base 5 ((fun i => [KC0, KC1, KC2, 0, 0, 0, 0, T7, T8, T9].getD i 0) 2) "Desk" ["self"] (sp_Desk__init K (fun i => [KC0, KC1, KC2, 0, 0, 0, 0, T7, T8, T9].getD i 0)) := ⟨_, _, ok_Desk__init F72 T TC D_Roll__init, b72, ⟨mkKC2, a72, n72, kpKC2⟩, PySem.W.mg_of X G gKC2⟩
  have F73 := fun_mk (st := s_Desk__tell) l73 c73 k73
  have b73 := F73.binds (ps := ["self", "row"]) fun _ _ _ _ _ _ us hl => match us, hl with | [_, _], _ => rfl
  have D_Desk__tell : MlX l.prog w K mg base 8 ((fun i => [KC0, KC1, KC2, 0, 0, 0, 0, T7, T8, T9].getD i 0) 2) "tell" ["self", "row"] (sp_Desk__tell K (fun i => [C0, C1, C2, C3, C4, C5, C6, C7, C8, C9, C10, C11, C12, C13, C14, C15].getD i 0) (fun i => [KC0, KC1, KC2, 0, 0, 0, 0, T7, T8, T9].getD i 0)) := ⟨_, _, ok_Desk__tell F73 T TX TC  D_read_row D_Roll__put D_undone D_written_sheet D_written_length D_written_picture D_written_leaning, b73, ⟨a73, n73, k73⟩⟩
  have F74 := fun_mk (st := s__law_cell_at) l74 c74 k74
  have b74 := F74.binds (ps := ["_law_script", "_law_k"]) fun _ _ _ _ _ _ us hl => match us, hl with | [_, _], _ => rfl
  have D__law_cell_at : Cl l.prog w K mg base 1 "_law_cell_at" ["_law_script", "_law_k"] (sp__law_cell_at K) := ⟨_, _, ok__law_cell_at F74 T , k74, b74, PySem.W.mg_of X G a74⟩
  have F75 := fun_mk (st := s__law_state) l75 c75 k75
  have b75 := F75.binds (ps := ["_law_script", "_law_k"]) fun _ _ _ _ _ _ us hl => match us, hl with | [_, _], _ => rfl
  have D__law_state : Cl l.prog w K mg base 2 "_law_state" ["_law_script", "_law_k"] (sp__law_state K) := ⟨_, _, ok__law_state F75 T D__law_cell_at, k75, b75, PySem.W.mg_of X G a75⟩
  have F76 := fun_mk (st := s__law_take) l76 c76 k76
  have b76 := F76.binds (ps := ["_law_state_here", "_law_many"]) fun _ _ _ _ _ _ us hl => match us, hl with | [_, _], _ => rfl
  have D__law_take : Cl l.prog w K mg base 1 "_law_take" ["_law_state_here", "_law_many"] (sp__law_take K) := ⟨_, _, ok__law_take F76 T , k76, b76, PySem.W.mg_of X G a76⟩
  have F77 := fun_mk (st := s__law_known) l77 c77 k77
  have b77 := F77.binds (ps := ["_law_deeds"]) fun _ _ _ _ _ _ us hl => match us, hl with | [_], _ => rfl
  have D__law_known : Cl l.prog w K mg base 1 "_law_known" ["_law_deeds"] (sp__law_known K) := ⟨_, _, ok__law_known F77 T , k77, b77, PySem.W.mg_of X G a77⟩
  have F78 := fun_mk (st := s__law_deed) l78 c78 k78
  have b78 := F78.binds (ps := ["_law_state_here", "_law_deeds"]) fun _ _ _ _ _ _ us hl => match us, hl with | [_, _], _ => rfl
  have D__law_deed : Cl l.prog w K mg base 2 "_law_deed" ["_law_state_here", "_law_deeds"] (sp__law_deed K) := ⟨_, _, ok__law_deed F78 T D__law_known D__law_take, k78, b78, PySem.W.mg_of X G a78⟩
  have F79 := fun_mk (st := s__law_line) l79 c79 k79
  have b79 := F79.binds (ps := ["_law_deed_here"]) fun _ _ _ _ _ _ us hl => match us, hl with | [_], _ => rfl
  have D__law_line : Cl l.prog w K mg base 1 "_law_line" ["_law_deed_here"] (sp__law_line K) := ⟨_, _, ok__law_line F79 T , k79, b79, PySem.W.mg_of X G a79⟩
  have F80 := fun_mk (st := s__law_same) l80 c80 k80
  have b80 := F80.binds (ps := ["_law_state_here", "_law_desk", "_law_roll"]) fun _ _ _ _ _ _ us hl => match us, hl with | [_, _, _], _ => rfl
  have D__law_same : Cl l.prog w K mg base 9 "_law_same" ["_law_state_here", "_law_desk", "_law_roll"] (sp__law_same K (fun i => [KC0, KC1, KC2, 0, 0, 0, 0, T7, T8, T9].getD i 0)) := ⟨_, _, ok__law_same F80 T TC D_Roll__sheet_now D_Desk__tell D_sheet_text D_read_sheet D_sheet_length D__law_take D_picture_at, k80, b80, PySem.W.mg_of X G a80⟩
  have F81 := funC_mk (st := s_law) l81 c81
  have F81b := fun_mk (st := s_law) l81 c81 k81
  have MR81 : Mkr base mg cc81 PP81 "law" [(PP81, qLam "law")] := ⟨tb (cc81, PP81) (by simp), by simp, fun p hp e => by
    simp only [List.mem_cons, List.not_mem_nil, or_false] at hp
    rcases hp with rfl
    · rfl⟩
  exact ok_law F81 T TX MR81 TC F0 (PySem.W.mg_of X G a0) b0 DE D__law_state D_Desk__init D_Roll__init D__law_take D_Roll__standing D__law_deed D_Roll__put D_Desk__tell D__law_line D_Roll__undo D__law_same
theorem hall {w : World} {K : PySem.W.Frag} {h : Heap} {mg : Str → Option Value} {fa : Addr} (X : K.In h) (G : h.Ns mainGlobals mg) (hfa : mg "law" = some (.ref fa)) (c : He.SaysX [] hfn hts htf hex w h K) : LamX.LawAtS PySem.Challenge.rw_lanternrows_k60_whole_a_desk_is_its_roll w K CX0 12 63 "_law_script" mg fa h := by
  have z : ∀ (i : Nat) {b : Bool}, (hzs K)[i]? = some b → b = true := fun i b e => List.all_eq_true.mp c.more b (List.mem_of_getElem? e)
  obtain ⟨oc0, od0, sl0, kV0, dc0, pm0, an0, cd0, ct0, l0, c0, k0⟩ := fnl c.t.d 0 (by rfl)
  obtain ⟨oc1, od1, sl1, kV1, dc1, pm1, an1, cd1, ct1, l1, c1, k1⟩ := fnl c.t.d 1 (by rfl)
  obtain ⟨oc2, od2, sl2, kV2, dc2, pm2, an2, cd2, ct2, l2, c2, k2⟩ := fnl c.t.d 2 (by rfl)
  obtain ⟨oc3, od3, sl3, kV3, dc3, pm3, an3, cd3, ct3, l3, c3, k3⟩ := fnl c.t.d 3 (by rfl)
  obtain ⟨oc4, od4, sl4, kV4, dc4, pm4, an4, cd4, ct4, l4, c4, k4⟩ := fnl c.t.d 4 (by rfl)
  obtain ⟨oc5, od5, sl5, kV5, dc5, pm5, an5, cd5, ct5, l5, c5, k5⟩ := fnl c.t.d 5 (by rfl)
  obtain ⟨oc6, od6, sl6, kV6, dc6, pm6, an6, cd6, ct6, l6, c6, k6⟩ := fnl c.t.d 6 (by rfl)
  obtain ⟨oc7, od7, sl7, kV7, dc7, pm7, an7, cd7, ct7, l7, c7, k7⟩ := fnl c.t.d 7 (by rfl)
  obtain ⟨oc8, od8, sl8, kV8, dc8, pm8, an8, cd8, ct8, l8, c8, k8⟩ := fnl c.t.d 8 (by rfl)
  obtain ⟨oc9, od9, sl9, kV9, dc9, pm9, an9, cd9, ct9, l9, c9, k9⟩ := fnl c.t.d 9 (by rfl)
  obtain ⟨oc10, od10, sl10, kV10, dc10, pm10, an10, cd10, ct10, l10, c10, k10⟩ := fnl c.t.d 10 (by rfl)
  obtain ⟨oc11, od11, sl11, kV11, dc11, pm11, an11, cd11, ct11, l11, c11, k11⟩ := fnl c.t.d 11 (by rfl)
  obtain ⟨oc12, od12, sl12, kV12, dc12, pm12, an12, cd12, ct12, l12, c12, k12⟩ := fnl c.t.d 12 (by rfl)
  obtain ⟨oc13, od13, sl13, kV13, dc13, pm13, an13, cd13, ct13, l13, c13, k13⟩ := fnl c.t.d 13 (by rfl)
  obtain ⟨oc14, od14, sl14, kV14, dc14, pm14, an14, cd14, ct14, l14, c14, k14⟩ := fnl c.t.d 14 (by rfl)
  obtain ⟨oc15, od15, sl15, kV15, dc15, pm15, an15, cd15, ct15, l15, c15, k15⟩ := fnl c.t.d 15 (by rfl)
  obtain ⟨oc16, od16, sl16, kV16, dc16, pm16, an16, cd16, ct16, l16, c16, k16⟩ := fnl c.t.d 16 (by rfl)
  obtain ⟨oc17, od17, sl17, kV17, dc17, pm17, an17, cd17, ct17, l17, c17, k17⟩ := fnl c.t.d 17 (by rfl)
  obtain ⟨oc18, od18, sl18, kV18, dc18, pm18, an18, cd18, ct18, l18, c18, k18⟩ := fnl c.t.d 18 (by rfl)
  obtain ⟨oc19, od19, sl19, kV19, dc19, pm19, an19, cd19, ct19, l19, c19, k19⟩ := fnl c.t.d 19 (by rfl)
  obtain ⟨oc20, od20, sl20, kV20, dc20, pm20, an20, cd20, ct20, l20, c20, k20⟩ := fnl c.t.d 20 (by rfl)
  obtain ⟨oc21, od21, sl21, kV21, dc21, pm21, an21, cd21, ct21, l21, c21, k21⟩ := fnl c.t.d 21 (by rfl)
  obtain ⟨oc22, od22, sl22, kV22, dc22, pm22, an22, cd22, ct22, l22, c22, k22⟩ := fnl c.t.d 22 (by rfl)
  obtain ⟨oc23, od23, sl23, kV23, dc23, pm23, an23, cd23, ct23, l23, c23, k23⟩ := fnl c.t.d 23 (by rfl)
  obtain ⟨oc24, od24, sl24, kV24, dc24, pm24, an24, cd24, ct24, l24, c24, k24⟩ := fnl c.t.d 24 (by rfl)
  obtain ⟨oc25, od25, sl25, kV25, dc25, pm25, an25, cd25, ct25, l25, c25, k25⟩ := fnl c.t.d 25 (by rfl)
  obtain ⟨oc26, od26, sl26, kV26, dc26, pm26, an26, cd26, ct26, l26, c26, k26⟩ := fnl c.t.d 26 (by rfl)
  obtain ⟨oc27, od27, sl27, kV27, dc27, pm27, an27, cd27, ct27, l27, c27, k27⟩ := fnl c.t.d 27 (by rfl)
  obtain ⟨oc28, od28, sl28, kV28, dc28, pm28, an28, cd28, ct28, l28, c28, k28⟩ := fnl c.t.d 28 (by rfl)
  obtain ⟨oc29, od29, sl29, kV29, dc29, pm29, an29, cd29, ct29, l29, c29, k29⟩ := fnl c.t.d 29 (by rfl)
  obtain ⟨oc30, od30, sl30, kV30, dc30, pm30, an30, cd30, ct30, l30, c30, k30⟩ := fnl c.t.d 30 (by rfl)
  obtain ⟨oc31, od31, sl31, kV31, dc31, pm31, an31, cd31, ct31, l31, c31, k31⟩ := fnl c.t.d 31 (by rfl)
  obtain ⟨oc32, od32, sl32, kV32, dc32, pm32, an32, cd32, ct32, l32, c32, k32⟩ := fnl c.t.d 32 (by rfl)
  obtain ⟨oc33, od33, sl33, kV33, dc33, pm33, an33, cd33, ct33, l33, c33, k33⟩ := fnl c.t.d 33 (by rfl)
  obtain ⟨oc34, od34, sl34, kV34, dc34, pm34, an34, cd34, ct34, l34, c34, k34⟩ := fnl c.t.d 34 (by rfl)
  obtain ⟨oc35, od35, sl35, kV35, dc35, pm35, an35, cd35, ct35, l35, c35, k35⟩ := fnl c.t.d 35 (by rfl)
  obtain ⟨oc36, od36, sl36, kV36, dc36, pm36, an36, cd36, ct36, l36, c36, k36⟩ := fnl c.t.d 36 (by rfl)
  obtain ⟨oc37, od37, sl37, kV37, dc37, pm37, an37, cd37, ct37, l37, c37, k37⟩ := fnl c.t.d 37 (by rfl)
  obtain ⟨oc38, od38, sl38, kV38, dc38, pm38, an38, cd38, ct38, l38, c38, k38⟩ := fnl c.t.d 38 (by rfl)
  obtain ⟨oc39, od39, sl39, kV39, dc39, pm39, an39, cd39, ct39, l39, c39, k39⟩ := fnl c.t.d 39 (by rfl)
  obtain ⟨oc40, od40, sl40, kV40, dc40, pm40, an40, cd40, ct40, l40, c40, k40⟩ := fnl c.t.d 40 (by rfl)
  obtain ⟨oc41, od41, sl41, kV41, dc41, pm41, an41, cd41, ct41, l41, c41, k41⟩ := fnl c.t.d 41 (by rfl)
  obtain ⟨oc42, od42, sl42, kV42, dc42, pm42, an42, cd42, ct42, l42, c42, k42⟩ := fnl c.t.d 42 (by rfl)
  obtain ⟨oc43, od43, sl43, kV43, dc43, pm43, an43, cd43, ct43, l43, c43, k43⟩ := fnl c.t.d 43 (by rfl)
  obtain ⟨oc44, od44, sl44, kV44, dc44, pm44, an44, cd44, ct44, l44, c44, k44⟩ := fnl c.t.d 44 (by rfl)
  obtain ⟨oc45, od45, sl45, kV45, dc45, pm45, an45, cd45, ct45, l45, c45, k45⟩ := fnl c.t.d 45 (by rfl)
  obtain ⟨oc46, od46, sl46, kV46, dc46, pm46, an46, cd46, ct46, l46, c46, k46⟩ := fnl c.t.d 46 (by rfl)
  obtain ⟨oc47, od47, sl47, kV47, dc47, pm47, an47, cd47, ct47, l47, c47, k47⟩ := fnl c.t.d 47 (by rfl)
  obtain ⟨oc48, od48, sl48, kV48, dc48, pm48, an48, cd48, ct48, l48, c48, k48⟩ := fnl c.t.d 48 (by rfl)
  obtain ⟨oc49, od49, sl49, kV49, dc49, pm49, an49, cd49, ct49, l49, c49, k49⟩ := fnl c.t.d 49 (by rfl)
  obtain ⟨oc50, od50, sl50, kV50, dc50, pm50, an50, cd50, ct50, l50, c50, k50⟩ := fnl c.t.d 50 (by rfl)
  obtain ⟨oc51, od51, sl51, kV51, dc51, pm51, an51, cd51, ct51, l51, c51, k51⟩ := fnl c.t.d 51 (by rfl)
  obtain ⟨oc52, od52, sl52, kV52, dc52, pm52, an52, cd52, ct52, l52, c52, k52⟩ := fnl c.t.d 52 (by rfl)
  obtain ⟨oc53, od53, sl53, kV53, dc53, pm53, an53, cd53, ct53, l53, c53, k53⟩ := fnl c.t.d 53 (by rfl)
  obtain ⟨oc54, od54, sl54, kV54, dc54, pm54, an54, cd54, ct54, l54, c54, k54⟩ := fnl c.t.d 54 (by rfl)
  obtain ⟨oc55, od55, sl55, kV55, dc55, pm55, an55, cd55, ct55, l55, c55, k55⟩ := fnl c.t.d 55 (by rfl)
  obtain ⟨oc56, od56, sl56, kV56, dc56, pm56, an56, cd56, ct56, l56, c56, k56⟩ := fnl c.t.d 56 (by rfl)
  obtain ⟨oc57, od57, sl57, kV57, dc57, pm57, an57, cd57, ct57, l57, c57, k57⟩ := fnl c.t.d 57 (by rfl)
  obtain ⟨oc58, od58, sl58, kV58, dc58, pm58, an58, cd58, ct58, l58, c58, k58⟩ := fnl c.t.d 58 (by rfl)
  obtain ⟨oc59, od59, sl59, kV59, dc59, pm59, an59, cd59, ct59, l59, c59, k59⟩ := fnl c.t.d 59 (by rfl)
  obtain ⟨oc60, od60, sl60, kV60, dc60, pm60, an60, cd60, ct60, l60, c60, k60⟩ := fnl c.t.d 60 (by rfl)
  obtain ⟨oc61, od61, sl61, kV61, dc61, pm61, an61, cd61, ct61, l61, c61, k61⟩ := fnl c.t.d 61 (by rfl)
  obtain ⟨oc62, od62, sl62, kV62, dc62, pm62, an62, cd62, ct62, l62, c62, k62⟩ := fnl c.t.d 62 (by rfl)
  obtain ⟨oc63, od63, sl63, kV63, dc63, pm63, an63, cd63, ct63, l63, c63, k63⟩ := fnl c.t.d 63 (by rfl)
  obtain ⟨oc64, od64, sl64, kV64, dc64, pm64, an64, cd64, ct64, l64, c64, k64⟩ := fnl c.t.d 64 (by rfl)
  obtain ⟨oc65, od65, sl65, kV65, dc65, pm65, an65, cd65, ct65, l65, c65, k65⟩ := fnl c.t.d 65 (by rfl)
  obtain ⟨oc66, od66, sl66, kV66, dc66, pm66, an66, cd66, ct66, l66, c66, k66⟩ := fnl c.t.d 66 (by rfl)
  obtain ⟨oc67, od67, sl67, kV67, dc67, pm67, an67, cd67, ct67, l67, c67, k67⟩ := fnl c.t.d 67 (by rfl)
  obtain ⟨oc68, od68, sl68, kV68, dc68, pm68, an68, cd68, ct68, l68, c68, k68⟩ := fnl c.t.d 68 (by rfl)
  obtain ⟨oc69, od69, sl69, kV69, dc69, pm69, an69, cd69, ct69, l69, c69, k69⟩ := fnl c.t.d 69 (by rfl)
  obtain ⟨oc70, od70, sl70, kV70, dc70, pm70, an70, cd70, ct70, l70, c70, k70⟩ := fnl c.t.d 70 (by rfl)
  obtain ⟨oc71, od71, sl71, kV71, dc71, pm71, an71, cd71, ct71, l71, c71, k71⟩ := fnl c.t.d 71 (by rfl)
  obtain ⟨oc72, od72, sl72, kV72, dc72, pm72, an72, cd72, ct72, l72, c72, k72⟩ := fnl c.t.d 72 (by rfl)
  obtain ⟨oc73, od73, sl73, kV73, dc73, pm73, an73, cd73, ct73, l73, c73, k73⟩ := fnl c.t.d 73 (by rfl)
  obtain ⟨oc74, od74, sl74, kV74, dc74, pm74, an74, cd74, ct74, l74, c74, k74⟩ := fnl c.t.d 74 (by rfl)
  obtain ⟨oc75, od75, sl75, kV75, dc75, pm75, an75, cd75, ct75, l75, c75, k75⟩ := fnl c.t.d 75 (by rfl)
  obtain ⟨oc76, od76, sl76, kV76, dc76, pm76, an76, cd76, ct76, l76, c76, k76⟩ := fnl c.t.d 76 (by rfl)
  obtain ⟨oc77, od77, sl77, kV77, dc77, pm77, an77, cd77, ct77, l77, c77, k77⟩ := fnl c.t.d 77 (by rfl)
  obtain ⟨oc78, od78, sl78, kV78, dc78, pm78, an78, cd78, ct78, l78, c78, k78⟩ := fnl c.t.d 78 (by rfl)
  obtain ⟨oc79, od79, sl79, kV79, dc79, pm79, an79, cd79, ct79, l79, c79, k79⟩ := fnl c.t.d 79 (by rfl)
  obtain ⟨oc80, od80, sl80, kV80, dc80, pm80, an80, cd80, ct80, l80, c80, k80⟩ := fnl c.t.d 80 (by rfl)
  obtain ⟨oc81, od81, sl81, kV81, dc81, pm81, an81, ct81, l81, c81, k81⟩ := fnlC c.t.d 81 (by rfl)
  obtain ⟨ocITooMany, odITooMany, slITooMany, kVITooMany, dcITooMany, pmITooMany, anITooMany, cdITooMany, ctITooMany, lITooMany, cITooMany, kITooMany⟩ := fnl c.t.d 82 (by rfl)
  obtain ⟨nmTooMany, qnTooMany, NTooMany, bsTooMany, bmTooMany, snTooMany, suTooMany, abTooMany, coTooMany, ddTooMany, m0TooMany, m1TooMany, m2TooMany, m3TooMany, m5TooMany, xoTooMany, xrTooMany⟩ := oexB_ok (z 205 rfl)
  obtain ⟨ocILeaned, odILeaned, slILeaned, kVILeaned, dcILeaned, pmILeaned, anILeaned, cdILeaned, ctILeaned, lILeaned, cILeaned, kILeaned⟩ := fnl c.t.d 83 (by rfl)
  obtain ⟨nmLeaned, qnLeaned, NLeaned, bsLeaned, bmLeaned, snLeaned, suLeaned, abLeaned, coLeaned, ddLeaned, m0Leaned, m1Leaned, m2Leaned, m3Leaned, m5Leaned, xoLeaned, xrLeaned⟩ := oexB_ok (z 209 rfl)
  exact all_mk X G hfa
    (of_decide_eq_true (z 0 rfl))
    (z 1 rfl)
    (z 2 rfl)
    (z 3 rfl)
    (of_decide_eq_true (z 4 rfl))
    (z 5 rfl)
    (z 6 rfl)
    (of_decide_eq_true (z 7 rfl))
    (of_decide_eq_true (z 8 rfl))
    (of_decide_eq_true (z 9 rfl))
    (of_decide_eq_true (z 10 rfl))
    (of_decide_eq_true (z 11 rfl))
    (z 12 rfl)
    (z 13 rfl)
    (z 14 rfl)
    (of_decide_eq_true (z 15 rfl))
    (z 16 rfl)
    (z 17 rfl)
    (of_decide_eq_true (z 18 rfl))
    (of_decide_eq_true (z 19 rfl))
    (of_decide_eq_true (z 20 rfl))
    (of_decide_eq_true (z 21 rfl))
    (z 22 rfl)
    (z 23 rfl)
    (z 24 rfl)
    (of_decide_eq_true (z 25 rfl))
    (z 26 rfl)
    (z 27 rfl)
    (of_decide_eq_true (z 28 rfl))
    (of_decide_eq_true (z 29 rfl))
    (tabW c.t 0 rfl)
    (of_decide_eq_true (z 30 rfl))
    (of_decide_eq_true (z 31 rfl))
    (of_decide_eq_true (z 32 rfl))
    (of_decide_eq_true (z 33 rfl))
    (of_decide_eq_true (z 34 rfl))
    (of_decide_eq_true (z 35 rfl))
    (of_decide_eq_true (z 36 rfl))
    (of_decide_eq_true (z 37 rfl))
    (of_decide_eq_true (z 38 rfl))
    (of_decide_eq_true (z 39 rfl))
    (of_decide_eq_true (z 40 rfl))
    (of_decide_eq_true (z 41 rfl))
    (of_decide_eq_true (z 42 rfl))
    (of_decide_eq_true (z 43 rfl))
    (of_decide_eq_true (z 44 rfl))
    (of_decide_eq_true (z 45 rfl))
    (of_decide_eq_true (z 46 rfl))
    (tabW c.t 1 rfl)
    (of_decide_eq_true (z 47 rfl))
    (tabW c.t 2 rfl)
    (of_decide_eq_true (z 48 rfl))
    (of_decide_eq_true (z 49 rfl))
    (of_decide_eq_true (z 50 rfl))
    (of_decide_eq_true (z 51 rfl))
    (of_decide_eq_true (z 52 rfl))
    (of_decide_eq_true (z 53 rfl))
    (of_decide_eq_true (z 54 rfl))
    (of_decide_eq_true (z 55 rfl))
    (of_decide_eq_true (z 56 rfl))
    (of_decide_eq_true (z 57 rfl))
    (of_decide_eq_true (z 58 rfl))
    (of_decide_eq_true (z 59 rfl))
    l0
    c0
    k0
    (of_decide_eq_true (z 60 rfl))
    l1
    c1
    k1
    (of_decide_eq_true (z 61 rfl))
    l2
    c2
    k2
    (of_decide_eq_true (z 62 rfl))
    l3
    c3
    k3
    (of_decide_eq_true (z 63 rfl))
    l4
    c4
    k4
    (of_decide_eq_true (z 64 rfl))
    l5
    c5
    k5
    (of_decide_eq_true (z 65 rfl))
    l6
    c6
    k6
    (of_decide_eq_true (z 66 rfl))
    l7
    c7
    k7
    (of_decide_eq_true (z 67 rfl))
    l8
    c8
    k8
    (of_decide_eq_true (z 68 rfl))
    l9
    c9
    k9
    (of_decide_eq_true (z 69 rfl))
    l10
    c10
    k10
    (of_decide_eq_true (z 70 rfl))
    l11
    c11
    k11
    (of_decide_eq_true (z 71 rfl))
    l12
    c12
    k12
    (of_decide_eq_true (z 72 rfl))
    l13
    c13
    k13
    (of_decide_eq_true (z 73 rfl))
    l14
    c14
    k14
    (of_decide_eq_true (z 74 rfl))
    l15
    c15
    k15
    (of_decide_eq_true (z 75 rfl))
    l16
    c16
    k16
    (of_decide_eq_true (z 76 rfl))
    l17
    c17
    k17
    (of_decide_eq_true (z 77 rfl))
    l18
    c18
    k18
    (of_decide_eq_true (z 78 rfl))
    l19
    c19
    k19
    (of_decide_eq_true (z 79 rfl))
    l20
    c20
    k20
    (of_decide_eq_true (z 80 rfl))
    l21
    c21
    k21
    (of_decide_eq_true (z 81 rfl))
    l22
    c22
    k22
    (of_decide_eq_true (z 82 rfl))
    l23
    c23
    k23
    (of_decide_eq_true (z 83 rfl))
    l24
    c24
    k24
    (of_decide_eq_true (z 84 rfl))
    l25
    c25
    k25
    (of_decide_eq_true (z 85 rfl))
    l26
    c26
    k26
    (of_decide_eq_true (z 86 rfl))
    l27
    c27
    k27
    (of_decide_eq_true (z 87 rfl))
    l28
    c28
    k28
    (of_decide_eq_true (z 88 rfl))
    l29
    c29
    k29
    (of_decide_eq_true (z 89 rfl))
    l30
    c30
    k30
    (of_decide_eq_true (z 90 rfl))
    l31
    c31
    k31
    (of_decide_eq_true (z 91 rfl))
    l32
    c32
    k32
    (z 92 rfl)
    (of_decide_eq_true (z 93 rfl))
    l33
    c33
    k33
    (z 94 rfl)
    (of_decide_eq_true (z 95 rfl))
    l34
    c34
    k34
    (z 96 rfl)
    (of_decide_eq_true (z 97 rfl))
    l35
    c35
    k35
    (z 98 rfl)
    (of_decide_eq_true (z 99 rfl))
    l36
    c36
    k36
    (z 100 rfl)
    (of_decide_eq_true (z 101 rfl))
    l37
    c37
    k37
    (z 102 rfl)
    (of_decide_eq_true (z 103 rfl))
    l38
    c38
    k38
    (z 104 rfl)
    (of_decide_eq_true (z 105 rfl))
    l39
    c39
    k39
    (z 106 rfl)
    (of_decide_eq_true (z 107 rfl))
    l40
    c40
    k40
    (z 108 rfl)
    (of_decide_eq_true (z 109 rfl))
    l41
    c41
    k41
    (z 110 rfl)
    (of_decide_eq_true (z 111 rfl))
    l42
    c42
    k42
    (of_decide_eq_true (z 112 rfl))
    l43
    c43
    k43
    (z 113 rfl)
    (of_decide_eq_true (z 114 rfl))
    l44
    c44
    k44
    (z 115 rfl)
    (of_decide_eq_true (z 116 rfl))
    l45
    c45
    k45
    (z 117 rfl)
    (of_decide_eq_true (z 118 rfl))
    l46
    c46
    k46
    (z 119 rfl)
    (of_decide_eq_true (z 120 rfl))
    l47
    c47
    k47
    (z 121 rfl)
    (of_decide_eq_true (z 122 rfl))
    l48
    c48
    k48
    (z 123 rfl)
    (of_decide_eq_true (z 124 rfl))
    l49
    c49
    k49
    (z 125 rfl)
    (of_decide_eq_true (z 126 rfl))
    l50
    c50
    k50
    (of_decide_eq_true (z 127 rfl))
    l51
    c51
    k51
    (of_decide_eq_true (z 128 rfl))
    l52
    c52
    k52
    (of_decide_eq_true (z 129 rfl))
    l53
    c53
    k53
    (of_decide_eq_true (z 130 rfl))
    l54
    c54
    k54
    (of_decide_eq_true (z 131 rfl))
    l55
    c55
    k55
    (of_decide_eq_true (z 132 rfl))
    l56
    c56
    k56
    (of_decide_eq_true (z 133 rfl))
    l57
    c57
    k57
    (of_decide_eq_true (z 134 rfl))
    l58
    c58
    k58
    (of_decide_eq_true (z 135 rfl))
    l59
    c59
    k59
    (of_decide_eq_true (z 136 rfl))
    l60
    c60
    k60
    (of_decide_eq_true (z 137 rfl))
    l61
    c61
    k61
    (of_decide_eq_true (z 138 rfl))
    l62
    c62
    k62
    (of_decide_eq_true (z 139 rfl))
    l63
    c63
    k63
    (of_decide_eq_true (z 140 rfl))
    l64
    c64
    k64
    (of_decide_eq_true (z 141 rfl))
    l65
    c65
    k65
    (of_decide_eq_true (z 142 rfl))
    l66
    c66
    k66
    (of_decide_eq_true (z 143 rfl))
    l67
    c67
    k67
    (of_decide_eq_true (z 144 rfl))
    l68
    c68
    k68
    (of_decide_eq_true (z 145 rfl))
    l69
    c69
    k69
    (of_decide_eq_true (z 146 rfl))
    l70
    c70
    k70
    (of_decide_eq_true (z 147 rfl))
    l71
    c71
    k71
    (of_decide_eq_true (z 148 rfl))
    l72
    c72
    k72
    (z 149 rfl)
    (of_decide_eq_true (z 150 rfl))
    l73
    c73
    k73
    (z 151 rfl)
    (of_decide_eq_true (z 152 rfl))
    l74
    c74
    k74
    (of_decide_eq_true (z 153 rfl))
    l75
    c75
    k75
    (of_decide_eq_true (z 154 rfl))
    l76
    c76
    k76
    (of_decide_eq_true (z 155 rfl))
    l77
    c77
    k77
    (of_decide_eq_true (z 156 rfl))
    l78
    c78
    k78
    (of_decide_eq_true (z 157 rfl))
    l79
    c79
    k79
    (of_decide_eq_true (z 158 rfl))
    l80
    c80
    k80
    (of_decide_eq_true (z 159 rfl))
    l81
    c81
    k81
    (c.empty ("law", none) (by simp [htf]))
    (PySem.W.codeHd_of_K X (c.hd ("law", none) (by simp [htf])))
    (c.out ("law", none) (by simp [htf]))
    (of_decide_eq_true (z 160 rfl))
    (of_decide_eq_true (z 161 rfl))
    (of_decide_eq_true (z 162 rfl))
    (of_decide_eq_true (z 163 rfl))
    (of_decide_eq_true (z 164 rfl))
    (of_decide_eq_true (z 165 rfl))
    (of_decide_eq_true (z 166 rfl))
    (of_decide_eq_true (z 167 rfl))
    (of_decide_eq_true (z 168 rfl))
    (of_decide_eq_true (z 169 rfl))
    (of_decide_eq_true (z 170 rfl))
    (of_decide_eq_true (z 171 rfl))
    (of_decide_eq_true (z 172 rfl))
    (of_decide_eq_true (z 173 rfl))
    (of_decide_eq_true (z 174 rfl))
    (of_decide_eq_true (z 175 rfl))
    (of_decide_eq_true (z 176 rfl))
    (of_decide_eq_true (z 177 rfl))
    (of_decide_eq_true (z 178 rfl))
    (of_decide_eq_true (z 179 rfl))
    (of_decide_eq_true (z 180 rfl))
    (of_decide_eq_true (z 181 rfl))
    (of_decide_eq_true (z 182 rfl))
    (of_decide_eq_true (z 183 rfl))
    (of_decide_eq_true (z 184 rfl))
    (of_decide_eq_true (z 185 rfl))
    (of_decide_eq_true (z 186 rfl))
    (of_decide_eq_true (z 187 rfl))
    (of_decide_eq_true (z 188 rfl))
    (of_decide_eq_true (z 189 rfl))
    (of_decide_eq_true (z 190 rfl))
    (of_decide_eq_true (z 191 rfl))
    (of_decide_eq_true (z 192 rfl))
    (of_decide_eq_true (z 193 rfl))
    (of_decide_eq_true (z 194 rfl))
    (of_decide_eq_true (z 195 rfl))
    (of_decide_eq_true (z 196 rfl))
    (of_decide_eq_true (z 197 rfl))
    (of_decide_eq_true (z 198 rfl))
    (of_decide_eq_true (z 199 rfl))
    (of_decide_eq_true (z 200 rfl))
    (z 201 rfl)
    (of_decide_eq_true (z 202 rfl))
    (of_decide_eq_true (z 203 rfl))
    (of_decide_eq_true (z 204 rfl))
    xoTooMany
    xrTooMany
    (of_decide_eq_true (z 206 rfl))
    (of_decide_eq_true (z 207 rfl))
    (of_decide_eq_true (z 208 rfl))
    lITooMany
    cITooMany
    kITooMany
    xoLeaned
    xrLeaned
    (of_decide_eq_true (z 210 rfl))
    (of_decide_eq_true (z 211 rfl))
    (of_decide_eq_true (z 212 rfl))
    lILeaned
    cILeaned
    kILeaned
end Lan
open PySem PySem.W PySem.Calls PyProof.Rows
set_option maxRecDepth 100000 in
set_option maxHeartbeats 0 in
theorem PySem.Challenge.cw_lanternrows_k60_whole_a_desk_is_its_roll_holds : PySem.Challenge.rw_lanternrows_k60_whole_a_desk_is_its_roll.Holds := by
  w_on; o_law
  refine HandSHeadRun.head_any (r := Lan.hR) (q := Lan.hqv) (H := Lan.hk) (ob := Lan.hob) (M := 20000) (loose := Lan.hlo) (d := HandSHeadRun.topDef Lan.hR.prog 103) (kwd := []) Lan.hob_eq (by kernel_rfl) (fun s => by kernel_rfl) Lan.hrun (by kernel_rfl) (by kernel_rfl) (by kernel_rfl) (by rfl) (by first | assumption | decide +kernel) (by decide +kernel) ⟨rfl, rfl, rfl, rfl, rfl, by decide +kernel⟩ ?hw ?hc
  case hw => w_witness2
  case hc =>
    refine LamX.walk_ofTsE (l := PySem.Challenge.rw_lanternrows_k60_whole_a_desk_is_its_roll) (n := 63) (k := 12) (x := "_law_script") (CX := fun _ => L2.CX0) rfl (by decide) (by kernel_rfl) ⟨rfl, by decide, by decide⟩ ?F (fun _ _ _ _ _ z => z)
    intro w mg fa h Y G hmg0
    obtain ⟨K, KX, c⟩ := Y
    have hmg : mg ("law" : PySem.Str) = some (.ref fa) := by
      have e : (HandSHeadRun.topDef Lan.hR.prog 103).name = ("law" : PySem.Str) := by kernel_rfl
      rw [← e]
      exact hmg0
    exact ⟨K, KX, Lan.hall KX G hmg c⟩
