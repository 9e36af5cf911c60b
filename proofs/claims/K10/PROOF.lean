import PyProof.Rows.All
import Wide.All
import OpenK.AllK
import Wide.FinOn
import HandS.ForMost
import HandS.Exc
import HandS.TryOnly
import HandS.ExcOwn
import HandS.WordsExc
import HandS.IsInst
import HandS.TupAny
import HandS.TupMul
import HandS.Steps
import HandS.Small
import HandS.FStr
import HandS.CallSlots
import HandS.TryMany
import HandS.More
import HandS.CallLocal
import HandS.ExcIs
import PyProof.StrLawsRepr
import HandS.HotCalls
import HandS.FltList
import HandS.Ends
import HandS.Iter
import KE.GoesEnumKw
import HandS.List
import PyProof.MinMaxWalk
import KE.DataMinMax
import HandS.Style
import PyProof.Rows.SetFrom
import PyProof.SetRoads
import HandS.Sort
import PyProof.ListRange
import PySem.Challenge.RW_signalgraph_k10_whole_quiet
set_option Elab.async false
set_option linter.all false
set_option maxRecDepth 100000
set_option maxHeartbeats 4000000
/-! # The data layer: what a def does, told over plain data (PyData), without addresses -/
namespace L2
open PySem PySem.Spec PyProof.Rows

/-! ## answers -/
inductive R (α : Type) where
  | bad
  | ex (n : Nat)
  | ok (a : α)
def R.bind {α β : Type} : R α → (α → R β) → R β
  | .bad, _ => .bad
  | .ex n, _ => .ex n
  | .ok a, f => f a
def R.map {α β : Type} (f : α → β) : R α → R β
  | .bad => .bad
  | .ex n => .ex n
  | .ok a => .ok (f a)
def R.when {α : Type} (b : Bool) (r : R α) : R α := if b = true then r else .bad
section
variable {α β γ : Type}
theorem R.bind_ok {a : α} {f : α → R β} : (R.ok a).bind f = f a := (rfl)
theorem R.bind_bad {f : α → R β} : (R.bad : R α).bind f = .bad := (rfl)
theorem R.bind_ex {n : Nat} {f : α → R β} : (R.ex n : R α).bind f = .ex n := (rfl)
theorem R.map_ok {a : α} {f : α → β} : (R.ok a).map f = .ok (f a) := (rfl)
theorem R.map_bad {f : α → β} : (R.bad : R α).map f = .bad := (rfl)
theorem R.map_ex {n : Nat} {f : α → β} : (R.ex n : R α).map f = .ex n := (rfl)
theorem R.when_true {r : R α} : R.when true r = r := (rfl)
theorem R.when_false {r : R α} : R.when false r = .bad := (rfl)
theorem R.when_of {b : Bool} {r : R α} (h : b = true) : R.when b r = r := by rw [h]; rfl
end
abbrev D := PyData
abbrev DS := List (Option D)

/-! ## the masked heap -/
noncomputable section
open Classical in
def mask (A : Addr → Prop) (H : Hp) : Hp := fun a => if A a then none else H a
end
def Cov (A : Addr → Prop) (H : Hp) : Prop := ∀ a, A a → H a ≠ none
section
variable {K : PySem.W.Frag} {A B : Addr → Prop} {H H' H1 : Hp} {a p : Addr} {o : HO}
theorem mask_in (h : A a) : mask A H a = none := by unfold mask; rw [if_pos h]
theorem mask_out (h : ¬ A a) : mask A H a = H a := by unfold mask; rw [if_neg h]
theorem mask_some : mask A H a = some o ↔ ¬ A a ∧ H a = some o := by
  by_cases h : A a
  · rw [mask_in h]; simp [h]
  · rw [mask_out h]; simp [h]
theorem Same.mask (s : Same H H') : Same (mask A H) (mask A H') := fun b o e => by
  rw [mask_some] at e ⊢
  exact ⟨e.1, s _ _ e.2⟩
theorem mask_sub (h : ∀ a, B a → A a) : Same (mask A H) (mask B H) := fun b o e => by
  rw [mask_some] at e ⊢
  exact ⟨fun q => e.1 (h _ q), e.2⟩
theorem mask_le : Same (mask A H) H := fun b o e => (mask_some.mp e).2
theorem Cov.mono (c : Cov A H) (s : Same H H') : Cov A H' := fun a h e => by
  cases q : H a with
  | none => exact c a h q
  | some o => rw [s _ _ q] at e; cases e
theorem Cov.new (c : Cov A H) (h : H p = none) : ¬ A p := fun q => c p q h
theorem Cov.add (c : Cov A H) (h : H p = some o) : Cov (fun a => A a ∨ a = p) H := fun a q e => by
  rcases q with q | rfl
  · exact c a q e
  · rw [h] at e; cases e
theorem same_upd (h : H p = none) : Same H (upd H p o) := fun b u e => by
  rw [upd_ne (ne_of_none e h)]; exact e
theorem same_mut (s : Same H H') (h : H p = none) : Same H (upd H' p o) := fun b u e => by
  rw [upd_ne (ne_of_none e h)]; exact s _ _ e
theorem sqL_same {xs : List V} (s : Same H H') (h : SqL K H a xs) : SqL K H' a xs := Same.seq s h
theorem sqT_same {xs : List V} (s : Same H H') (h : SqT K H a xs) : SqT K H' a xs := by
  rcases h with (h | ⟨o, h⟩) | h
  · exact .inl (.inl (s _ _ h))
  · exact .inl (.inr ⟨o, s _ _ h⟩)
  · exact .inr h
mutual
theorem Dp.same (s : Same H H') : ∀ {d : D} {v : V}, Dp K H v d → Dp K H' v d
  | _, _, .non => .non
  | _, _, .bl b => .bl b
  | _, _, .int i => .int i
  | _, _, .str x => .str x
  | _, _, .lst hs ha => .lst (sqL_same s hs) (DpAll.same s ha)
  | _, _, .tup hs ha => .tup (sqT_same s hs) (DpAll.same s ha)
theorem DpAll.same (s : Same H H') : ∀ {ds : List D} {vs : List V}, DpAll K H vs ds → DpAll K H' vs ds
  | _, _, .nil => .nil
  | _, _, .cons h1 h2 => .cons (Dp.same s h1) (DpAll.same s h2)
end
theorem DpAll.len : ∀ {ds : List D} {vs : List V}, DpAll K H vs ds → vs.length = ds.length
  | _, _, .nil => rfl
  | _, _, .cons _ h2 => by rw [List.length_cons, List.length_cons, DpAll.len h2]
theorem DpAll.app : ∀ {ds es : List D} {vs us : List V}, DpAll K H vs ds → DpAll K H us es → DpAll K H (vs ++ us) (ds ++ es)
  | _, _, _, _, .nil, h => h
  | _, _, _, _, .cons h1 h2, h => .cons h1 (DpAll.app h2 h)
theorem DpAll.get : ∀ {ds : List D} {vs : List V} {i : Nat} {d : D}, DpAll K H vs ds → ds[i]? = some d → ∃ v, vs[i]? = some v ∧ Dp K H v d
  | _, _, _, _, .nil, e => by simp at e
  | _, _, 0, _, .cons h1 h2, e => by simp at e; subst e; exact ⟨_, rfl, h1⟩
  | _, _, i + 1, d, .cons h1 h2, e => by
    obtain ⟨v, q1, q2⟩ := DpAll.get (i := i) (d := d) h2 (by simpa using e)
    exact ⟨v, by simpa using q1, q2⟩
theorem DpAll.get2 : ∀ {ds : List D} {vs : List V} {i : Nat} {v : V}, DpAll K H vs ds → vs[i]? = some v → ∃ d, ds[i]? = some d ∧ Dp K H v d
  | _, _, _, _, .nil, e => by simp at e
  | _, _, 0, _, .cons h1 h2, e => by simp at e; subst e; exact ⟨_, rfl, h1⟩
  | _, _, i + 1, v, .cons h1 h2, e => by
    obtain ⟨d, q1, q2⟩ := DpAll.get2 (i := i) (v := v) h2 (by simpa using e)
    exact ⟨d, by simpa using q1, q2⟩
theorem DpAll.set {v : V} {d : D} (h : Dp K H v d) : ∀ {ds : List D} {vs : List V} (i : Nat), DpAll K H vs ds → DpAll K H (vs.set i v) (ds.set i d)
  | _, _, _, .nil => .nil
  | _, _, 0, .cons _ h2 => .cons h h2
  | _, _, i + 1, .cons h1 h2 => .cons h1 (DpAll.set h i h2)
theorem DpAll.take : ∀ {ds : List D} {vs : List V} (n : Nat), DpAll K H vs ds → DpAll K H (vs.take n) (ds.take n)
  | _, _, 0, _ => by simp; exact .nil
  | _, _, _ + 1, .nil => .nil
  | _, _, n + 1, .cons h1 h2 => .cons h1 (DpAll.take n h2)
theorem DpAll.drop : ∀ {ds : List D} {vs : List V} (n : Nat), DpAll K H vs ds → DpAll K H (vs.drop n) (ds.drop n)
  | _, _, 0, h => h
  | _, _, _ + 1, .nil => .nil
  | _, _, n + 1, .cons h1 h2 => DpAll.drop n h2
theorem DpAll.dropLast {ds : List D} {vs : List V} (h : DpAll K H vs ds) : DpAll K H vs.dropLast ds.dropLast := by
  rw [List.dropLast_eq_take, List.dropLast_eq_take, h.len]
  exact h.take _
theorem DpAll.rep {v : V} {d : D} (h : Dp K H v d) : ∀ n : Nat, DpAll K H (List.replicate n v) (List.replicate n d)
  | 0 => .nil
  | n + 1 => .cons h (DpAll.rep h n)
/-! ### data without lists: no store to a list changes them -/
mutual
def imm : D → Bool
  | .none => true
  | .bool _ => true
  | .int _ => true
  | .str _ => true
  | .list _ => false
  | .tuple ds => imms ds
  | .dict _ => false
def imms : List D → Bool
  | [] => true
  | d :: ds => imm d && imms ds
end
theorem imms_all : ∀ ds : List D, imms ds = ds.all imm
  | [] => rfl
  | d :: ds => by rw [imms, imms_all ds]; rfl
/-- H' holds all tuples of H -/
def TSame (H H' : Hp) : Prop := ∀ a xs, Rd H a (.tup xs) → Rd H' a (.tup xs)
mutual
theorem Dp.tsame (s : TSame H H') : ∀ {d : D} {v : V}, imm d = true → Dp K H v d → Dp K H' v d
  | _, _, _, .non => .non
  | _, _, _, .bl b => .bl b
  | _, _, _, .int i => .int i
  | _, _, _, .str x => .str x
  | _, _, h, .lst hs ha => by simp [imm] at h
  | _, _, h, .tup hs ha => .tup (by
      rcases hs with hs | hs
      · exact .inl (s _ _ hs)
      · exact .inr hs) (DpAll.tsame s (by simpa [imm] using h) ha)
theorem DpAll.tsame (s : TSame H H') : ∀ {ds : List D} {vs : List V}, imms ds = true → DpAll K H vs ds → DpAll K H' vs ds
  | _, _, _, .nil => .nil
  | _, _, h, .cons h1 h2 => by
    rw [imms, Bool.and_eq_true] at h
    exact .cons (Dp.tsame s h.1 h1) (DpAll.tsame s h.2 h2)
end
theorem tsame_mask (h : ∀ a, A a → ∃ xs, H a = some (.lst xs)) : TSame H (mask A H) := fun a xs r => by
  have k : ¬ A a := fun q => by
    obtain ⟨ys, e⟩ := h a q
    rcases r with r | ⟨o, r⟩ <;> (rw [e] at r; cases r)
  rcases r with r | ⟨o, r⟩
  · exact .inl (mask_some.mpr ⟨k, r⟩)
  · exact .inr ⟨o, mask_some.mpr ⟨k, r⟩⟩
/-- masked by less -/
theorem tsame_mask2 (h : ∀ a, A a → B a ∨ ∃ xs, H a = some (.lst xs)) : TSame (mask B H) (mask A H) := fun a xs r => by
  have k : ¬ A a := fun q => by
    rcases h a q with b | ⟨ys, e⟩
    · rcases r with r | ⟨o, r⟩ <;> (rw [mask_in b] at r; cases r)
    · rcases r with r | ⟨o, r⟩ <;> (rw [mask_some, e] at r; cases r.2)
  rcases r with r | ⟨o, r⟩
  · exact .inl (mask_some.mpr ⟨k, (mask_some.mp r).2⟩)
  · exact .inr ⟨o, mask_some.mpr ⟨k, (mask_some.mp r).2⟩⟩
end

/-! ## judgements over data -/
/-- slots: what δ says of σ in H -/
def SR (K : PySem.W.Frag) (A : Addr → Prop) (σ : St) (δ : DS) (H : Hp) : Prop := (∀ (i : Nat) (d : D), δ[i]? = some (some d) → ∃ v, σ[i]? = some (some v) ∧ Dp K (mask A H) v d) ∧ δ.length ≤ σ.length
theorem SR.mono {K : PySem.W.Frag} {A : Addr → Prop} {σ : St} {δ : DS} {H H' : Hp} (r : SR K A σ δ H) (s : Same H H') : SR K A σ δ H' := ⟨fun i d e => by
  obtain ⟨v, h1, h2⟩ := r.1 i d e
  exact ⟨v, h1, Dp.same (Same.mask s) h2⟩, r.2⟩
/-- where one stands: what an exception's number means, what is wished of one -/
structure Wx where
  cv : Nat → Value
  E : XK
/-- the same, by the slots as they stand -/
structure Wy where
  cv : Nat → Value
  E : L2.St → XK
def Wy.at (Y : Wy) (σ : L2.St) : Wx := ⟨Y.cv, Y.E σ⟩
def WpE (K : PySem.W.Frag) (Y : Wx) (A : Addr → Prop) (H : Hp) (r : R D) (Q : VK) : Prop :=
  match r with
  | .bad => False
  | .ex n => ∀ H', Same H H' → Y.E (Y.cv n) none H'
  | .ok d => ∀ v H', Same H H' → Dp K (mask A H') v d → Q v H'
def WpA (K : PySem.W.Frag) (Y : Wx) (A : Addr → Prop) (H : Hp) (r : R (List D)) (Q : List V → Hp → Prop) : Prop :=
  match r with
  | .bad => False
  | .ex n => ∀ H', Same H H' → Y.E (Y.cv n) none H'
  | .ok ds => ∀ vs H', Same H H' → DpAll K (mask A H') vs ds → Q vs H'
def WpT (Y : Wx) (H : Hp) (r : R Bool) (Q : Bool → Hp → Prop) : Prop :=
  match r with
  | .bad => False
  | .ex n => ∀ H', Same H H' → Y.E (Y.cv n) none H'
  | .ok b => ∀ H', Same H H' → Q b H'
/-- a new list of one's own -/
def WpL (K : PySem.W.Frag) (Y : Wx) (A : Addr → Prop) (H : Hp) (r : R (List D)) (Q : VK) : Prop :=
  match r with
  | .bad => False
  | .ex n => ∀ H', Same H H' → Y.E (Y.cv n) none H'
  | .ok ds => ∀ p vs H', Same H H' → H p = none → H' p = some (.lst vs) → DpAll K (mask (fun a => A a ∨ a = p) H') vs ds → Q (.ref p) H'
section
variable {K : PySem.W.Frag} {Y : Wx} {A : Addr → Prop} {H H1 : Hp}
theorem WpE.mono {r : R D} {Q : VK} (w : WpE K Y A H r Q) (s : Same H H1) : WpE K Y A H1 r Q := by
  cases r with
  | bad => exact w
  | ex n => exact fun H' t => w H' (s.trans t)
  | ok d => exact fun v H' t q => w v H' (s.trans t) q
theorem WpA.mono {r : R (List D)} {Q : List V → Hp → Prop} (w : WpA K Y A H r Q) (s : Same H H1) : WpA K Y A H1 r Q := by
  cases r with
  | bad => exact w
  | ex n => exact fun H' t => w H' (s.trans t)
  | ok d => exact fun v H' t q => w v H' (s.trans t) q
theorem WpT.mono {r : R Bool} {Q : Bool → Hp → Prop} (w : WpT Y H r Q) (s : Same H H1) : WpT Y H1 r Q := by
  cases r with
  | bad => exact w
  | ex n => exact fun H' t => w H' (s.trans t)
  | ok d => exact fun H' t => w H' (s.trans t)
theorem Same.none_back (s : Same H H1) {p : Addr} (h : H1 p = none) : H p = none := Same.free s h
theorem WpL.mono {r : R (List D)} {Q : VK} (w : WpL K Y A H r Q) (s : Same H H1) : WpL K Y A H1 r Q := by
  cases r with
  | bad => exact w
  | ex n => exact fun H' t => w H' (s.trans t)
  | ok d => exact fun p vs H' t n q => w p vs H' (s.trans t) (Same.none_back s n) q
theorem WpE.of_l {r : R (List D)} {Q : VK} (w : WpE K Y A H (r.map .list) Q) (c : Cov A H) : WpL K Y A H r Q := by
  cases r with
  | bad => exact w
  | ex n => exact w
  | ok ds => exact fun p vs H' t n q a => w _ H' t (.lst (SqL.of (mask_some.mpr ⟨c.new n, q⟩)) (DpAll.same (mask_sub fun a h => .inl h) a))
end
def DE (X : Cx) (Y : Wy) (e : Expr) (m : DS → R D) : Prop :=
  ∃ t, PE X e t ∧ ∀ (σ : St) (δ : DS) (H : Hp) (A : Addr → Prop), Cov A H → SR X.K A σ δ H → ∀ Q : VK, WpE X.K (Y.at σ) A H (m δ) Q → t σ H Q
def DA (X : Cx) (Y : Wy) (es : List Expr) (m : DS → R (List D)) : Prop :=
  ∃ t, PA X es t ∧ ∀ (σ : St) (δ : DS) (H : Hp) (A : Addr → Prop), Cov A H → SR X.K A σ δ H → ∀ Q : List V → Hp → Prop, WpA X.K (Y.at σ) A H (m δ) Q → t σ H Q
def DT (X : Cx) (Y : Wy) (e : Expr) (m : DS → R Bool) : Prop :=
  ∃ t, PT X e t ∧ ∀ (σ : St) (δ : DS) (H : Hp) (A : Addr → Prop), Cov A H → SR X.K A σ δ H → ∀ Q : Bool → Hp → Prop, WpT (Y.at σ) H (m δ) Q → t σ H Q
def DW (X : Cx) (Y : Wy) (e : Expr) (m : DS → R Bool) : Prop :=
  ∃ t, PW X e t ∧ ∀ (σ : St) (δ : DS) (H : Hp) (A : Addr → Prop), Cov A H → SR X.K A σ δ H → ∀ Q : Bool → Hp → Prop, WpT (Y.at σ) H (m δ) Q → t σ H Q
def DN (X : Cx) (Y : Wy) (e : Expr) (m : DS → R (List D)) : Prop :=
  ∃ t, PE X e t ∧ ∀ (σ : St) (δ : DS) (H : Hp) (A : Addr → Prop), Cov A H → SR X.K A σ δ H → ∀ Q : VK, WpL X.K (Y.at σ) A H (m δ) Q → t σ H Q
section
variable {X : Cx} {Y : Wy} {e a b : Expr} {m ma mb : DS → R D}
theorem DN.de {m : DS → R (List D)} (h : DN X Y e m) : DE X Y e (fun δ => (m δ).map .list) := by
  obtain ⟨t, p, q⟩ := h
  exact ⟨t, p, fun σ δ H A c s Q w => q σ δ H A c s Q (w.of_l c)⟩
/-- two in a row -/
theorem de_seq {ta : TE} (ha : ∀ (σ : St) (δ : DS) (H : Hp) (A : Addr → Prop), Cov A H → SR X.K A σ δ H → ∀ Q : VK, WpE X.K (Y.at σ) A H (ma δ) Q → ta σ H Q) {σ : St} {δ : DS} {H : Hp} {A : Addr → Prop} (c : Cov A H) (s : SR X.K A σ δ H)
    {f : D → R D} {P Q : VK} (w : WpE X.K (Y.at σ) A H ((ma δ).bind f) Q) (k : ∀ d v H1, Same H H1 → Dp X.K (mask A H1) v d → WpE X.K (Y.at σ) A H1 (f d) Q → P v H1) : ta σ H P := by
  refine ha σ δ H A c s P ?_
  cases e : ma δ with
  | bad => rw [e] at w; exact w
  | ex n => rw [e] at w; exact w
  | ok d =>
    rw [e] at w
    exact fun v H1 t q => k d v H1 t q (WpE.mono w t)
end

/-! ## expressions -/
def mVar (i : Nat) : DS → R D := fun δ => match δ[i]? with
  | some (some d) => .ok d
  | _ => .bad
def mC (d : D) : DS → R D := fun _ => .ok d
section
variable {X : Cx} {Y : Wy}
theorem de_var (i : Nat) {x : Str} {pos : Pos} (hN : X.N[i]? = some x := by rfl) (hv : Vis X.env.scope x := by first | exact Or.inl rfl | exact Or.inr (Or.inl rfl) | exact Or.inr (Or.inr rfl)) (hd : (x == ("__debug__" : Str)) = false := by decide)
    (hcd : (x == ("__classdict__" : Str)) = false := by decide) : DE X Y (.Name x pos) (mVar i) := ⟨tVar i, pe_var hN hv hd hcd, fun σ δ H A c s Q w => by
  unfold mVar at w
  cases e : δ[i]? with
  | none => rw [e] at w; exact w.elim
  | some o =>
    cases o with
    | none => rw [e] at w; exact w.elim
    | some d =>
      rw [e] at w
      obtain ⟨v, h1, h2⟩ := s.1 i d e
      exact ⟨v, h1, w v H (Same.refl H) h2⟩⟩
theorem de_int {i j pos} : DE X Y (.Constant (.int i) j pos) (mC (.int i)) := ⟨_, pe_int, fun σ δ H A c s Q w => w _ H (Same.refl H) (.int i)⟩
theorem de_bl {i j pos} : DE X Y (.Constant (.bool i) j pos) (mC (.bool i)) := ⟨_, pe_bl, fun σ δ H A c s Q w => w _ H (Same.refl H) (.bl i)⟩
theorem de_non {j pos} : DE X Y (.Constant .none j pos) (mC .none) := ⟨_, pe_non, fun σ δ H A c s Q w => w _ H (Same.refl H) .non⟩
theorem de_str {i j pos} : DE X Y (.Constant (.str i) j pos) (mC (.str i)) := ⟨_, pe_str, fun σ δ H A c s Q w => w _ H (Same.refl H) (.str i)⟩
/-- two-place operations -/
def DOp (X : Cx) (r : R2) (g : D → D → R D) : Prop := ∀ (Y : Wx) (A : Addr → Prop) (H : Hp) (x y : V) (dx dy : D), Cov A H → Dp X.K (mask A H) x dx → Dp X.K (mask A H) y dy → ∀ Q : VK, WpE X.K Y A H (g dx dy) Q → r x y H Q
def mBin (g : D → D → R D) (ma mb : DS → R D) : DS → R D := fun δ => (ma δ).bind fun x => (mb δ).bind fun y => g x y
theorem de_opt {f : Value → Value → Sem Value} {ta tb : TE} {r : R2} {g : D → D → R D} {ma mb : DS → R D} (hr : DOp X r g) (ha : ∀ (σ : St) (δ : DS) (H : Hp) (A : Addr → Prop), Cov A H → SR X.K A σ δ H → ∀ Q : VK, WpE X.K (Y.at σ) A H (ma δ) Q → ta σ H Q)
    (hb : ∀ (σ : St) (δ : DS) (H : Hp) (A : Addr → Prop), Cov A H → SR X.K A σ δ H → ∀ Q : VK, WpE X.K (Y.at σ) A H (mb δ) Q → tb σ H Q) :
    ∀ (σ : St) (δ : DS) (H : Hp) (A : Addr → Prop), Cov A H → SR X.K A σ δ H → ∀ Q : VK, WpE X.K (Y.at σ) A H (mBin g ma mb δ) Q → tOp r ta tb σ H Q := fun σ δ H A c s Q w =>
  de_seq (Y := Y) ha c s w fun dx x H1 t1 r1 w1 => de_seq (Y := Y) hb (c.mono t1) (s.mono t1) w1 fun dy y H2 t2 r2 w2 =>
    hr (Y.at σ) A H2 x y dx dy ((c.mono t1).mono t2) (Dp.same (Same.mask t2) r1) r2 Q w2
theorem de_op {op : Operator} {r : R2} {g : D → D → R D} {a b : Expr} {pos : Pos} {ma mb : DS → R D} (ho : OpR X (binaryOp op) r) (hr : DOp X r g) (ha : DE X Y a ma) (hb : DE X Y b mb) : DE X Y (.BinOp a op b pos) (mBin g ma mb) := by
  obtain ⟨ta, pa, qa⟩ := ha
  obtain ⟨tb, pb, qb⟩ := hb
  exact ⟨_, pe_op ho pa pb, de_opt (f := binaryOp op) hr qa qb⟩
theorem de_cmp {op : CmpOp} {r : R2} {g : D → D → R D} {a b : Expr} {pos : Pos} {ma mb : DS → R D} (ho : OpR X (compareOp op) r) (hr : DOp X r g) (ha : DE X Y a ma) (hb : DE X Y b mb) (hm : behindInMarks op b = false := by first | exact nobehind _ (by decide) (by decide) | rfl) :
    DE X Y (.Compare a [op] [b] pos) (mBin g ma mb) := by
  obtain ⟨ta, pa, qa⟩ := ha
  obtain ⟨tb, pb, qb⟩ := hb
  exact ⟨_, pe_cmpR ho pa pb hm, de_opt (f := compareOp op) hr qa qb⟩
theorem de_ix {r : R2} {g : D → D → R D} {a b : Expr} {pos : Pos} {ma mb : DS → R D} (ho : IxR X r) (hr : DOp X r g) (ha : DE X Y a ma) (hb : DE X Y b mb) (hs : PlainIx b := by exact fun _ _ => rfl) : DE X Y (.Subscript a b pos) (mBin g ma mb) := by
  obtain ⟨ta, pa, qa⟩ := ha
  obtain ⟨tb, pb, qb⟩ := hb
  exact ⟨_, pe_ix ho pa pb hs, de_opt (f := getItem) hr qa qb⟩
end
end L2
namespace L2
open PySem PySem.Spec PyProof.Rows
/-! ## operations by data -/
section
variable {X : Cx} {f : Value → Value → Sem Value} {r r' : R2} {g g' : D → D → R D}
def rOr (r r' : R2) : R2 := fun x y H Q => r x y H Q ∨ r' x y H Q
/-- the first that knows an answer -/
def alt (g g' : D → D → R D) : D → D → R D := fun x y => match g x y with
  | .bad => g' x y
  | z => z
theorem DOp.or (h : DOp X r g) (h' : DOp X r' g') : DOp X (rOr r r') (alt g g') := fun Y A H x y dx dy c hx hy Q w => by
  unfold alt at w
  cases e : g dx dy with
  | bad => rw [e] at w; exact .inr (h' Y A H x y dx dy c hx hy Q w)
  | ex n => rw [e] at w; exact .inl (h Y A H x y dx dy c hx hy Q (by rw [e]; exact w))
  | ok d => rw [e] at w; exact .inl (h Y A H x y dx dy c hx hy Q (by rw [e]; exact w))
theorem WpE.here {K : PySem.W.Frag} {Y : Wx} {A : Addr → Prop} {H : Hp} {d : D} {v : V} {Q : VK} (w : WpE K Y A H (.ok d) Q) (h : Dp K (mask A H) v d) : Q v H := w v H (Same.refl H) h
/-- ints -/
def gI (C : Int → Int → Bool) (k : Int → Int → D) : D → D → R D := fun x y => match x, y with
  | .int i, .int j => R.when (C i j) (.ok (k i j))
  | _, _ => .bad
theorem R.when_ok {α : Type} {b : Bool} {r : R α} (P : R α → Prop) (h : P (R.when b r)) (hb : ¬ P .bad) : b = true ∧ P r := by
  cases b with
  | true => exact ⟨rfl, h⟩
  | false => exact absurd h hb
theorem WpE.when {K : PySem.W.Frag} {Y : Wx} {A : Addr → Prop} {H : Hp} {r : R D} {b : Bool} {Q : VK} (w : WpE K Y A H (R.when b r) Q) : b = true ∧ WpE K Y A H r Q := R.when_ok (fun r => WpE K Y A H r Q) w id
theorem WpL.when {K : PySem.W.Frag} {Y : Wx} {A : Addr → Prop} {H : Hp} {r : R (List D)} {b : Bool} {Q : VK} (w : WpL K Y A H (R.when b r) Q) : b = true ∧ WpL K Y A H r Q := R.when_ok (fun r => WpL K Y A H r Q) w id
theorem dop_I {C : Int → Int → Prop} {Cb : Int → Int → Bool} {gv : Int → Int → V} {gd : Int → Int → D} (hc : ∀ i j, Cb i j = true → C i j) (hv : ∀ (K : PySem.W.Frag) (H : Hp) i j, Dp K H (gv i j) (gd i j)) : DOp X (rI C gv) (gI Cb gd) := fun Y A H x y dx dy c hx hy Q w => by
  cases hx with
  | int i =>
    cases hy with
    | int j =>
      obtain ⟨e, w⟩ := WpE.when w
      exact ⟨i, j, rfl, rfl, hc i j e, WpE.here w (hv _ _ i j)⟩
    | _ => exact w.elim
  | _ => exact w.elim
def tt2 : Int → Int → Bool := fun _ _ => true
theorem dop_I0 {gv : Int → Int → V} {gd : Int → Int → D} (hv : ∀ (K : PySem.W.Frag) (H : Hp) i j, Dp K H (gv i j) (gd i j)) : DOp X (rI0 gv) (gI tt2 gd) := fun Y A H x y dx dy c hx hy Q w => by
  cases hx with
  | int i =>
    cases hy with
    | int j => exact ⟨i, j, rfl, rfl, WpE.here w (hv _ _ i j)⟩
    | _ => exact w.elim
  | _ => exact w.elim
/-- texts -/
def gS (C : Str → Str → Bool) (k : Str → Str → D) : D → D → R D := fun x y => match x, y with
  | .str i, .str j => R.when (C i j) (.ok (k i j))
  | _, _ => .bad
def rCatL (K : PySem.W.Frag) : R2 := fun x y H Q => ∃ l b xs zs, x = .ref l ∧ y = .ref b ∧ SqL K H l xs ∧ SqL K H b zs ∧ xs.length + zs.length ≤ sizeLine ∧ ∀ p, H p = none → Q (.ref p) (upd H p (.lst (xs ++ zs)))
theorem op_catL : OpR X (binaryOp .Add) (rCatL X.K) := by
  intro pins s σ H x y v u Q I rx ry h
  obtain ⟨l, b, xs, zs, rfl, rfl, hH, hB, hz, q⟩ := h
  cases rx
  cases ry
  obtain ⟨its, r, pl, z⟩ := I.list hH
  obtain ⟨its2, r2, pl2, z2⟩ := I.list hB
  have hl := r.length
  have hl2 := r2.length
  obtain ⟨⟨cls, dd, data, sl⟩, ho, hc, n, hd⟩ := id pl.isList
  obtain ⟨⟨cls2, dd2, data2, sl2⟩, ho2, hc2, n2, hd2⟩ := id pl2.isList
  simp only at hc hd hc2 hd2
  subst hc hd hc2 hd2
  refine concat_meets ⟨_, ho, rfl⟩ ⟨_, ho2, rfl⟩ noFill_list_add seq_list_add PySem.F.slot_list_add PySem.F.entry_list_add (PySem.F.args_list_add_2 _ _) (list_addW l b its.toArray its2.toArray n n2 dd dd2 sl sl2 (by rw [List.size_toArray, List.size_toArray]; omega)) ⟨ho, ho2, ?_⟩
  have ea : its.toArray ++ its2.toArray = (its ++ its2).toArray := by simp
  rw [ea]
  exact ⟨.ref _, _, I.lnew (t' := s.toks) (r.append r2) (by rw [List.length_append]; omega), rfl, q _ I.fresh⟩
/-! a list or a tuple of data -/
theorem dp_list {K : PySem.W.Frag} {H : Hp} {x : V} {ds : List D} (h : Dp K H x (.list ds)) : ∃ a vs, x = .ref a ∧ SqL K H a vs ∧ DpAll K H vs ds := by
  cases h with
  | lst h1 h2 => exact ⟨_, _, rfl, h1, h2⟩
theorem dp_tup {K : PySem.W.Frag} {H : Hp} {x : V} {ds : List D} (h : Dp K H x (.tuple ds)) : ∃ a vs, x = .ref a ∧ SqT K H a vs ∧ DpAll K H vs ds := by
  cases h with
  | tup h1 h2 => exact ⟨_, _, rfl, h1, h2⟩
def szOk (n : Nat) : Bool := decide (n ≤ sizeLine)
def gCatL : D → D → R (List D) := fun x y => match x, y with
  | .list a, .list b => R.when (szOk (a.length + b.length)) (.ok (a ++ b))
  | _, _ => .bad
/-- operations that give a new list -/
def DOpN (X : Cx) (r : R2) (g : D → D → R (List D)) : Prop := ∀ (Y : Wx) (A : Addr → Prop) (H : Hp) (x y : V) (dx dy : D), Cov A H → Dp X.K (mask A H) x dx → Dp X.K (mask A H) y dy → ∀ Q : VK, WpL X.K Y A H (g dx dy) Q → r x y H Q
theorem mask_upd {A : Addr → Prop} {H : Hp} {p : Addr} {o : HO} (h : H p = none) : Same (mask A H) (mask (fun a => A a ∨ a = p) (upd H p o)) := fun b u e => by
  rw [mask_some] at e ⊢
  have : b ≠ p := ne_of_none e.2 h
  exact ⟨fun q => q.elim e.1 this, by rw [upd_ne this]; exact e.2⟩
theorem WpL.newly {K : PySem.W.Frag} {Y : Wx} {A : Addr → Prop} {H : Hp} {ds : List D} {vs : List V} {Q : VK} (w : WpL K Y A H (.ok ds) Q) (h : DpAll K (mask A H) vs ds) : ∀ p, H p = none → Q (.ref p) (upd H p (.lst vs)) := fun p n =>
  w p vs _ (same_upd n) n upd_same (DpAll.same (mask_upd n) h)
theorem DOpN.op {g : D → D → R (List D)} (h : DOpN X r g) : DOp X r (fun x y => (g x y).map .list) := fun Y A H x y dx dy c hx hy Q w => h Y A H x y dx dy c hx hy Q (w.of_l c)
theorem dop_catL : DOpN X (rCatL X.K) gCatL := fun Y A H x y dx dy c hx hy Q w => by
  cases dx with
  | list a =>
    cases dy with
    | list b =>
      obtain ⟨p, vs, rfl, h1, h2⟩ := dp_list hx
      obtain ⟨q, us, rfl, h3, h4⟩ := dp_list hy
      obtain ⟨e, w⟩ := WpL.when w
      refine ⟨p, q, vs, us, rfl, rfl, sqL_same mask_le h1, sqL_same mask_le h3, ?_, w.newly (h2.app h4)⟩
      rw [h2.len, h4.len]
      exact of_decide_eq_true e
    | _ => exact w.elim
  | _ => exact w.elim
def gCatT : D → D → R D := fun x y => match x, y with
  | .tuple a, .tuple b => R.when (szOk (a.length + b.length)) (.ok (.tuple (a ++ b)))
  | _, _ => .bad
theorem mask_upd' {A : Addr → Prop} {H : Hp} {p : Addr} {o : HO} (c : Cov A H) (h : H p = none) : mask A (upd H p o) p = some o := mask_some.mpr ⟨c.new h, upd_same⟩
theorem WpE.newT {K : PySem.W.Frag} {Y : Wx} {A : Addr → Prop} {H : Hp} {ds : List D} {vs : List V} {Q : VK} (w : WpE K Y A H (.ok (.tuple ds)) Q) (c : Cov A H) (h : DpAll K (mask A H) vs ds) : ∀ p, H p = none → Q (.ref p) (upd H p (.tup vs)) := fun p n =>
  w _ _ (same_upd n) (.tup (SqT.of (mask_upd' c n)) (DpAll.same (Same.mask (same_upd n)) h))
theorem dop_catT : DOp X (rCatA X.K) gCatT := fun Y A H x y dx dy c hx hy Q w => by
  cases dx with
  | tuple a =>
    cases dy with
    | tuple b =>
      obtain ⟨p, vs, rfl, h1, h2⟩ := dp_tup hx
      obtain ⟨q, us, rfl, h3, h4⟩ := dp_tup hy
      obtain ⟨e, w⟩ := WpE.when w
      refine ⟨p, q, vs, us, rfl, rfl, sqT_same mask_le h1, sqT_same mask_le h3, ?_, fun e => ?_, fun _ e => ?_, fun _ _ => w.newT c (h2.app h4)⟩
      · rw [h2.len, h4.len]
        exact of_decide_eq_true e
      · subst e
        cases h2
        exact w.here hy
      · subst e
        cases h4
        rw [List.append_nil] at w
        exact w.here hx
    | _ => exact w.elim
  | _ => exact w.elim
def cLen (i j : Str) : Bool := szOk (i.length + j.length)
theorem dop_catS : DOp X (fun x y H Q => ∃ i j, x = .str i ∧ y = .str j ∧ i.length + j.length ≤ sizeLine ∧ Q (.str (i ++ j)) H) (gS cLen fun i j => .str (i ++ j)) := fun Y A H x y dx dy c hx hy Q w => by
  cases hx with
  | str i =>
    cases hy with
    | str j =>
      obtain ⟨e, w⟩ := WpE.when w
      exact ⟨i, j, rfl, rfl, of_decide_eq_true e, w.here (.str _)⟩
    | _ => exact w.elim
  | _ => exact w.elim
/-- +: ints, texts, tuples, lists -/
def gAdd : D → D → R D := alt (gI tt2 fun i j => .int (i + j)) (alt (gS cLen fun i j => .str (i ++ j)) (alt gCatT fun x y => (gCatL x y).map .list))
def rAddD (K : PySem.W.Frag) : R2 := rOr (rI0 fun i j => .int (i + j)) (rOr (fun x y H Q => ∃ i j, x = .str i ∧ y = .str j ∧ i.length + j.length ≤ sizeLine ∧ Q (.str (i ++ j)) H) (rOr (rCatA K) (rCatL K)))
theorem op_addD : OpR X (binaryOp .Add) (rAddD X.K) := op_add.or (op_add_str.or (op_catA.or op_catL))
theorem dop_add : DOp X (rAddD X.K) gAdd := (dop_I0 fun _ _ _ _ => .int _).or (dop_catS.or (dop_catT.or dop_catL.op))
def gSubI : D → D → R D := gI tt2 fun i j => .int (i - j)
theorem dop_sub : DOp X (rI0 fun i j => .int (i - j)) gSubI := dop_I0 fun _ _ _ _ => .int _
def mulOk (i j : Int) : Bool := decide ((-(2 ^ 64) < i ∧ i < 2 ^ 64) ∨ (-(2 ^ 64) < j ∧ j < 2 ^ 64))
def gMul : D → D → R D := gI mulOk fun i j => .int (i * j)
theorem dop_mul : DOp X (rI CMul fun i j => .int (i * j)) gMul := dop_I (fun i j h => show (-(2 ^ 64) < i ∧ i < 2 ^ 64) ∨ (-(2 ^ 64) < j ∧ j < 2 ^ 64) from of_decide_eq_true h) fun _ _ _ _ => .int _
def modOk (i j : Int) : Bool := decide (0 < j)
def gMod : D → D → R D := gI modOk fun i j => .int (i % j)
theorem dop_mod : DOp X (rI (fun _ j => 0 < j) fun i j => .int (i % j)) gMod := dop_I (fun _ _ h => of_decide_eq_true h) fun _ _ _ _ => .int _
def divOk (i j : Int) : Bool := decide (0 < j ∧ j < 1073741824)
def gDiv : D → D → R D := gI divOk fun i j => .int (i / j)
theorem dop_div : DOp X (rI CDiv fun i j => .int (i / j)) gDiv := dop_I (fun i j h => show 0 < j ∧ j < 1073741824 from of_decide_eq_true h) fun _ _ _ _ => .int _
def powOk (i j : Int) : Bool := decide (0 ≤ j ∧ j ≤ 1000000 ∧ i.natAbs < 2 ^ 64)
def gPow : D → D → R D := gI powOk fun i j => .int (i ^ j.toNat)
theorem dop_pow : DOp X (rI CPow fun i j => .int (i ^ j.toNat)) gPow := dop_I (fun i j h => show 0 ≤ j ∧ j ≤ 1000000 ∧ i.natAbs < 2 ^ 64 from of_decide_eq_true h) fun _ _ _ _ => .int _
/-! list * int, tuple * int -/
def repOk (n : Nat) (k : Int) : Bool := decide (-(2 ^ 63) ≤ k ∧ k < 2 ^ 63 ∧ n * k.toNat ≤ sizeLine)
/-! comparisons -/
def gCmp (p : Int → Int → Bool) : D → D → R D := gI tt2 fun i j => .bool (p i j)
theorem dop_cmp {p : Int → Int → Bool} : DOp X (rI0 fun i j => .bl (p i j)) (gCmp p) := dop_I0 fun _ _ _ _ => .bl _
def shp (d : D) : Bool := SeqAt.shaped d
def gEq : D → D → R D := fun x y => R.when (shp x && shp y) (.ok (.bool (PyData.eqv x y)))
def gNe : D → D → R D := fun x y => R.when (shp x && shp y) (.ok (.bool (!PyData.eqv x y)))
theorem dop_eq : DOp X (rEqD X.K) gEq := fun Y A H x y dx dy c hx hy Q w => by
  obtain ⟨e, w⟩ := WpE.when w
  rw [Bool.and_eq_true] at e
  exact ⟨dx, dy, Dp.same mask_le hx, Dp.same mask_le hy, e.1, e.2, w.here (.bl _)⟩
theorem dop_ne : DOp X (rNeD X.K) gNe := fun Y A H x y dx dy c hx hy Q w => by
  obtain ⟨e, w⟩ := WpE.when w
  rw [Bool.and_eq_true] at e
  exact ⟨dx, dy, Dp.same mask_le hx, Dp.same mask_le hy, e.1, e.2, w.here (.bl _)⟩
def isNone : D → Bool
  | .none => true
  | _ => false
def gIsN (neg : Bool) : D → D → R D := fun x y => match y with
  | .none => .ok (.bool (if neg then !isNone x else isNone x))
  | _ => .bad
theorem dp_isN {K : PySem.W.Frag} {H : Hp} {x : V} {d : D} (h : Dp K H x d) : decide (x = .non) = isNone d := by
  cases h <;> rfl
theorem dop_isN : DOp X rIsN (gIsN false) := fun Y A H x y dx dy c hx hy Q w => by
  cases hy with
  | non => exact ⟨rfl, by rw [dp_isN hx]; exact WpE.here w (.bl _)⟩
  | _ => exact w.elim
theorem dop_notN : DOp X rNotN (gIsN true) := fun Y A H x y dx dy c hx hy Q w => by
  cases hy with
  | non => exact ⟨rfl, by rw [dp_isN hx]; exact WpE.here w (.bl _)⟩
  | _ => exact w.elim
/-! x in list | tuple of flat items -/
def flatD : D → Bool
  | .none => true
  | .bool _ => true
  | .int _ => true
  | .str _ => true
  | _ => false
def seqD : D → Option (List D)
  | .list ds => some ds
  | .tuple ds => some ds
  | _ => none
def gIn (neg : Bool) : D → D → R D := fun x y => match seqD y with
  | some ds => R.when (flatD x && ds.all flatD) (.ok (.bool (if neg then !ds.any fun y => PyData.eqv y x else ds.any fun y => PyData.eqv y x)))
  | none => .bad
theorem dp_flat {K : PySem.W.Frag} {H : Hp} {x : V} {d : D} (h : Dp K H x d) : flatD d = true → flatV x = true := by
  cases h <;> first | (intro; rfl) | (intro z; cases z)
theorem dp_flats {K : PySem.W.Frag} {H : Hp} : ∀ {ds : List D} {xs : List V}, DpAll K H xs ds → ds.all flatD = true → xs.all flatV = true
  | _, _, .nil, _ => rfl
  | _, _, .cons h1 h2, e => by
    rw [List.all_cons, Bool.and_eq_true] at e ⊢
    exact ⟨dp_flat h1 e.1, dp_flats h2 e.2⟩
theorem dp_eqv {K : PySem.W.Frag} {H : Hp} {x y : V} {d e : D} (h : Dp K H x d) (h' : Dp K H y e) (fd : flatD d = true) (fe : flatD e = true) : eqV x y = PyData.eqv d e := by
  cases h <;> first | (cases fd; done) | skip
  all_goals (cases h' <;> first | (cases fe; done) | skip)
  all_goals first
    | (simp only [eqV, PyData.eqv]; done)
    | (simp [eqV, PyData.eqv]; done)
    | (simp only [eqV, PyData.eqv]; split <;> simp_all)
theorem dp_inV {K : PySem.W.Frag} {H : Hp} {x : V} {d : D} (h : Dp K H x d) (fd : flatD d = true) : ∀ {ds : List D} {xs : List V}, DpAll K H xs ds → ds.all flatD = true → inV x xs = ds.any fun y => PyData.eqv y d
  | _, _, .nil, _ => rfl
  | _, _, .cons h1 h2, e => by
    rw [List.all_cons, Bool.and_eq_true] at e
    have ih := dp_inV h fd h2 e.2
    unfold inV at ih ⊢
    rw [List.any_cons, List.any_cons, ih, dp_eqv h1 h e.1 fd]
theorem dop_in {neg : Bool} : DOp X (rIn X.K neg) (gIn neg) := fun Y A H x y dx dy c hx hy Q w => by
  have key : ∀ (a : Addr) (vs : List V) (ds : List D), y = .ref a → (SqL X.K H a vs ∨ SqT X.K H a vs) → DpAll X.K (mask A H) vs ds → WpE X.K Y A H (R.when (flatD dx && ds.all flatD) (.ok (.bool (if neg then !ds.any fun y => PyData.eqv y dx else ds.any fun y => PyData.eqv y dx)))) Q → rIn X.K neg x y H Q := fun a vs ds ey hs ha w => by
    obtain ⟨e, w⟩ := WpE.when w
    rw [Bool.and_eq_true] at e
    refine ⟨a, vs, ey, hs, dp_flat hx e.1, dp_flats ha e.2, ?_⟩
    rw [dp_inV hx e.1 ha e.2]
    exact w.here (.bl _)
  cases dy with
  | list ds =>
    obtain ⟨a, vs, e, h1, h2⟩ := dp_list hy
    exact key a vs ds e (.inl (sqL_same mask_le h1)) h2 w
  | tuple ds =>
    obtain ⟨a, vs, e, h1, h2⟩ := dp_tup hy
    exact key a vs ds e (.inr (sqT_same mask_le h1)) h2 w
  | _ => exact w.elim
/-! a[i] -/
def gIx : D → D → R D := fun x y => match x, y with
  | .list ds, .int i => match atI ds i with
    | some d => .ok d
    | none => .bad
  | .tuple ds, .int i => match atI ds i with
    | some d => .ok d
    | none => .bad
  | .str z, .int i => R.when (szOk z.length) (match atI z.cps.toList i with
    | some c => .ok (.str ⟨#[c]⟩)
    | none => .bad)
  | _, _ => .bad
theorem dp_atI {K : PySem.W.Frag} {H : Hp} {vs : List V} {ds : List D} {i : Int} {d : D} (h : DpAll K H vs ds) (e : atI ds i = some d) : ∃ v, atI vs i = some v ∧ Dp K H v d := by
  unfold atI at e ⊢
  rw [h.len]
  cases q : ixN ds.length i with
  | none => rw [q] at e; cases e
  | some j =>
    rw [q] at e
    exact h.get e
theorem ix_any : IxR X (rIx X.K) := ix_list.or (ix_tup.or ix_str)
theorem dop_ix : DOp X (rIx X.K) gIx := fun Y A H x y dx dy c hx hy Q w => by
  cases hy with
  | int i =>
    cases dx with
    | list ds =>
      obtain ⟨a, vs, rfl, h1, h2⟩ := dp_list hx
      have w' : WpE X.K Y A H (match atI ds i with
        | some d => .ok d
        | none => .bad) Q := w
      cases e : atI ds i with
      | none => rw [e] at w'; exact w'.elim
      | some d =>
        rw [e] at w'
        obtain ⟨v, q1, q2⟩ := dp_atI h2 e
        exact .inl ⟨a, vs, i, v, rfl, rfl, sqL_same mask_le h1, q1, w'.here q2⟩
    | tuple ds =>
      obtain ⟨a, vs, rfl, h1, h2⟩ := dp_tup hx
      have w' : WpE X.K Y A H (match atI ds i with
        | some d => .ok d
        | none => .bad) Q := w
      cases e : atI ds i with
      | none => rw [e] at w'; exact w'.elim
      | some d =>
        rw [e] at w'
        obtain ⟨v, q1, q2⟩ := dp_atI h2 e
        exact .inr (.inl ⟨a, vs, i, v, rfl, rfl, sqT_same mask_le h1, q1, w'.here q2⟩)
    | str z =>
      cases hx with
      | str z =>
      obtain ⟨ez, w'⟩ := WpE.when w
      cases e : atI z.cps.toList i with
      | none => rw [e] at w'; exact w'.elim
      | some k =>
        rw [e] at w'
        exact .inr (.inr ⟨z, i, k, rfl, rfl, of_decide_eq_true ez, e, w'.here (.str _)⟩)
    | _ => exact w.elim
  | _ => cases dx <;> exact w.elim
end
end L2
namespace L2
open PySem PySem.Spec PyProof.Rows
section
variable {X : Cx} {Y : Wy}
/-! ## argument lists, displays -/
def mNil : DS → R (List D) := fun _ => .ok []
def mCons (m : DS → R D) (ms : DS → R (List D)) : DS → R (List D) := fun δ => (m δ).bind fun d => (ms δ).map fun ds => d :: ds
theorem da_nil : DA X Y [] mNil := ⟨_, pa_nil, fun σ δ H A c s Q w => w [] H (Same.refl H) .nil⟩
theorem da_cons {e : Expr} {es : List Expr} {m : DS → R D} {ms : DS → R (List D)} (h : DE X Y e m) (hs : DA X Y es ms) (he : starEach (e :: es) X.env = (false, eval e X.env) :: starEach es X.env := by rfl) : DA X Y (e :: es) (mCons m ms) := by
  obtain ⟨t, p, q⟩ := h
  obtain ⟨ts, ps, qs⟩ := hs
  refine ⟨_, pa_cons p ps he, fun σ δ H A c s Q w => ?_⟩
  refine q σ δ H A c s _ ?_
  unfold mCons at w
  cases e1 : m δ with
  | bad => rw [e1] at w; exact w
  | ex n => rw [e1] at w; exact w
  | ok d =>
    rw [e1] at w
    refine fun v H1 t1 r1 => qs σ δ H1 A (c.mono t1) (s.mono t1) _ ?_
    have w' : WpA X.K (Y.at σ) A H ((ms δ).map fun ds => d :: ds) Q := w
    cases e2 : ms δ with
    | bad => rw [e2] at w'; exact w'
    | ex n => rw [e2] at w'; exact fun H' t => w' H' (t1.trans t)
    | ok ds =>
      rw [e2] at w'
      exact fun vs H2 t2 r2 => w' (v :: vs) H2 (t1.trans t2) (.cons (Dp.same (Same.mask t2) r1) r2)
/-- behind an argument list -/
theorem da_seq {t : TA} {ms : DS → R (List D)} (h : ∀ (σ : St) (δ : DS) (H : Hp) (A : Addr → Prop), Cov A H → SR X.K A σ δ H → ∀ Q : List V → Hp → Prop, WpA X.K (Y.at σ) A H (ms δ) Q → t σ H Q) {σ : St} {δ : DS} {H : Hp} {A : Addr → Prop} (c : Cov A H) (s : SR X.K A σ δ H)
    {f : List D → R D} {P : List V → Hp → Prop} {Q : VK} (w : WpE X.K (Y.at σ) A H ((ms δ).bind f) Q) (k : ∀ ds vs H1, Same H H1 → DpAll X.K (mask A H1) vs ds → WpE X.K (Y.at σ) A H1 (f ds) Q → P vs H1) : t σ H P := by
  refine h σ δ H A c s P ?_
  cases e : ms δ with
  | bad => rw [e] at w; exact w
  | ex n => rw [e] at w; exact w
  | ok d =>
    rw [e] at w
    exact fun v H1 t q => k d v H1 t q (WpE.mono w t)
theorem da_seqN {t : TA} {ms : DS → R (List D)} (h : ∀ (σ : St) (δ : DS) (H : Hp) (A : Addr → Prop), Cov A H → SR X.K A σ δ H → ∀ Q : List V → Hp → Prop, WpA X.K (Y.at σ) A H (ms δ) Q → t σ H Q) {σ : St} {δ : DS} {H : Hp} {A : Addr → Prop} (c : Cov A H) (s : SR X.K A σ δ H)
    {f : List D → R (List D)} {P : List V → Hp → Prop} {Q : VK} (w : WpL X.K (Y.at σ) A H ((ms δ).bind f) Q) (k : ∀ ds vs H1, Same H H1 → DpAll X.K (mask A H1) vs ds → WpL X.K (Y.at σ) A H1 (f ds) Q → P vs H1) : t σ H P := by
  refine h σ δ H A c s P ?_
  cases e : ms δ with
  | bad => rw [e] at w; exact w
  | ex n => rw [e] at w; exact w
  | ok d =>
    rw [e] at w
    exact fun v H1 t q => k d v H1 t q (WpL.mono w t)
def mTup (ms : DS → R (List D)) : DS → R D := fun δ => (ms δ).bind fun ds => R.when (szOk ds.length) (.ok (.tuple ds))
theorem de_tup {es : List Expr} {ms : DS → R (List D)} {x1 pos} (h : DA X Y es ms) : DE X Y (.Tuple es x1 pos) (mTup ms) := by
  obtain ⟨t, p, q⟩ := h
  refine ⟨_, pe_tup p, fun σ δ H A c s Q w => da_seq (Y := Y) q c s w fun ds vs H1 t1 r1 w1 => ?_⟩
  obtain ⟨e, w1⟩ := WpE.when w1
  exact ⟨by rw [r1.len]; exact of_decide_eq_true e, w1.newT (c.mono t1) r1⟩
def mLst (ms : DS → R (List D)) : DS → R (List D) := fun δ => (ms δ).bind fun ds => R.when (szOk ds.length) (.ok ds)
theorem dn_lst {es : List Expr} {ms : DS → R (List D)} {pos} (h : DA X Y es ms) : DN X Y (.List es pos) (mLst ms) := by
  obtain ⟨t, p, q⟩ := h
  refine ⟨_, pe_lst p, fun σ δ H A c s Q w => da_seqN (Y := Y) q c s w fun ds vs H1 t1 r1 w1 => ?_⟩
  obtain ⟨e, w1⟩ := WpL.when w1
  exact ⟨by rw [r1.len]; exact of_decide_eq_true e, w1.newly r1⟩
/-- two-place operations that give new lists -/
theorem dn_op {op : Operator} {r : R2} {g : D → D → R (List D)} {a b : Expr} {pos : Pos} {ma mb : DS → R D} (ho : OpR X (binaryOp op) r) (hr : DOpN X r g) (ha : DE X Y a ma) (hb : DE X Y b mb) : DN X Y (.BinOp a op b pos) (fun δ => (ma δ).bind fun x => (mb δ).bind fun y => g x y) := by
  obtain ⟨ta, pa, qa⟩ := ha
  obtain ⟨tb, pb, qb⟩ := hb
  refine ⟨_, pe_op ho pa pb, fun σ δ H A c s Q w => qa σ δ H A c s _ ?_⟩
  replace w : WpL X.K (Y.at σ) A H ((ma δ).bind fun x => (mb δ).bind fun y => g x y) Q := w
  cases e1 : ma δ with
  | bad => rw [e1] at w; exact w
  | ex n => rw [e1] at w; exact w
  | ok dx =>
    rw [e1] at w
    refine fun x H1 t1 r1 => qb σ δ H1 A (c.mono t1) (s.mono t1) _ ?_
    have w' : WpL X.K (Y.at σ) A H ((mb δ).bind fun y => g dx y) Q := w
    cases e2 : mb δ with
    | bad => rw [e2] at w'; exact w'
    | ex n => rw [e2] at w'; exact fun H' t => w' H' (t1.trans t)
    | ok dy =>
      rw [e2] at w'
      exact fun y H2 t2 r2 => hr (Y.at σ) A H2 x y dx dy ((c.mono t1).mono t2) (Dp.same (Same.mask t2) r1) r2 Q (WpL.mono w' (t1.trans t2))
theorem dn_cat {a b : Expr} {pos : Pos} {ma mb : DS → R D} (ha : DE X Y a ma) (hb : DE X Y b mb) : DN X Y (.BinOp a .Add b pos) (fun δ => (ma δ).bind fun x => (mb δ).bind fun y => gCatL x y) := dn_op op_catL dop_catL ha hb
/-- [..] * n -/
def mRep (ma : DS → R (List D)) (mb : DS → R D) : DS → R (List D) := fun δ => (ma δ).bind fun ds => (mb δ).bind fun y => match y with
  | .int k => R.when (repOk ds.length k) (.ok (List.replicate k.toNat ds).flatten)
  | _ => .bad
theorem DpAll.flatRep {K : PySem.W.Frag} {H : Hp} {ds : List D} {vs : List V} (h : DpAll K H vs ds) : ∀ n : Nat, DpAll K H (List.replicate n vs).flatten (List.replicate n ds).flatten
  | 0 => .nil
  | n + 1 => by
    rw [List.replicate_succ, List.replicate_succ, List.flatten_cons, List.flatten_cons]
    exact h.app (DpAll.flatRep h n)
theorem dn_rep {a b : Expr} {pos : Pos} {ma : DS → R (List D)} {mb : DS → R D} (ha : DN X Y a ma) (hb : DE X Y b mb) : DN X Y (.BinOp a .Mult b pos) (mRep ma mb) := by
  obtain ⟨ta, pa, qa⟩ := ha
  obtain ⟨tb, pb, qb⟩ := hb
  refine ⟨_, pe_op op_rep pa pb, fun σ δ H A c s Q w => qa σ δ H A c s _ ?_⟩
  unfold mRep at w
  cases e1 : ma δ with
  | bad => rw [e1] at w; exact w
  | ex n => rw [e1] at w; exact w
  | ok ds =>
    rw [e1] at w
    refine fun p vs H1 t1 n1 h1 r1 => qb σ δ H1 A (c.mono t1) (s.mono t1) _ ?_
    have w' : WpL X.K (Y.at σ) A H ((mb δ).bind fun y => match y with
      | .int k => R.when (repOk ds.length k) (.ok (List.replicate k.toNat ds).flatten)
      | _ => .bad) Q := w
    cases e2 : mb δ with
    | bad => rw [e2] at w'; exact w'
    | ex n => rw [e2] at w'; exact fun H' t => w' H' (t1.trans t)
    | ok dy =>
      rw [e2] at w'
      refine fun y H2 t2 r2 => ?_
      cases r2 with
      | int k =>
        obtain ⟨e, w3⟩ := WpL.when (r := .ok (List.replicate k.toNat ds).flatten) w'
        obtain ⟨b1, b2, b3⟩ := of_decide_eq_true e
        refine ⟨p, k, vs, rfl, rfl, t2 _ _ h1, b1, b2, by rw [r1.len]; exact b3, ?_⟩
        exact (WpL.mono w3 (t1.trans t2)).newly ((DpAll.same ((mask_sub fun a h => .inl h).trans (Same.mask t2)) r1).flatRep k.toNat)
      | _ => exact w'.elim
/-! ## built-in calls -/
def DCall (X : Cx) (r : List V → Hp → VK → Prop) (g : List D → R D) : Prop := ∀ (Y : Wx) (A : Addr → Prop) (H : Hp) (vs : List V) (ds : List D), Cov A H → DpAll X.K (mask A H) vs ds → ∀ Q : VK, WpE X.K Y A H (g ds) Q → r vs H Q
def DCallN (X : Cx) (r : List V → Hp → VK → Prop) (g : List D → R (List D)) : Prop := ∀ (Y : Wx) (A : Addr → Prop) (H : Hp) (vs : List V) (ds : List D), Cov A H → DpAll X.K (mask A H) vs ds → ∀ Q : VK, WpL X.K Y A H (g ds) Q → r vs H Q
def mCall (g : List D → R D) (ms : DS → R (List D)) : DS → R D := fun δ => (ms δ).bind g
def mCallN (g : List D → R (List D)) (ms : DS → R (List D)) : DS → R (List D) := fun δ => (ms δ).bind g
section
variable {x : Str} {p pos : Pos} {e : Expr} {es : List Expr} {ms : DS → R (List D)} {id T : String} {r r' : List V → Hp → VK → Prop} {g g' : List D → R D} {gn : List D → R (List D)}
theorem de_callB (hc : CallR X (.builtin id) r) (hr : DCall X r g) (hg : Gl X x) (hm : X.mg x = none) (hv : bootBuiltins x = some (.builtin id)) (ha : DA X Y (e :: es) ms) (hn : x ≠ "__name__" := by decide) (hdb : (x == ("__debug__" : Str)) = false := by decide)
    (he : starEach (e :: es) X.env = (false, eval e X.env) :: starEach es X.env := by rfl) (hpl : (backTo pos (starEach es X.env)).any (·.1) = false := by rfl) : DE X Y (.Call (.Name x p) (e :: es) [] pos) (mCall g ms) := by
  obtain ⟨t, pa, q⟩ := ha
  exact ⟨_, pe_callB hc hg hm hv pa hn hdb he hpl, fun σ δ H A c s Q w => da_seq (Y := Y) q c s w fun ds vs H1 t1 r1 w1 => hr (Y.at σ) A H1 vs ds (c.mono t1) r1 Q w1⟩
theorem de_callTy (hc : CallR X (.type T) r) (hr : DCall X r g) (hg : Gl X x) (hm : X.mg x = none) (hv : bootBuiltins x = some (.type T)) (ha : DA X Y (e :: es) ms) (hn : x ≠ "__name__" := by decide) (hdb : (x == ("__debug__" : Str)) = false := by decide)
    (he : starEach (e :: es) X.env = (false, eval e X.env) :: starEach es X.env := by rfl) (hpl : (backTo pos (starEach es X.env)).any (·.1) = false := by rfl) : DE X Y (.Call (.Name x p) (e :: es) [] pos) (mCall g ms) := by
  obtain ⟨t, pa, q⟩ := ha
  exact ⟨_, pe_callTy hc hg hm hv pa hn hdb he hpl, fun σ δ H A c s Q w => da_seq (Y := Y) q c s w fun ds vs H1 t1 r1 w1 => hr (Y.at σ) A H1 vs ds (c.mono t1) r1 Q w1⟩
theorem dn_callTy (hc : CallR X (.type T) r) (hr : DCallN X r gn) (hg : Gl X x) (hm : X.mg x = none) (hv : bootBuiltins x = some (.type T)) (ha : DA X Y (e :: es) ms) (hn : x ≠ "__name__" := by decide) (hdb : (x == ("__debug__" : Str)) = false := by decide)
    (he : starEach (e :: es) X.env = (false, eval e X.env) :: starEach es X.env := by rfl) (hpl : (backTo pos (starEach es X.env)).any (·.1) = false := by rfl) : DN X Y (.Call (.Name x p) (e :: es) [] pos) (mCallN gn ms) := by
  obtain ⟨t, pa, q⟩ := ha
  exact ⟨_, pe_callTy hc hg hm hv pa hn hdb he hpl, fun σ δ H A c s Q w => da_seqN (Y := Y) q c s w fun ds vs H1 t1 r1 w1 => hr (Y.at σ) A H1 vs ds (c.mono t1) r1 Q w1⟩
def altC (g g' : List D → R D) : List D → R D := fun x => match g x with
  | .bad => g' x
  | z => z
theorem CallR.orD {f : Value} (h : CallR X f r) (h' : CallR X f r') : CallR X f (fun xs H Q => r xs H Q ∨ r' xs H Q) := fun pins s σ H xs us Q I rx q => by
  rcases q with q | q
  · exact h pins s σ H xs us Q I rx q
  · exact h' pins s σ H xs us Q I rx q
theorem DCall.or (h : DCall X r g) (h' : DCall X r' g') : DCall X (fun xs H Q => r xs H Q ∨ r' xs H Q) (altC g g') := fun Y A H vs ds c hx Q w => by
  unfold altC at w
  cases e : g ds with
  | bad => rw [e] at w; exact .inr (h' Y A H vs ds c hx Q w)
  | ex n => rw [e] at w; exact .inl (h Y A H vs ds c hx Q (by rw [e]; exact w))
  | ok d => rw [e] at w; exact .inl (h Y A H vs ds c hx Q (by rw [e]; exact w))
end
/-! len -/
def gLen : List D → R D := fun ds => match ds with
  | [.list xs] => .ok (.int xs.length)
  | [.tuple xs] => .ok (.int xs.length)
  | [.str z] => R.when (szOk z.length) (.ok (.int z.length))
  | _ => .bad
def rLenD (K : PySem.W.Frag) : List V → Hp → VK → Prop := fun xs H Q => (∃ p ys, xs = [.ref p] ∧ (SqL K H p ys ∨ SqT K H p ys) ∧ Q (.int ys.length) H) ∨ ∃ z, xs = [.str z] ∧ z.length ≤ sizeLine ∧ Q (.int z.length) H
theorem call_lenD2 : CallR X (.builtin "len") (rLenD X.K) := call_len_seq.orD call_len_str
theorem dpAll1 {K : PySem.W.Frag} {H : Hp} {vs : List V} {d : D} (h : DpAll K H vs [d]) : ∃ v, vs = [v] ∧ Dp K H v d := by
  cases h with
  | cons h1 h2 => cases h2; exact ⟨_, rfl, h1⟩
theorem dpAll2 {K : PySem.W.Frag} {H : Hp} {vs : List V} {d e : D} (h : DpAll K H vs [d, e]) : ∃ v u, vs = [v, u] ∧ Dp K H v d ∧ Dp K H u e := by
  cases h with
  | cons h1 h2 =>
    obtain ⟨u, rfl, h3⟩ := dpAll1 h2
    exact ⟨_, u, rfl, h1, h3⟩
theorem dc_len : DCall X (rLenD X.K) gLen := fun Y A H vs ds c hx Q w => by
  unfold gLen at w
  split at w
  · rename_i xs
    obtain ⟨v, rfl, h⟩ := dpAll1 hx
    obtain ⟨a, us, rfl, h1, h2⟩ := dp_list h
    exact .inl ⟨a, us, rfl, .inl (sqL_same mask_le h1), by rw [h2.len]; exact w.here (.int _)⟩
  · rename_i xs
    obtain ⟨v, rfl, h⟩ := dpAll1 hx
    obtain ⟨a, us, rfl, h1, h2⟩ := dp_tup h
    exact .inl ⟨a, us, rfl, .inr (sqT_same mask_le h1), by rw [h2.len]; exact w.here (.int _)⟩
  · rename_i z
    obtain ⟨v, rfl, h⟩ := dpAll1 hx
    cases h
    obtain ⟨e, w⟩ := WpE.when w
    exact .inr ⟨z, rfl, of_decide_eq_true e, w.here (.int _)⟩
  · exact w.elim
/-! list(..), tuple(..) -/
def gList : List D → R (List D) := fun ds => match ds with
  | [.list xs] => .ok xs
  | [.tuple xs] => .ok xs
  | _ => .bad
theorem dc_list : DCallN X (fun xs H Q => ∃ p ys, xs = [.ref p] ∧ (SqL X.K H p ys ∨ SqT X.K H p ys) ∧ ∀ l, H l = none → Q (.ref l) (upd H l (.lst ys))) gList := fun Y A H vs ds c hx Q w => by
  unfold gList at w
  split at w
  · obtain ⟨v, rfl, h⟩ := dpAll1 hx
    obtain ⟨a, us, rfl, h1, h2⟩ := dp_list h
    exact ⟨a, us, rfl, .inl (sqL_same mask_le h1), w.newly h2⟩
  · obtain ⟨v, rfl, h⟩ := dpAll1 hx
    obtain ⟨a, us, rfl, h1, h2⟩ := dp_tup h
    exact ⟨a, us, rfl, .inr (sqT_same mask_le h1), w.newly h2⟩
  · exact w.elim
def gTuple : List D → R D := fun ds => match ds with
  | [.list xs] => .ok (.tuple xs)
  | [.tuple xs] => .ok (.tuple xs)
  | _ => .bad
theorem dc_tuple : DCall X (fun xs H Q => ∃ p ys, xs = [.ref p] ∧ ((SqL X.K H p ys ∧ ∀ l, H l = none → Q (.ref l) (upd H l (.tup ys))) ∨ (SqT X.K H p ys ∧ Q (.ref p) H))) gTuple := fun Y A H vs ds c hx Q w => by
  unfold gTuple at w
  split at w
  · obtain ⟨v, rfl, h⟩ := dpAll1 hx
    obtain ⟨a, us, rfl, h1, h2⟩ := dp_list h
    exact ⟨a, us, rfl, .inl ⟨sqL_same mask_le h1, w.newT c h2⟩⟩
  · obtain ⟨v, rfl, h⟩ := dpAll1 hx
    obtain ⟨a, us, rfl, h1, h2⟩ := dp_tup h
    exact ⟨a, us, rfl, .inr ⟨sqT_same mask_le h1, w.here h⟩⟩
  · exact w.elim
/-! all, any of bools -/
def boolsD : List D → Option (List Bool)
  | [] => some []
  | .bool b :: ds => (boolsD ds).map fun bs => b :: bs
  | _ => none
theorem dp_bools {K : PySem.W.Frag} {H : Hp} : ∀ {ds : List D} {vs : List V} {bs : List Bool}, DpAll K H vs ds → boolsD ds = some bs → vs = bs.map V.bl
  | _, _, _, .nil, e => by cases e; rfl
  | d :: ds, _, bs, .cons h1 h2, e => by
    cases h1 with
    | bl b =>
      have e' : (boolsD ds).map (fun bs => b :: bs) = some bs := e
      cases q : boolsD ds with
      | none => rw [q] at e'; cases e'
      | some cs =>
        rw [q] at e'
        cases e'
        rw [dp_bools h2 q]; rfl
    | _ => cases e
def gAll : List D → R D := fun ds => match ds with
  | [.list xs] => match boolsD xs with
    | some bs => .ok (.bool (bs.all id))
    | none => .bad
  | _ => .bad
def gAny : List D → R D := fun ds => match ds with
  | [.list xs] => match boolsD xs with
    | some bs => .ok (.bool (bs.any id))
    | none => .bad
  | _ => .bad
theorem dc_all : DCall X (rAll X.K) gAll := fun Y A H vs ds c hx Q w => by
  unfold gAll at w
  split at w
  · rename_i xs
    obtain ⟨v, rfl, h⟩ := dpAll1 hx
    obtain ⟨a, us, rfl, h1, h2⟩ := dp_list h
    cases e : boolsD xs with
    | none => rw [e] at w; exact w.elim
    | some bs =>
      rw [e] at w
      have q := dp_bools h2 e
      subst q
      exact ⟨a, bs, rfl, sqL_same mask_le h1, WpE.here (d := .bool _) w (.bl _)⟩
  · exact w.elim
theorem dc_any : DCall X (rAny X.K) gAny := fun Y A H vs ds c hx Q w => by
  unfold gAny at w
  split at w
  · rename_i xs
    obtain ⟨v, rfl, h⟩ := dpAll1 hx
    obtain ⟨a, us, rfl, h1, h2⟩ := dp_list h
    cases e : boolsD xs with
    | none => rw [e] at w; exact w.elim
    | some bs =>
      rw [e] at w
      have q := dp_bools h2 e
      subst q
      exact ⟨a, bs, rfl, sqL_same mask_le h1, WpE.here (d := .bool _) w (.bl _)⟩
  · exact w.elim
/-! isinstance(x, T), T a built-in type -/
def tyD : D → String
  | .none => "NoneType"
  | .bool _ => "bool"
  | .int _ => "int"
  | .str _ => "str"
  | .list _ => "list"
  | .tuple _ => "tuple"
  | .dict _ => "dict"
theorem dp_ty {K : PySem.W.Frag} {H : Hp} {x : V} {d : D} (h : Dp K H x d) : TyX K H x (.type (tyD d)) := by
  cases h with
  | non => exact .base .non
  | bl b => exact .base (.bl b)
  | int i => exact .base (.int i)
  | str z => exact .base (.str z)
  | lst hs ha =>
    rcases hs with (h | ⟨o, h⟩) | ⟨o, its, n, h, c, _⟩
    · exact .base (.lst h)
    · exact .base (.frz h)
    · exact .kList h c
  | tup hs ha =>
    rcases hs with (h | ⟨o, h⟩) | ⟨o, its, n, h, c, _⟩
    · exact .base (.tup h)
    · exact .fTuple h
    · exact .kTuple h c
def gIs (T : String) : D → R D := fun d => match kitB (tyD d) T with
  | some b => .ok (.bool b)
  | none => .bad
theorem de_isi {y : Str} {p p' pos : Pos} {e : Expr} {m : DS → R D} {T : String} (hg : Gl X "isinstance") (hm : X.mg "isinstance" = none) (hgT : Gl X y) (hmT : X.mg y = none) (hv : bootBuiltins y = some (.type T)) (he : DE X Y e m)
    (hs : starEach (e :: [.Name y p']) X.env = (false, eval e X.env) :: starEach [.Name y p'] X.env := by rfl) (hn : y ≠ "__name__" := by decide) (hd : (y == ("__debug__" : Str)) = false := by decide) :
    DE X Y (.Call (.Name "isinstance" p) [e, .Name y p'] [] pos) (fun δ => (m δ).bind (gIs T)) := by
  obtain ⟨t, pe, q⟩ := he
  refine ⟨_, pe_callB call_isi hg hm (by decide +kernel) (pa_cons pe (pa_cons (pe_bltn (v := .ty T) hgT hmT hv rfl hn hd) pa_nil) hs) (by decide) (by decide) hs, fun σ δ H A c s Q w => de_seq (Y := Y) q c s w fun d v H1 t1 r1 w1 => ?_⟩
  unfold gIs at w1
  cases k : kitB (tyD d) T with
  | none => rw [k] at w1; exact w1.elim
  | some b =>
    rw [k] at w1
    exact ⟨v, .ty T, _, _, b, rfl, .ty T, dp_ty (Dp.same mask_le r1), kit_ty k, WpE.here (d := .bool b) w1 (.bl b)⟩
end
end L2
namespace L2
open PySem PySem.Spec PyProof.Rows
section
variable {X : Cx} {Y : Wy}
/-! ## tests -/
def boolD : D → R Bool
  | .bool b => .ok b
  | _ => .bad
def mB (m : DS → R D) : DS → R Bool := fun δ => (m δ).bind boolD
theorem WpT.here {Z : Wx} {H : Hp} {b : Bool} {Q : Bool → Hp → Prop} (w : WpT Z H (.ok b) Q) : Q b H := w H (Same.refl H)
/-- behind an expression, a test -/
theorem dt_seq {t : TE} {m : DS → R D} (h : ∀ (σ : St) (δ : DS) (H : Hp) (A : Addr → Prop), Cov A H → SR X.K A σ δ H → ∀ Q : VK, WpE X.K (Y.at σ) A H (m δ) Q → t σ H Q) {σ : St} {δ : DS} {H : Hp} {A : Addr → Prop} (c : Cov A H) (s : SR X.K A σ δ H)
    {f : D → R Bool} {P : VK} {Q : Bool → Hp → Prop} (w : WpT (Y.at σ) H ((m δ).bind f) Q) (k : ∀ d v H1, Same H H1 → Dp X.K (mask A H1) v d → WpT (Y.at σ) H1 (f d) Q → P v H1) : t σ H P := by
  refine h σ δ H A c s P ?_
  cases e : m δ with
  | bad => rw [e] at w; exact w
  | ex n => rw [e] at w; exact w
  | ok d =>
    rw [e] at w
    exact fun v H1 t q => k d v H1 t q (WpT.mono w t)
theorem wp_B {Z : Wx} {H : Hp} {d : D} {v : V} {K : PySem.W.Frag} {A : Addr → Prop} {Q : Bool → Hp → Prop} (r : Dp K (mask A H) v d) (w : WpT Z H (boolD d) Q) : ∃ k, v = .bl k ∧ Q k H := by
  cases r with
  | bl b => exact ⟨b, rfl, WpT.here w⟩
  | _ => exact w.elim
theorem dt_cmp {op : CmpOp} {r : R2} {g : D → D → R D} {a b : Expr} {pos : Pos} {ma mb : DS → R D} (ho : OpR X (compareOp op) r) (hr : DOp X r g) (ha : DE X Y a ma) (hb : DE X Y b mb) (hm : behindInMarks op b = false := by first | exact nobehind _ (by decide) (by decide) | rfl) :
    DT X Y (.Compare a [op] [b] pos) (mB (mBin g ma mb)) := by
  obtain ⟨ta, pa, qa⟩ := ha
  obtain ⟨tb, pb, qb⟩ := hb
  exact ⟨_, pt_cmpR ho pa pb hm, fun σ δ H A c s Q w => dt_seq (Y := Y) (de_opt (f := compareOp op) hr qa qb) c s w fun d v H1 t1 r1 w1 => wp_B r1 w1⟩
theorem dt_val {e : Expr} {m : DS → R D} (h : DE X Y e m) (he : ∀ whole, isTrue e X.env whole = (do let v ← whole; standAt e.pos; holding [v] (truthy v)) := by intro _; rfl) : DT X Y e (mB m) := by
  obtain ⟨t, p, q⟩ := h
  exact ⟨_, pt_val p he, fun σ δ H A c s Q w => dt_seq (Y := Y) q c s w fun d v H1 t1 r1 w1 => wp_B r1 w1⟩
/-! a value's truth, of any kind -/
def truD : D → R Bool
  | .none => .ok false
  | .bool b => .ok b
  | .int i => .ok (i != 0)
  | .str z => R.when (szOk z.length) (.ok (z.length != 0))
  | .list ds => .ok (!ds.isEmpty)
  | .tuple ds => .ok (!ds.isEmpty)
  | .dict _ => .bad
def mNot (m : DS → R Bool) : DS → R Bool := fun δ => (m δ).map (!·)
def mAnd (m n : DS → R Bool) : DS → R Bool := fun δ => (m δ).bind fun b => if b = true then n δ else .ok false
def mOr (m n : DS → R Bool) : DS → R Bool := fun δ => (m δ).bind fun b => if b = true then .ok true else n δ
theorem dt_not {a : Expr} {pos : Pos} {m : DS → R Bool} (h : DT X Y a m) : DT X Y (.UnaryOp .Not a pos) (mNot m) := by
  obtain ⟨t, p, q⟩ := h
  refine ⟨_, pt_not p, fun σ δ H A c s Q w => q σ δ H A c s _ ?_⟩
  unfold mNot at w
  cases e : m δ with
  | bad => rw [e] at w; exact w
  | ex n => rw [e] at w; exact w
  | ok b => rw [e] at w; exact w
theorem dw_one {op : BoolOp} {a : Expr} {pos : Pos} {m : DS → R Bool} (h : DT X Y a m) : DW X Y (.BoolOp op [a] pos) m := by
  obtain ⟨t, p, q⟩ := h
  cases op with
  | And => exact ⟨_, pw_and1 p, q⟩
  | Or => exact ⟨_, pw_or1 p, q⟩
theorem dt_bool_seq {t : TT} {m n : DS → R Bool} (h : ∀ (σ : St) (δ : DS) (H : Hp) (A : Addr → Prop), Cov A H → SR X.K A σ δ H → ∀ Q : Bool → Hp → Prop, WpT (Y.at σ) H (m δ) Q → t σ H Q) {σ : St} {δ : DS} {H : Hp} {A : Addr → Prop} (c : Cov A H) (s : SR X.K A σ δ H)
    {f : Bool → R Bool} {P Q : Bool → Hp → Prop} (w : WpT (Y.at σ) H ((m δ).bind f) Q) (k : ∀ b H1, Same H H1 → WpT (Y.at σ) H1 (f b) Q → P b H1) : t σ H P := by
  refine h σ δ H A c s P ?_
  cases e : m δ with
  | bad => rw [e] at w; exact w
  | ex n => rw [e] at w; exact w
  | ok d =>
    rw [e] at w
    exact fun H1 t => k d H1 t (WpT.mono w t)
theorem dw_and {a b : Expr} {rest : List Expr} {pos : Pos} {m n : DS → R Bool} (h : DT X Y a m) (h' : DW X Y (.BoolOp .And (b :: rest) pos) n) : DW X Y (.BoolOp .And (a :: b :: rest) pos) (mAnd m n) := by
  obtain ⟨t, p, q⟩ := h
  obtain ⟨u, p', q'⟩ := h'
  refine ⟨_, pw_and p p', fun σ δ H A c s Q w => dt_bool_seq (Y := Y) (n := n) q c s w fun k H1 t1 w1 => ?_⟩
  cases k with
  | true => exact q' σ δ H1 A (c.mono t1) (s.mono t1) Q w1
  | false => exact WpT.here w1
theorem dw_or {a b : Expr} {rest : List Expr} {pos : Pos} {m n : DS → R Bool} (h : DT X Y a m) (h' : DW X Y (.BoolOp .Or (b :: rest) pos) n) : DW X Y (.BoolOp .Or (a :: b :: rest) pos) (mOr m n) := by
  obtain ⟨t, p, q⟩ := h
  obtain ⟨u, p', q'⟩ := h'
  refine ⟨_, pw_or p p', fun σ δ H A c s Q w => dt_bool_seq (Y := Y) (n := n) q c s w fun k H1 t1 w1 => ?_⟩
  cases k with
  | false => exact q' σ δ H1 A (c.mono t1) (s.mono t1) Q w1
  | true => exact WpT.here w1
theorem dt_w {e : Expr} {m : DS → R Bool} (h : DW X Y e m) : DT X Y e m := by
  obtain ⟨t, p, q⟩ := h
  exact ⟨t, p.pt, q⟩
/-! and, or, not as values (of bools) -/
def mBV (m : DS → R Bool) : DS → R D := fun δ => (m δ).map .bool
def mAndE (ma mb : DS → R D) : DS → R D := fun δ => (ma δ).bind fun d => match d with
  | .bool true => mb δ
  | .bool false => .ok (.bool false)
  | _ => .bad
def mOrE (ma mb : DS → R D) : DS → R D := fun δ => (ma δ).bind fun d => match d with
  | .bool false => mb δ
  | .bool true => .ok (.bool true)
  | _ => .bad
def mNotE (ma : DS → R D) : DS → R D := fun δ => (ma δ).bind fun d => match d with
  | .bool b => .ok (.bool (!b))
  | _ => .bad
theorem de_one {op : BoolOp} {a : Expr} {pos : Pos} {m : DS → R D} (h : DE X Y a m) : DE X Y (.BoolOp op [a] pos) m := by
  obtain ⟨t, p, q⟩ := h
  exact ⟨t, pe_one p, q⟩
theorem de_and {a b : Expr} {rest : List Expr} {pos : Pos} {ma mb : DS → R D} (h : DE X Y a ma) (h' : DE X Y (.BoolOp .And (b :: rest) pos) mb) : DE X Y (.BoolOp .And (a :: b :: rest) pos) (mAndE ma mb) := by
  obtain ⟨t, p, q⟩ := h
  obtain ⟨u, p', q'⟩ := h'
  refine ⟨_, pe_and p p', fun σ δ H A c s Q w => de_seq (Y := Y) q c s w fun d v H1 t1 r1 w1 => ?_⟩
  cases r1 with
  | bl k =>
    cases k with
    | true => exact ⟨true, rfl, q' σ δ H1 A (c.mono t1) (s.mono t1) Q w1⟩
    | false => exact ⟨false, rfl, w1.here (.bl false)⟩
  | _ => exact w1.elim
theorem de_or {a b : Expr} {rest : List Expr} {pos : Pos} {ma mb : DS → R D} (h : DE X Y a ma) (h' : DE X Y (.BoolOp .Or (b :: rest) pos) mb) : DE X Y (.BoolOp .Or (a :: b :: rest) pos) (mOrE ma mb) := by
  obtain ⟨t, p, q⟩ := h
  obtain ⟨u, p', q'⟩ := h'
  refine ⟨_, pe_or p p', fun σ δ H A c s Q w => de_seq (Y := Y) q c s w fun d v H1 t1 r1 w1 => ?_⟩
  cases r1 with
  | bl k =>
    cases k with
    | false => exact ⟨false, rfl, q' σ δ H1 A (c.mono t1) (s.mono t1) Q w1⟩
    | true => exact ⟨true, rfl, w1.here (.bl true)⟩
  | _ => exact w1.elim
theorem de_not {a : Expr} {pos : Pos} {m : DS → R D} (h : DE X Y a m) : DE X Y (.UnaryOp .Not a pos) (mNotE m) := by
  obtain ⟨t, p, q⟩ := h
  refine ⟨_, pe_not p, fun σ δ H A c s Q w => de_seq (Y := Y) q c s w fun d v H1 t1 r1 w1 => ?_⟩
  cases r1 with
  | bl k => exact ⟨k, rfl, w1.here (.bl _)⟩
  | _ => exact w1.elim
def mIfE (mc : DS → R Bool) (ma mb : DS → R D) : DS → R D := fun δ => (mc δ).bind fun b => if b = true then ma δ else mb δ
theorem de_ifExp {cnd a b : Expr} {pos : Pos} {mc : DS → R Bool} {ma mb : DS → R D} (hc : DT X Y cnd mc) (ha : DE X Y a ma) (hb : DE X Y b mb) : DE X Y (.IfExp cnd a b pos) (mIfE mc ma mb) := by
  obtain ⟨tc, pc, qc⟩ := hc
  obtain ⟨ta, pa, qa⟩ := ha
  obtain ⟨tb, pb, qb⟩ := hb
  refine ⟨_, pe_ifExp pc pa pb, fun σ δ H A c s Q w => qc σ δ H A c s _ ?_⟩
  unfold mIfE at w
  cases e : mc δ with
  | bad => rw [e] at w; exact w
  | ex n => rw [e] at w; exact w
  | ok b =>
    rw [e] at w
    refine fun H1 t1 => ?_
    cases b with
    | true => exact qa σ δ H1 A (c.mono t1) (s.mono t1) Q (WpE.mono w t1)
    | false => exact qb σ δ H1 A (c.mono t1) (s.mono t1) Q (WpE.mono w t1)
def mNeg (ma : DS → R D) : DS → R D := fun δ => (ma δ).bind fun d => match d with
  | .int i => .ok (.int (-i))
  | _ => .bad
theorem de_neg {a : Expr} {pos : Pos} {m : DS → R D} (h : DE X Y a m) : DE X Y (.UnaryOp .USub a pos) (mNeg m) := by
  obtain ⟨t, p, q⟩ := h
  refine ⟨_, pe_un un_neg p, fun σ δ H A c s Q w => de_seq (Y := Y) q c s w fun d v H1 t1 r1 w1 => ?_⟩
  cases r1 with
  | int k => exact ⟨k, rfl, w1.here (.int _)⟩
  | _ => exact w1.elim
/-! ## slices -/
def DO (X : Cx) (Y : Wy) (e : Option Expr) (m : DS → R (Option Int)) : Prop :=
  ∃ t, PO X e t ∧ ∀ (σ : St) (δ : DS) (H : Hp) (A : Addr → Prop), Cov A H → SR X.K A σ δ H → ∀ Q : Option Int → Hp → Prop, (match m δ with
    | .ok o => ∀ H', Same H H' → Q o H'
    | _ => False) → t σ H Q
def mPart (m : DS → R D) : DS → R (Option Int) := fun δ => match m δ with
  | .ok (.int i) => .ok (some i)
  | _ => .bad
def mNoPart : DS → R (Option Int) := fun _ => .ok none
theorem do_none : DO X Y none mNoPart := ⟨_, po_none, fun σ δ H A c s Q w => w H (Same.refl H)⟩
theorem do_some {e : Expr} {m : DS → R D} (h : DE X Y e m) : DO X Y (some e) (mPart m) := by
  obtain ⟨t, p, q⟩ := h
  refine ⟨_, po_some p, fun σ δ H A c s Q w => q σ δ H A c s _ ?_⟩
  unfold mPart at w
  cases e : m δ with
  | bad => rw [e] at w; exact w
  | ex n => rw [e] at w; exact w.elim
  | ok d =>
    rw [e] at w
    cases d with
    | int i =>
      refine fun v H1 t1 r1 => ?_
      cases r1 with
      | int i => exact ⟨i, rfl, w H1 t1⟩
    | _ => exact w.elim
def cutD {α : Type} (xs : List α) (lo hi : Option Int) : List α := (xs.drop (HT.sIx xs.length 0 lo)).take (HT.sIx xs.length xs.length hi - HT.sIx xs.length 0 lo)
def R.opt {α : Type} : R α → Option α
  | .ok a => some a
  | _ => none
def gSlT : D → Option Int → Option Int → R D := fun d l h => match d with
  | .tuple ds => .ok (.tuple (cutD ds l h))
  | .str z => R.when (szOk z.length) (.ok (.str (cutS z l h)))
  | _ => .bad
def gSlL : D → Option Int → Option Int → R (List D) := fun d l h => match d with
  | .list ds => .ok (cutD ds l h)
  | _ => .bad
def mSlL (m : DS → R D) (ml mh : DS → R (Option Int)) : DS → R (List D) := fun δ => (m δ).bind fun d => match (ml δ).opt, (mh δ).opt with
  | some l, some h => gSlL d l h
  | _, _ => .bad
def mSlT (m : DS → R D) (ml mh : DS → R (Option Int)) : DS → R D := fun δ => (m δ).bind fun d => match (ml δ).opt, (mh δ).opt with
  | some l, some h => gSlT d l h
  | _, _ => .bad
theorem do_use {σ : St} {δ : DS} {H : Hp} {A : Addr → Prop} {m : DS → R (Option Int)} {t : TO} (q : ∀ (σ : St) (δ : DS) (H : Hp) (A : Addr → Prop), Cov A H → SR X.K A σ δ H → ∀ Q : Option Int → Hp → Prop, (match m δ with
    | .ok o => ∀ H', Same H H' → Q o H'
    | _ => False) → t σ H Q) (c : Cov A H) (s : SR X.K A σ δ H) {o : Option Int} (e : (m δ).opt = some o) {Q : Option Int → Hp → Prop} (k : ∀ H', Same H H' → Q o H') : t σ H Q := by
  refine q σ δ H A c s Q ?_
  cases e1 : m δ with
  | bad => rw [e1] at e; cases e
  | ex n => rw [e1] at e; cases e
  | ok a => rw [e1] at e; cases e; exact k
theorem dn_slice {e : Expr} {lo hi : Option Expr} {m : DS → R D} {ml mh : DS → R (Option Int)} {p2 pos : Pos} (he : DE X Y e m) (hl : DO X Y lo ml) (hh : DO X Y hi mh) : DN X Y (.Subscript e (.Slice lo hi none p2) pos) (mSlL m ml mh) := by
  obtain ⟨t, p, q⟩ := he
  obtain ⟨tl, pl, ql⟩ := hl
  obtain ⟨th, ph, qh⟩ := hh
  refine ⟨_, pe_slice sl_list p pl ph, fun σ δ H A c s Q w => q σ δ H A c s _ ?_⟩
  unfold mSlL at w
  cases e1 : m δ with
  | bad => rw [e1] at w; exact w
  | ex n => rw [e1] at w; exact w
  | ok d =>
    rw [e1] at w
    replace w : WpL X.K (Y.at σ) A H (match (ml δ).opt, (mh δ).opt with
      | some l, some h => gSlL d l h
      | _, _ => .bad) Q := w
    cases e2 : (ml δ).opt with
    | none => rw [e2] at w; exact w.elim
    | some l =>
      cases e3 : (mh δ).opt with
      | none => rw [e2, e3] at w; exact w.elim
      | some h =>
        rw [e2, e3] at w
        refine fun v H1 t1 r1 => do_use ql (c.mono t1) (s.mono t1) e2 fun H2 t2 => do_use qh ((c.mono t1).mono t2) ((s.mono t1).mono t2) e3 fun H3 t3 => ?_
        replace w : WpL X.K (Y.at σ) A H (gSlL d l h) Q := w
        cases d with
        | list ds =>
          obtain ⟨a, us, rfl, h1, h2⟩ := dp_list (Dp.same (Same.mask (t2.trans t3)) r1)
          refine ⟨a, us, rfl, sqL_same mask_le h1, (WpL.mono w ((t1.trans t2).trans t3)).newly ?_⟩
          unfold cutV cutD
          rw [h2.len]
          exact (h2.drop _).take _
        | _ => exact w.elim
theorem de_slice {e : Expr} {lo hi : Option Expr} {m : DS → R D} {ml mh : DS → R (Option Int)} {p2 pos : Pos} (he : DE X Y e m) (hl : DO X Y lo ml) (hh : DO X Y hi mh) : DE X Y (.Subscript e (.Slice lo hi none p2) pos) (mSlT m ml mh) := by
  obtain ⟨t, p, q⟩ := he
  obtain ⟨tl, pl, ql⟩ := hl
  obtain ⟨th, ph, qh⟩ := hh
  refine ⟨_, pe_slice (sl_tupA.or sl_str) p pl ph, fun σ δ H A c s Q w => q σ δ H A c s _ ?_⟩
  unfold mSlT at w
  cases e1 : m δ with
  | bad => rw [e1] at w; exact w
  | ex n => rw [e1] at w; exact w
  | ok d =>
    rw [e1] at w
    replace w : WpE X.K (Y.at σ) A H (match (ml δ).opt, (mh δ).opt with
      | some l, some h => gSlT d l h
      | _, _ => .bad) Q := w
    cases e2 : (ml δ).opt with
    | none => rw [e2] at w; exact w.elim
    | some l =>
      cases e3 : (mh δ).opt with
      | none => rw [e2, e3] at w; exact w.elim
      | some h =>
        rw [e2, e3] at w
        refine fun v H1 t1 r1 => do_use ql (c.mono t1) (s.mono t1) e2 fun H2 t2 => do_use qh ((c.mono t1).mono t2) ((s.mono t1).mono t2) e3 fun H3 t3 => ?_
        replace w : WpE X.K (Y.at σ) A H (gSlT d l h) Q := w
        have w3 := WpE.mono w ((t1.trans t2).trans t3)
        have c3 := ((c.mono t1).mono t2).mono t3
        cases d with
        | tuple ds =>
          obtain ⟨a, us, rfl, h1, h2⟩ := dp_tup (Dp.same (Same.mask (t2.trans t3)) r1)
          have key : DpAll X.K (mask A H3) (cutV us l h) (cutD ds l h) := by
            unfold cutV cutD
            rw [h2.len]
            exact (h2.drop _).take _
          have w4 : WpE X.K (Y.at σ) A H3 (.ok (.tuple (cutD ds l h))) Q := w3
          refine .inl ⟨a, us, rfl, sqT_same mask_le h1, ?_⟩
          refine ⟨fun e => ?_, fun e => w4.newT c3 key⟩
          have e5 : cutD ds l h = ds := by
            unfold cutD
            rw [h2.len] at e
            rw [e.1, e.2, List.drop_zero, Nat.sub_zero, List.take_length]
          rw [e5] at w4
          exact w4.here (.tup h1 h2)
        | str z =>
          cases r1 with
          | str z =>
          obtain ⟨ez, w4⟩ := WpE.when (r := .ok (.str (cutS z l h))) w3
          exact .inr ⟨z, rfl, of_decide_eq_true ez, w4.here (.str _)⟩
        | _ => exact w.elim
end
end L2
namespace L2
open PySem PySem.Spec PyProof.Rows
/-! ## statements -/
inductive Out where
  | nx (δ : DS)
  | rt (d : D)
  /-- a new list of one's own is handed back -/
  | rl (ds : List D)
  | bk (δ : DS)
  | ct (δ : DS)
  | ex (n : Nat) (δ : DS)
/-- a part's answer, within a statement at the slots δ -/
def R.run {α : Type} (r : R α) (δ : DS) (f : α → R Out) : R Out := match r with
  | .bad => .bad
  | .ex n => .ok (.ex n δ)
  | .ok a => f a
theorem R.run_ok {α : Type} {a : α} {δ : DS} {f : α → R Out} : (R.ok a).run δ f = f a := (rfl)
theorem R.run_bad {α : Type} {δ : DS} {f : α → R Out} : (R.bad : R α).run δ f = .bad := (rfl)
theorem R.run_ex {α : Type} {n : Nat} {δ : DS} {f : α → R Out} : (R.ex n : R α).run δ f = .ok (.ex n δ) := (rfl)
/-- a fact that stays while objects are only made -/
structure Tm where
  P : Hp → Prop
  mono : ∀ {H H' : Hp}, Same H H' → P H → P H'
/-- the state between statements. A0: what the callers hold open; O: the slots that own a list of their own; T: values held by loops around; H0: the heap at the entry -/
structure SS (K : PySem.W.Frag) (A0 : Addr → Prop) (O : List Nat) (T : List Tm) (H0 : Hp) (σ : St) (δ : DS) (H : Hp) : Prop where
  ex : ∃ w : Nat → Addr,
    (∀ (i : Nat) (d : D), i ∉ O → δ[i]? = some (some d) → ∃ v, σ[i]? = some (some v) ∧ Dp K (mask (fun a => A0 a ∨ ∃ j ∈ O, (∃ d, δ[j]? = some (some d)) ∧ a = w j) H) v d) ∧
    (∀ (i : Nat) (d : D), i ∈ O → δ[i]? = some (some d) → ∃ ds vs, d = .list ds ∧ σ[i]? = some (some (.ref (w i))) ∧ H (w i) = some (.lst vs) ∧ H0 (w i) = none ∧
      DpAll K (mask (fun a => A0 a ∨ ∃ j ∈ O, (∃ d, δ[j]? = some (some d)) ∧ a = w j) H) vs ds) ∧
    (∀ i j : Nat, i ∈ O → j ∈ O → (∃ d, δ[i]? = some (some d)) → (∃ d, δ[j]? = some (some d)) → w i = w j → i = j) ∧
    (∀ p ∈ T, p.P (mask (fun a => A0 a ∨ ∃ j ∈ O, (∃ d, δ[j]? = some (some d)) ∧ a = w j) H))
  len : σ.length = δ.length
  same : Same H0 H
  cov : Cov A0 H0
def WpS (K : PySem.W.Frag) (Y : Wy) (A0 : Addr → Prop) (O : List Nat) (T : List Tm) (H0 : Hp) (r : R Out) (Dn : Ends) : Prop :=
  match r with
  | .bad => False
  | .ex _ => False
  | .ok (.nx δ) => ∀ σ H', SS K A0 O T H0 σ δ H' → Dn.nx σ H'
  | .ok (.rt d) => ∀ v H', Same H0 H' → Dp K (mask A0 H') v d → Dn.rt v H'
  | .ok (.rl ds) => ∀ p vs H', Same H0 H' → H0 p = none → H' p = some (.lst vs) → DpAll K (mask (fun a => A0 a ∨ a = p) H') vs ds → Dn.rt (.ref p) H'
  | .ok (.bk δ) => ∀ σ H', SS K A0 O T H0 σ δ H' → Dn.bk σ H'
  | .ok (.ct δ) => ∀ σ H', SS K A0 O T H0 σ δ H' → Dn.ct σ H'
  | .ok (.ex n δ) => ∀ σ H', SS K A0 O T H0 σ δ H' → Y.E σ (Y.cv n) none H'
abbrev TSem (X : Cx) (Y : Wy) (O : List Nat) (t : TS) (m : DS → R Out) : Prop := ∀ (A0 : Addr → Prop) (T : List Tm) (H0 : Hp) (σ : St) (δ : DS) (H : Hp) (Dn : Ends), SS X.K A0 O T H0 σ δ H → WpS X.K Y A0 O T H0 (m δ) Dn → t Dn σ H
def DSt (X : Cx) (Y : Wy) (O : List Nat) (st : Stmt) (m : DS → R Out) : Prop := ∃ t, PS X st t ∧ TSem X Y O t m
def DSs (X : Cx) (Y : Wy) (O : List Nat) (st : List Stmt) (m : DS → R Out) : Prop := ∃ t, PSs X st t ∧ TSem X Y O t m
/-- the owned slots hidden -/
def hideF (O : List Nat) : Nat → DS → DS
  | _, [] => []
  | k, x :: xs => (if O.elem k = true then none else x) :: hideF O (k + 1) xs
def hideD (O : List Nat) (δ : DS) : DS := hideF O 0 δ
theorem hideF_get {O : List Nat} : ∀ {δ : DS} {k i : Nat} {d : D}, (hideF O k δ)[i]? = some (some d) → k + i ∉ O ∧ δ[i]? = some (some d)
  | [], _, _, _, h => by simp [hideF] at h
  | x :: xs, k, 0, d, h => by
    simp only [hideF, List.getElem?_cons_zero, Option.some.injEq] at h
    by_cases ho : O.elem k = true
    · rw [if_pos ho] at h; cases h
    · rw [if_neg ho] at h
      refine ⟨fun q => ho (List.elem_eq_true_of_mem q), ?_⟩
      rw [h]; rfl
  | x :: xs, k, i + 1, d, h => by
    simp only [hideF, List.getElem?_cons_succ] at h
    obtain ⟨a, b⟩ := hideF_get h
    exact ⟨by rw [show k + (i + 1) = k + 1 + i by omega]; exact a, b⟩
theorem hideF_len {O : List Nat} : ∀ {δ : DS} {k : Nat}, (hideF O k δ).length = δ.length
  | [], _ => rfl
  | x :: xs, k => by rw [hideF, List.length_cons, List.length_cons, hideF_len]
theorem hideD_get {O : List Nat} {δ : DS} {i : Nat} {d : D} (h : (hideD O δ)[i]? = some (some d)) : i ∉ O ∧ δ[i]? = some (some d) := by
  obtain ⟨a, b⟩ := hideF_get h
  exact ⟨by rw [Nat.zero_add] at a; exact a, b⟩
section
variable {K : PySem.W.Frag} {A0 : Addr → Prop} {O : List Nat} {T : List Tm} {H0 H H' : Hp} {σ : St} {δ : DS}
/-- reading: every slot is known, under what the callers hold -/
theorem SS.read (s : SS K A0 O T H0 σ δ H) : SR K A0 σ δ H := ⟨fun i d e => by
  obtain ⟨w, h1, h2, h3, h4⟩ := s.ex
  by_cases ho : i ∈ O
  · obtain ⟨ds, vs, rfl, e1, e2, e3, e4⟩ := h2 i d ho e
    have ha : ¬ A0 (w i) := fun q => s.cov _ q e3
    exact ⟨_, e1, .lst (SqL.of (mask_some.mpr ⟨ha, e2⟩)) (DpAll.same (mask_sub fun a q => .inl q) e4)⟩
  · obtain ⟨v, e1, e2⟩ := h1 i d ho e
    exact ⟨v, e1, Dp.same (mask_sub fun a q => .inl q) e2⟩, by rw [s.len]; exact Nat.le_refl _⟩
theorem SS.covH (s : SS K A0 O T H0 σ δ H) : Cov A0 H := s.cov.mono s.same
/-- what is held open here -/
def openA (A0 : Addr → Prop) (O : List Nat) (δ : DS) (w : Nat → Addr) : Addr → Prop := fun a => A0 a ∨ ∃ j ∈ O, (∃ d, δ[j]? = some (some d)) ∧ a = w j
/-- sharing: what is evaluated without the owned slots may be kept -/
theorem SS.share (s : SS K A0 O T H0 σ δ H) : ∃ w : Nat → Addr, Cov (openA A0 O δ w) H ∧ SR K (openA A0 O δ w) σ (hideD O δ) H ∧
    (∀ (i : Nat) (v : V) (d : D) (H' : Hp), i ∉ O → i < σ.length → Same H H' → Dp K (mask (openA A0 O δ w) H') v d → SS K A0 O T H0 (σ.set i (some v)) (δ.set i (some d)) H') ∧
    (∀ (H' : Hp), Same H H' → SS K A0 O T H0 σ δ H') ∧
    (∀ (p : Tm) (H' : Hp), Same H H' → p.P (mask (openA A0 O δ w) H') → SS K A0 O (p :: T) H0 σ δ H') ∧
    (∀ a, openA A0 O δ w a → A0 a ∨ ∃ xs, H a = some (.lst xs)) ∧
    (∀ (i : Nat) (p : Addr) (vs : List V) (ds : List D) (H' : Hp), i ∈ O → i < σ.length → Same H H' → H p = none → H' p = some (.lst vs) → DpAll K (mask (fun a => openA A0 O δ w a ∨ a = p) H') vs ds → SS K A0 O T H0 (σ.set i (some (.ref p))) (δ.set i (some (.list ds))) H') ∧
    (∀ (i : Nat) (ds es : List D) (us : List V) (H' : Hp), i ∈ O → δ[i]? = some (some (.list ds)) → Same H H' → DpAll K (mask (openA A0 O δ w) H') us es → σ[i]? = some (some (.ref (w i))) ∧ (∃ vs, H' (w i) = some (.lst vs) ∧ DpAll K (mask (openA A0 O δ w) H') vs ds) ∧
      SS K A0 O T H0 σ (δ.set i (some (.list es))) (upd H' (w i) (.lst us))) := by
  obtain ⟨w, h1, h2, h3, h4⟩ := s.ex
  have cv : Cov (openA A0 O δ w) H := fun a q e => by
    rcases q with q | ⟨j, jo, ⟨d, jd⟩, rfl⟩
    · exact s.covH a q e
    · obtain ⟨ds, vs, rfl, e1, e2, e3, e4⟩ := h2 j d jo jd
      rw [e2] at e; cases e
  have keep : ∀ (H' : Hp), Same H H' → SS K A0 O T H0 σ δ H' := fun H' t =>
    ⟨⟨w, fun i d ho e => (h1 i d ho e).imp fun v q => ⟨q.1, Dp.same (Same.mask t) q.2⟩, fun i d ho e => by
      obtain ⟨ds, vs, e0, e1, e2, e3, e4⟩ := h2 i d ho e
      exact ⟨ds, vs, e0, e1, t _ _ e2, e3, DpAll.same (Same.mask t) e4⟩, h3, fun p hp => p.mono (Same.mask t) (h4 p hp)⟩, s.len, s.same.trans t, s.cov⟩
  refine ⟨w, cv, ⟨fun i d e => ?_, by rw [s.len]; unfold hideD; rw [hideF_len]; exact Nat.le_refl _⟩, fun i v d H' ho hi t r => ?_, keep, fun tm H' t r => ?_, fun a q => ?_, fun i p vs ds H' ho hi t np hp ha => ?_, fun i ds es us H' ho hd t ha => ?_⟩
  · obtain ⟨ho, e'⟩ := hideD_get e
    exact h1 i d ho e'
  · -- a shared slot is set
    have hl : i < δ.length := by rw [← s.len]; exact hi
    have same : ∀ j ∈ O, (δ.set i (some d))[j]? = δ[j]? := fun j jo => List.getElem?_set_ne (fun e => ho (by rw [e]; exact jo))
    have oe : (fun a => A0 a ∨ ∃ j ∈ O, (∃ x, (δ.set i (some d))[j]? = some (some x)) ∧ a = w j) = openA A0 O δ w := by
      funext a
      unfold openA
      refine propext ⟨fun q => q.imp id fun ⟨j, jo, jd, e⟩ => ⟨j, jo, by rw [same j jo] at jd; exact jd, e⟩, fun q => q.imp id fun ⟨j, jo, jd, e⟩ => ⟨j, jo, by rw [same j jo]; exact jd, e⟩⟩
    refine ⟨⟨w, fun k x ko e => ?_, fun k x ko e => ?_, fun k j ko jo ke je => ?_, fun p hp => ?_⟩, by rw [List.length_set, List.length_set]; exact s.len, s.same.trans t, s.cov⟩
    · rw [oe]
      by_cases hk : i = k
      · subst hk
        rw [List.getElem?_set_self hl] at e
        rw [List.getElem?_set_self hi]
        cases e
        exact ⟨v, rfl, r⟩
      · rw [List.getElem?_set_ne hk] at e ⊢
        obtain ⟨u, q1, q2⟩ := h1 k x ko e
        exact ⟨u, q1, Dp.same (Same.mask t) q2⟩
    · rw [oe]
      have hk : i ≠ k := fun e => ho (e ▸ ko)
      rw [List.getElem?_set_ne hk] at e ⊢
      obtain ⟨ds, vs, e0, e1, e2, e3, e4⟩ := h2 k x ko e
      exact ⟨ds, vs, e0, e1, t _ _ e2, e3, DpAll.same (Same.mask t) e4⟩
    · rw [same k ko] at ke
      rw [same j jo] at je
      exact h3 k j ko jo ke je
    · rw [oe]
      exact p.mono (Same.mask t) (h4 p hp)
  · refine ⟨⟨w, (keep H' t).ex.elim fun _ _ => fun i d ho e => (h1 i d ho e).imp fun v q => ⟨q.1, Dp.same (Same.mask t) q.2⟩, fun i d ho e => by
      obtain ⟨ds, vs, e0, e1, e2, e3, e4⟩ := h2 i d ho e
      exact ⟨ds, vs, e0, e1, t _ _ e2, e3, DpAll.same (Same.mask t) e4⟩, h3, fun p hp => ?_⟩, s.len, s.same.trans t, s.cov⟩
    rcases List.mem_cons.mp hp with rfl | hp
    · exact r
    · exact p.mono (Same.mask t) (h4 p hp)
  · rcases q with q | ⟨j, jo, ⟨d, jd⟩, rfl⟩
    · exact .inl q
    · obtain ⟨ds, vs, rfl, e1, e2, e3, e4⟩ := h2 j d jo jd
      exact .inr ⟨vs, e2⟩
  · -- an owned slot takes a new list
    have hl : i < δ.length := by rw [← s.len]; exact hi
    let w' : Nat → Addr := fun j => if j = i then p else w j
    have wi : w' i = p := if_pos rfl
    have wj : ∀ j, j ≠ i → w' j = w j := fun j h => if_neg h
    have same : ∀ j, j ≠ i → (δ.set i (some (.list ds)))[j]? = δ[j]? := fun j h => List.getElem?_set_ne (fun e => h e.symm)
    have sub : ∀ a, (A0 a ∨ ∃ j ∈ O, (∃ x, (δ.set i (some (.list ds)))[j]? = some (some x)) ∧ a = w' j) → openA A0 O δ w a ∨ a = p := fun a q => by
      rcases q with q | ⟨j, jo, ⟨x, jd⟩, rfl⟩
      · exact .inl (.inl q)
      · by_cases hj : j = i
        · subst hj; exact .inr wi
        · rw [same j hj] at jd
          rw [wj j hj]
          exact .inl (.inr ⟨j, jo, ⟨x, jd⟩, rfl⟩)
    have upS : Same (mask (openA A0 O δ w) H) (mask (fun a => A0 a ∨ ∃ j ∈ O, (∃ x, (δ.set i (some (.list ds)))[j]? = some (some x)) ∧ a = w' j) H') := fun b o e => by
        rw [mask_some] at e ⊢
        refine ⟨fun z => ?_, t _ _ e.2⟩
        rcases sub b z with z | rfl
        · exact e.1 z
        · rw [np] at e; cases e.2
    refine ⟨⟨w', fun k x ko e => ?_, fun k x ko e => ?_, fun k j ko jo ke je ee => ?_, fun q hq => q.mono upS (h4 q hq)⟩, by rw [List.length_set, List.length_set]; exact s.len, s.same.trans t, s.cov⟩
    · have hk : k ≠ i := fun e => ko (e ▸ ho)
      rw [same k hk] at e
      rw [List.getElem?_set_ne (fun e => hk e.symm)]
      obtain ⟨u, q1, q2⟩ := h1 k x ko e
      exact ⟨u, q1, Dp.same upS q2⟩
    · by_cases hk : k = i
      · subst hk
        rw [List.getElem?_set_self hl] at e
        rw [List.getElem?_set_self hi, wi]
        cases e
        exact ⟨ds, vs, rfl, rfl, hp, Same.free s.same np, DpAll.same (mask_sub sub) ha⟩
      · rw [same k hk] at e
        rw [List.getElem?_set_ne (fun e => hk e.symm), wj k hk]
        obtain ⟨ds, vs, e0, e1, e2, e3, e4⟩ := h2 k x ko e
        exact ⟨ds, vs, e0, e1, t _ _ e2, e3, DpAll.same upS e4⟩
    · have nop : ∀ k, k ∈ O → k ≠ i → (∃ d, δ[k]? = some (some d)) → w k ≠ p := fun k ko hk ⟨d, kd⟩ z => by
        obtain ⟨ds, vs, e0, e1, e2, e3, e4⟩ := h2 k d ko kd
        rw [z, np] at e2; cases e2
      by_cases hk : k = i
      · by_cases hj : j = i
        · rw [hk, hj]
        · rw [hk, wi, wj j hj] at ee
          rw [same j hj] at je
          exact absurd ee.symm (nop j jo hj je)
      · by_cases hj : j = i
        · rw [hj, wi, wj k hk] at ee
          rw [same k hk] at ke
          exact absurd ee (nop k ko hk ke)
        · rw [wj k hk, wj j hj] at ee
          rw [same k hk] at ke
          rw [same j hj] at je
          exact h3 k j ko jo ke je ee
  · -- an owned list is changed
    obtain ⟨ds', vs, e0, e1, e2, e3, e4⟩ := h2 i _ ho hd
    cases e0
    have hl : i < δ.length := by
      cases Nat.lt_or_ge i δ.length with
      | inl h => exact h
      | inr h => rw [List.getElem?_eq_none h] at hd; cases hd
    refine ⟨e1, ⟨vs, t _ _ e2, DpAll.same (Same.mask t) e4⟩, ?_⟩
    have some_iff : ∀ j, (∃ x, (δ.set i (some (.list es)))[j]? = some (some x)) ↔ ∃ x, δ[j]? = some (some x) := fun j => by
      by_cases hj : i = j
      · subst hj
        exact ⟨fun _ => ⟨_, hd⟩, fun _ => ⟨_, List.getElem?_set_self hl⟩⟩
      · have e5 : (δ.set i (some (.list es)))[j]? = δ[j]? := List.getElem?_set_ne hj
        exact ⟨fun ⟨x, q⟩ => ⟨x, e5.symm.trans q⟩, fun ⟨x, q⟩ => ⟨x, e5.trans q⟩⟩
    have oe : (fun a => A0 a ∨ ∃ j ∈ O, (∃ x, (δ.set i (some (.list es)))[j]? = some (some x)) ∧ a = w j) = openA A0 O δ w := by
      funext a
      unfold openA
      refine propext ⟨fun q => q.imp id fun ⟨j, jo, jd, e⟩ => ⟨j, jo, (some_iff j).mp jd, e⟩, fun q => q.imp id fun ⟨j, jo, jd, e⟩ => ⟨j, jo, (some_iff j).mpr jd, e⟩⟩
    have hw : openA A0 O δ w (w i) := .inr ⟨i, ho, ⟨_, hd⟩, rfl⟩
    have mk : ∀ {G : Hp}, Same (mask (openA A0 O δ w) G) (mask (openA A0 O δ w) (upd G (w i) (.lst us))) := fun {G} b o e => by
      rw [mask_some] at e ⊢
      refine ⟨e.1, ?_⟩
      rw [upd_ne (fun z => e.1 (by rw [z]; exact hw))]
      exact e.2
    refine ⟨⟨w, fun k x ko e => ?_, fun k x ko e => ?_, fun k j ko jo ke je => h3 k j ko jo ((some_iff k).mp ke) ((some_iff j).mp je), fun p hp => ?_⟩, by rw [List.length_set]; exact s.len, same_mut (s.same.trans t) e3, s.cov⟩
    · rw [oe]
      have hk : i ≠ k := fun e => ko (e ▸ ho)
      rw [List.getElem?_set_ne hk] at e
      obtain ⟨u, q1, q2⟩ := h1 k x ko e
      exact ⟨u, q1, Dp.same ((Same.mask t).trans mk) q2⟩
    · rw [oe]
      by_cases hk : i = k
      · subst hk
        rw [List.getElem?_set_self hl] at e
        cases e
        exact ⟨es, us, rfl, e1, upd_same, e3, DpAll.same mk ha⟩
      · rw [List.getElem?_set_ne hk] at e
        obtain ⟨ds2, vs2, f0, f1, f2, f3, f4⟩ := h2 k x ko e
        have nk : w k ≠ w i := fun z => hk (h3 k i ko ho ⟨x, e⟩ ⟨_, hd⟩ z).symm
        exact ⟨ds2, vs2, f0, f1, by rw [upd_ne nk]; exact t _ _ f2, f3, DpAll.same ((Same.mask t).trans mk) f4⟩
    · rw [oe]
      exact p.mono ((Same.mask t).trans mk) (h4 p hp)
theorem SS.keep (s : SS K A0 O T H0 σ δ H) (t : Same H H') : SS K A0 O T H0 σ δ H' := by
  obtain ⟨w, _, _, _, k, _⟩ := s.share
  exact k H' t
end
end L2
namespace L2
open PySem PySem.Spec PyProof.Rows
section
variable {X : Cx} {Y : Wy} {O : List Nat}
/-! ### rows -/
def mSeq (m n : DS → R Out) : DS → R Out := fun δ => (m δ).bind fun o => match o with
  | .nx δ' => n δ'
  | o => .ok o
def mSkip : DS → R Out := fun δ => .ok (.nx δ)
theorem dss_nil : DSs X Y O [] mSkip := ⟨_, pss_nil, fun A0 T H0 σ δ H Dn s w => w σ H s⟩
theorem tsem_seq {t u : TS} {m n : DS → R Out} (h : TSem X Y O t m) (h' : TSem X Y O u n) : TSem X Y O (tSeq t u) (mSeq m n) := fun A0 T H0 σ δ H Dn s w => by
  refine h A0 T H0 σ δ H _ s ?_
  unfold mSeq at w
  cases e : m δ with
  | bad => rw [e] at w; exact w
  | ex k => rw [e] at w; exact w
  | ok o =>
    rw [e] at w
    cases o with
    | nx δ' => exact fun σ' H' s' => h' A0 T H0 σ' δ' H' Dn s' w
    | rt d => exact w
    | rl d => exact w
    | bk δ' => exact w
    | ct δ' => exact w
    | ex n δ' => exact w
theorem dss_cons {st : Stmt} {rest : List Stmt} {m n : DS → R Out} (h : DSt X Y O st m) (h' : DSs X Y O rest n) : DSs X Y O (st :: rest) (mSeq m n) := by
  obtain ⟨t, p, q⟩ := h
  obtain ⟨u, p', q'⟩ := h'
  exact ⟨_, pss_cons p p', tsem_seq q q'⟩
theorem dss_one {st : Stmt} {m : DS → R Out} (h : DSt X Y O st m) : DSs X Y O [st] m := by
  obtain ⟨t, p, q⟩ := h
  exact ⟨_, pss_one p, q⟩
/-! ### name = e -/
def inB (i : Nat) (δ : DS) : Bool := decide (i < δ.length)
def mSet (O : List Nat) (i : Nat) (m : DS → R D) : DS → R Out := fun δ => (m (hideD O δ)).run δ fun d => R.when (inB i δ) (.ok (.nx (δ.set i (some d))))
theorem tsem_set {te : TE} {m : DS → R D} {i : Nat} (ho : i ∉ O) (q : ∀ (σ : St) (δ : DS) (H : Hp) (A : Addr → Prop), Cov A H → SR X.K A σ δ H → ∀ Q : VK, WpE X.K (Y.at σ) A H (m δ) Q → te σ H Q) : TSem X Y O (tAsg te (gName i)) (mSet O i m) := fun A0 T H0 σ δ H Dn s w => by
  obtain ⟨w0, cv, sr, up, kp, _⟩ := s.share
  refine q σ (hideD O δ) H _ cv sr _ ?_
  unfold mSet at w
  cases e : m (hideD O δ) with
  | bad => rw [e] at w; exact w
  | ex k => rw [e] at w; exact fun H' t => w σ H' (s.keep t)
  | ok d =>
    rw [e] at w
    obtain ⟨hb, w⟩ := R.when_ok (fun r => WpS X.K Y A0 O T H0 r Dn) w id
    exact fun v H' t r => w _ H' (up i v d H' ho (by rw [s.len]; exact of_decide_eq_true hb) t r)
theorem ds_set {i : Nat} {x : Str} {e : Expr} {m : DS → R D} {pos pos' : Pos} (hN : X.N.Nodup) (hi : X.N[i]? = some x) (hx : Loc X.env.scope x) (he : DE X Y e m) (ho : i ∉ O := by decide) (hs : swapsWith e (some (.Name x pos')) pos.line X.env = pure false := by rfl) (hf : X.fn x = true ∨ X.env.scope.names.lookup x = some .local := by first | exact .inl rfl | exact .inr rfl | assumption) :
    DSt X Y O (.Assign [.Name x pos'] e pos) (mSet O i m) := by
  obtain ⟨t, p, q⟩ := he
  exact ⟨_, ps_set hN hi hx p hs hf, tsem_set ho q⟩
/-- the same, read with the owned slots: the value holds no list -/
def mSetI (i : Nat) (m : DS → R D) : DS → R Out := fun δ => (m δ).run δ fun d => R.when (inB i δ && imm d) (.ok (.nx (δ.set i (some d))))
theorem tsem_setI {te : TE} {m : DS → R D} {i : Nat} (ho : i ∉ O) (q : ∀ (σ : St) (δ : DS) (H : Hp) (A : Addr → Prop), Cov A H → SR X.K A σ δ H → ∀ Q : VK, WpE X.K (Y.at σ) A H (m δ) Q → te σ H Q) : TSem X Y O (tAsg te (gName i)) (mSetI i m) := fun A0 T H0 σ δ H Dn s w => by
  refine q σ δ H _ s.covH s.read _ ?_
  unfold mSetI at w
  cases e : m δ with
  | bad => rw [e] at w; exact w
  | ex k => rw [e] at w; exact fun H' t => w σ H' (s.keep t)
  | ok d =>
    rw [e] at w
    obtain ⟨hb, w⟩ := R.when_ok (fun r => WpS X.K Y A0 O T H0 r Dn) w id
    rw [Bool.and_eq_true] at hb
    refine fun v H' t r => w _ H' ?_
    obtain ⟨w0, cv, sr, up, kp, _, lst, _⟩ := (s.keep t).share
    exact up i v d H' ho (by rw [s.len]; exact of_decide_eq_true hb.1) (Same.refl H') (Dp.tsame (tsame_mask2 lst) hb.2 r)
theorem ds_setI {i : Nat} {x : Str} {e : Expr} {m : DS → R D} {pos pos' : Pos} (hN : X.N.Nodup) (hi : X.N[i]? = some x) (hx : Loc X.env.scope x) (he : DE X Y e m) (ho : i ∉ O := by decide) (hs : swapsWith e (some (.Name x pos')) pos.line X.env = pure false := by rfl) (hf : X.fn x = true ∨ X.env.scope.names.lookup x = some .local := by first | exact .inl rfl | exact .inr rfl | assumption) :
    DSt X Y O (.Assign [.Name x pos'] e pos) (mSetI i m) := by
  obtain ⟨t, p, q⟩ := he
  exact ⟨_, ps_set hN hi hx p hs hf, tsem_setI ho q⟩
/-- an owned slot takes a new list -/
def mOwn (O : List Nat) (i : Nat) (m : DS → R (List D)) : DS → R Out := fun δ => (m (hideD O δ)).run δ fun ds => R.when (inB i δ) (.ok (.nx (δ.set i (some (.list ds)))))
def mOwnI (i : Nat) (m : DS → R (List D)) : DS → R Out := fun δ => (m δ).run δ fun ds => R.when (inB i δ && imms ds) (.ok (.nx (δ.set i (some (.list ds)))))
theorem tsem_own {te : TE} {m : DS → R (List D)} {i : Nat} (ho : i ∈ O) (q : ∀ (σ : St) (δ : DS) (H : Hp) (A : Addr → Prop), Cov A H → SR X.K A σ δ H → ∀ Q : VK, WpL X.K (Y.at σ) A H (m δ) Q → te σ H Q) : TSem X Y O (tAsg te (gName i)) (mOwn O i m) := fun A0 T H0 σ δ H Dn s w => by
  obtain ⟨w0, cv, sr, up, kp, tm, lst, own, _⟩ := s.share
  refine q σ (hideD O δ) H _ cv sr _ ?_
  unfold mOwn at w
  cases e : m (hideD O δ) with
  | bad => rw [e] at w; exact w
  | ex k => rw [e] at w; exact fun H' t => w σ H' (s.keep t)
  | ok ds =>
    rw [e] at w
    obtain ⟨hb, w⟩ := R.when_ok (fun r => WpS X.K Y A0 O T H0 r Dn) w id
    exact fun p vs H' t np hp r => w _ H' (own i p vs ds H' ho (by rw [s.len]; exact of_decide_eq_true hb) t np hp r)
theorem tsem_ownI {te : TE} {m : DS → R (List D)} {i : Nat} (ho : i ∈ O) (q : ∀ (σ : St) (δ : DS) (H : Hp) (A : Addr → Prop), Cov A H → SR X.K A σ δ H → ∀ Q : VK, WpL X.K (Y.at σ) A H (m δ) Q → te σ H Q) : TSem X Y O (tAsg te (gName i)) (mOwnI i m) := fun A0 T H0 σ δ H Dn s w => by
  refine q σ δ H _ s.covH s.read _ ?_
  unfold mOwnI at w
  cases e : m δ with
  | bad => rw [e] at w; exact w
  | ex k => rw [e] at w; exact fun H' t => w σ H' (s.keep t)
  | ok ds =>
    rw [e] at w
    obtain ⟨hb, w⟩ := R.when_ok (fun r => WpS X.K Y A0 O T H0 r Dn) w id
    rw [Bool.and_eq_true] at hb
    refine fun p vs H' t np hp r => w _ H' ?_
    obtain ⟨w0, cv, sr, up, kp, tm, lst, own, _⟩ := s.share
    refine own i p vs ds H' ho (by rw [s.len]; exact of_decide_eq_true hb.1) t np hp (DpAll.tsame (tsame_mask2 fun a q => ?_) hb.2 r)
    rcases q with q | rfl
    · rcases lst a q with q | ⟨xs, q⟩
      · exact .inl (.inl q)
      · exact .inr ⟨xs, t _ _ q⟩
    · exact .inl (.inr rfl)
theorem ds_own {i : Nat} {x : Str} {e : Expr} {m : DS → R (List D)} {pos pos' : Pos} (hN : X.N.Nodup) (hi : X.N[i]? = some x) (hx : Loc X.env.scope x) (he : DN X Y e m) (ho : i ∈ O := by decide) (hs : swapsWith e (some (.Name x pos')) pos.line X.env = pure false := by rfl) (hf : X.fn x = true ∨ X.env.scope.names.lookup x = some .local := by first | exact .inl rfl | exact .inr rfl | assumption) :
    DSt X Y O (.Assign [.Name x pos'] e pos) (mOwn O i m) := by
  obtain ⟨t, p, q⟩ := he
  exact ⟨_, ps_set hN hi hx p hs hf, tsem_own ho q⟩
theorem ds_ownI {i : Nat} {x : Str} {e : Expr} {m : DS → R (List D)} {pos pos' : Pos} (hN : X.N.Nodup) (hi : X.N[i]? = some x) (hx : Loc X.env.scope x) (he : DN X Y e m) (ho : i ∈ O := by decide) (hs : swapsWith e (some (.Name x pos')) pos.line X.env = pure false := by rfl) (hf : X.fn x = true ∨ X.env.scope.names.lookup x = some .local := by first | exact .inl rfl | exact .inr rfl | assumption) :
    DSt X Y O (.Assign [.Name x pos'] e pos) (mOwnI i m) := by
  obtain ⟨t, p, q⟩ := he
  exact ⟨_, ps_set hN hi hx p hs hf, tsem_ownI ho q⟩
def ownedL (i : Nat) (δ : DS) : R (List D) := match δ[i]? with
  | some (some (.list ds)) => .ok ds
  | _ => .bad
theorem ownedL_ok {i : Nat} {δ : DS} {ds : List D} (h : ownedL i δ = .ok ds) : δ[i]? = some (some (.list ds)) := by
  unfold ownedL at h
  split at h
  · rename_i ds' e; cases h; exact e
  · cases h
/-! ### return, an expression alone, pass, break, continue -/
def mRet (m : DS → R D) : DS → R Out := fun δ => (m δ).run δ fun d => .ok (.rt d)
theorem ds_ret {e : Expr} {m : DS → R D} {pos : Pos} (he : DE X Y e m) : DSt X Y O (.Return (some e) pos) (mRet m) := by
  obtain ⟨t, p, q⟩ := he
  refine ⟨_, ps_ret p, fun A0 T H0 σ δ H Dn s w => q σ δ H A0 s.covH s.read _ ?_⟩
  unfold mRet at w
  cases e : m δ with
  | bad => rw [e] at w; exact w
  | ex k => rw [e] at w; exact fun H' t => w σ H' (s.keep t)
  | ok d => rw [e] at w; exact fun v H' t r => w v H' (s.same.trans t) r
/-- return of a new list: an owned slot, or an expression that makes one -/
def mRetO (i : Nat) : DS → R Out := fun δ => (ownedL i δ).map .rl
def mRetL (m : DS → R (List D)) : DS → R Out := fun δ => (m δ).run δ fun d => .ok (.rl d)
theorem ds_retL {e : Expr} {m : DS → R (List D)} {pos : Pos} (he : DN X Y e m) : DSt X Y O (.Return (some e) pos) (mRetL m) := by
  obtain ⟨t, p, q⟩ := he
  refine ⟨_, ps_ret p, fun A0 T H0 σ δ H Dn s w => q σ δ H A0 s.covH s.read _ ?_⟩
  unfold mRetL at w
  cases e : m δ with
  | bad => rw [e] at w; exact w
  | ex k => rw [e] at w; exact fun H' t => w σ H' (s.keep t)
  | ok d => rw [e] at w; exact fun p vs H' t np hp r => w p vs H' (s.same.trans t) (Same.free s.same np) hp r
theorem ds_retO {i : Nat} {x : Str} {pos pos' : Pos} (hi : X.N[i]? = some x) (hv : Vis X.env.scope x) (ho : i ∈ O := by decide) (hd : (x == ("__debug__" : Str)) = false := by decide) (hcd : (x == ("__classdict__" : Str)) = false := by decide) : DSt X Y O (.Return (some (.Name x pos)) pos') (mRetO i) := by
  refine ⟨_, ps_ret (pe_var hi hv hd hcd), fun A0 T H0 σ δ H Dn s w => ?_⟩
  unfold mRetO at w
  cases e0 : ownedL i δ with
  | bad => rw [e0] at w; exact w.elim
  | ex k => unfold ownedL at e0; split at e0 <;> cases e0
  | ok ds =>
    rw [e0] at w
    have ei := ownedL_ok e0
    obtain ⟨w0, h1, h2, h3, h4⟩ := s.ex
    obtain ⟨ds', vs, e1, e2, e3, e4, e5⟩ := h2 i _ ho ei
    cases e1
    exact ⟨_, e2, w _ vs H s.same e4 e3 (DpAll.same (mask_sub fun a q => by
      rcases q with q | rfl
      · exact .inl q
      · exact .inr ⟨i, ho, ⟨_, ei⟩, rfl⟩) e5)⟩
def mDrop (m : DS → R D) : DS → R Out := fun δ => (m δ).run δ fun _ => .ok (.nx δ)
theorem ds_expr {e : Expr} {m : DS → R D} {pos : Pos} (he : DE X Y e m) (hs : swapsWith e none pos.line X.env = pure false := by rfl) : DSt X Y O (.Expr e pos) (mDrop m) := by
  obtain ⟨t, p, q⟩ := he
  refine ⟨_, ps_expr p hs, fun A0 T H0 σ δ H Dn s w => q σ δ H A0 s.covH s.read _ ?_⟩
  unfold mDrop at w
  cases e : m δ with
  | bad => rw [e] at w; exact w
  | ex k => rw [e] at w; exact fun H' t => w σ H' (s.keep t)
  | ok d => rw [e] at w; exact fun v H' t r => w σ H' (s.keep t)
/-! ### if -/
def mIf (mc : DS → R Bool) (m n : DS → R Out) : DS → R Out := fun δ => (mc δ).run δ fun b => if b = true then m δ else n δ
theorem ds_if {c : Expr} {a b : List Stmt} {mc : DS → R Bool} {m n : DS → R Out} {pos : Pos} (hc : DT X Y c mc) (ha : DSs X Y O a m) (hb : DSs X Y O b n) : DSt X Y O (.If c a b pos) (mIf mc m n) := by
  obtain ⟨tc, pc, qc⟩ := hc
  obtain ⟨ta, pa, qa⟩ := ha
  obtain ⟨tb, pb, qb⟩ := hb
  refine ⟨_, ps_if pc pa pb, fun A0 T H0 σ δ H Dn s w => qc σ δ H A0 s.covH s.read _ ?_⟩
  unfold mIf at w
  cases e : mc δ with
  | bad => rw [e] at w; exact w
  | ex k => rw [e] at w; exact fun H' t => w σ H' (s.keep t)
  | ok k =>
    rw [e] at w
    refine fun H' t => ?_
    cases k with
    | true => exact qa A0 T H0 σ δ H' Dn (s.keep t) w
    | false => exact qb A0 T H0 σ δ H' Dn (s.keep t) w
/-! ### x.append(e), x an owned slot -/
def ltOk (n : Nat) : Bool := decide (n < sizeLine)
def mApp (O : List Nat) (i : Nat) (m : DS → R D) : DS → R Out := fun δ => (ownedL i δ).bind fun ds => (m (hideD O δ)).run δ fun d => R.when (ltOk ds.length) (.ok (.nx (δ.set i (some (.list (ds ++ [d]))))))
def mAppI (i : Nat) (m : DS → R D) : DS → R Out := fun δ => (ownedL i δ).bind fun ds => (m δ).run δ fun d => R.when (ltOk ds.length && imm d) (.ok (.nx (δ.set i (some (.list (ds ++ [d]))))))
theorem ds_app {i : Nat} {x : Str} {e : Expr} {m : DS → R D} {px apos cpos pos : Pos} (hi : X.N[i]? = some x) (hv : Vis X.env.scope x) (he : DE X Y e m) (ho : i ∈ O := by decide) (hd : (x == ("__debug__" : Str)) = false := by decide) (hcd : (x == ("__classdict__" : Str)) = false := by decide)
    (hbase : attributeBase (.Name x px) "append" X.env (eval (.Name x px) X.env) = eval (.Name x px) X.env := by rfl)
    (hfew : ((backTo cpos (starEach [e] X.env)).all (fun x => !x.1) && (backToKw cpos (keywordEach [] X.env)).all (fun x => x.1.isSome)
      && decide (([e] : List Expr).length + ([] : List Keyword).length + (if ([] : List Keyword).isEmpty then 0 else 1) < 30)) = true := by rfl)
    (hline : (apos.endLine == cpos.line) = true := by rfl) (hs : starEach [e] X.env = (false, eval e X.env) :: starEach [] X.env := by rfl) (hsw : swapsWith (.Call (.Attribute (.Name x px) "append" apos) [e] [] cpos) none pos.line X.env = pure false := by rfl) :
    DSt X Y O (.Expr (.Call (.Attribute (.Name x px) "append" apos) [e] [] cpos) pos) (mApp O i m) := by
  obtain ⟨t, p, q⟩ := he
  refine ⟨_, ps_expr (pe_bm PySem.F.plainAttrs_list PySem.F.slot_list_append PySem.F.type_list_append mt_append (pe_var hi hv hd hcd) (pa_cons p pa_nil hs) hbase hfew hline hs) hsw, fun A0 T H0 σ δ H Dn s w => ?_⟩
  unfold mApp at w
  cases e0 : ownedL i δ with
  | bad => rw [e0] at w; exact w.elim
  | ex k => unfold ownedL at e0; split at e0 <;> cases e0
  | ok ds =>
    rw [e0] at w
    have ei := ownedL_ok e0
    obtain ⟨w0, cv, sr, up, kp, tm, lst, own, mt⟩ := s.share
    obtain ⟨e1, ⟨vs0, e2, e3⟩, _⟩ := mt i ds [] [] H ho ei (Same.refl H) .nil
    refine ⟨_, e1, .inl ⟨rfl, vs0, .inl (.inl e2)⟩, ?_⟩
    refine q σ (hideD O δ) H _ cv sr _ ?_
    replace w : WpS X.K Y A0 O T H0 ((m (hideD O δ)).run δ fun d => R.when (ltOk ds.length) (.ok (.nx (δ.set i (some (.list (ds ++ [d]))))))) Dn := w
    cases em : m (hideD O δ) with
    | bad => rw [em] at w; exact w
    | ex k => rw [em] at w; exact fun H' t => w σ H' (s.keep t)
    | ok d =>
      rw [em] at w
      obtain ⟨hb, w⟩ := R.when_ok (fun r => WpS X.K Y A0 O T H0 r Dn) w id
      refine fun v H1 t1 r1 => ?_
      obtain ⟨_, ⟨vs, f2, f3⟩, _⟩ := mt i ds [] [] H1 ho ei t1 .nil
      obtain ⟨_, _, fin⟩ := mt i ds (ds ++ [d]) (vs ++ [v]) H1 ho ei t1 (f3.app (.cons r1 .nil))
      exact ⟨_, vs, v, rfl, rfl, f2, by rw [f3.len]; exact of_decide_eq_true hb, w _ _ fin⟩
theorem ds_appI {i : Nat} {x : Str} {e : Expr} {m : DS → R D} {px apos cpos pos : Pos} (hi : X.N[i]? = some x) (hv : Vis X.env.scope x) (he : DE X Y e m) (ho : i ∈ O := by decide) (hd : (x == ("__debug__" : Str)) = false := by decide) (hcd : (x == ("__classdict__" : Str)) = false := by decide)
    (hbase : attributeBase (.Name x px) "append" X.env (eval (.Name x px) X.env) = eval (.Name x px) X.env := by rfl)
    (hfew : ((backTo cpos (starEach [e] X.env)).all (fun x => !x.1) && (backToKw cpos (keywordEach [] X.env)).all (fun x => x.1.isSome)
      && decide (([e] : List Expr).length + ([] : List Keyword).length + (if ([] : List Keyword).isEmpty then 0 else 1) < 30)) = true := by rfl)
    (hline : (apos.endLine == cpos.line) = true := by rfl) (hs : starEach [e] X.env = (false, eval e X.env) :: starEach [] X.env := by rfl) (hsw : swapsWith (.Call (.Attribute (.Name x px) "append" apos) [e] [] cpos) none pos.line X.env = pure false := by rfl) :
    DSt X Y O (.Expr (.Call (.Attribute (.Name x px) "append" apos) [e] [] cpos) pos) (mAppI i m) := by
  obtain ⟨t, p, q⟩ := he
  refine ⟨_, ps_expr (pe_bm PySem.F.plainAttrs_list PySem.F.slot_list_append PySem.F.type_list_append mt_append (pe_var hi hv hd hcd) (pa_cons p pa_nil hs) hbase hfew hline hs) hsw, fun A0 T H0 σ δ H Dn s w => ?_⟩
  unfold mAppI at w
  cases e0 : ownedL i δ with
  | bad => rw [e0] at w; exact w.elim
  | ex k => unfold ownedL at e0; split at e0 <;> cases e0
  | ok ds =>
    rw [e0] at w
    have ei := ownedL_ok e0
    obtain ⟨w0, cv, sr, up, kp, tm, lst, own, mt⟩ := s.share
    obtain ⟨e1, ⟨vs0, e2, e3⟩, _⟩ := mt i ds [] [] H ho ei (Same.refl H) .nil
    refine ⟨_, e1, .inl ⟨rfl, vs0, .inl (.inl e2)⟩, ?_⟩
    refine q σ δ H _ s.covH s.read _ ?_
    replace w : WpS X.K Y A0 O T H0 ((m δ).run δ fun d => R.when (ltOk ds.length && imm d) (.ok (.nx (δ.set i (some (.list (ds ++ [d]))))))) Dn := w
    cases em : m δ with
    | bad => rw [em] at w; exact w
    | ex k => rw [em] at w; exact fun H' t => w σ H' (s.keep t)
    | ok d =>
      rw [em] at w
      obtain ⟨hb, w⟩ := R.when_ok (fun r => WpS X.K Y A0 O T H0 r Dn) w id
      rw [Bool.and_eq_true] at hb
      refine fun v H1 t1 r1 => ?_
      have r2 : Dp X.K (mask (openA A0 O δ w0) H1) v d := Dp.tsame (tsame_mask2 fun a q => (lst a q).imp id fun ⟨xs, z⟩ => ⟨xs, t1 _ _ z⟩) hb.2 r1
      obtain ⟨_, ⟨vs, f2, f3⟩, _⟩ := mt i ds [] [] H1 ho ei t1 .nil
      obtain ⟨_, _, fin⟩ := mt i ds (ds ++ [d]) (vs ++ [v]) H1 ho ei t1 (f3.app (.cons r2 .nil))
      exact ⟨_, vs, v, rfl, rfl, f2, by rw [f3.len]; exact of_decide_eq_true hb.1, w _ _ fin⟩
/-! ### x[j] = e, x an owned slot -/
def mPut (i : Nat) (ds : List D) (δ : DS) (d j : D) : R Out := match j with
  | .int k => match ixN ds.length k with
    | some n => .ok (.nx (δ.set i (some (.list (ds.set n d)))))
    | none => .bad
  | _ => .bad
def mSetAt (O : List Nat) (i : Nat) (m mj : DS → R D) : DS → R Out := fun δ => (ownedL i δ).bind fun ds => (m (hideD O δ)).run δ fun d => (mj δ).run δ fun j => mPut i ds δ d j
def mSetAtI (i : Nat) (m mj : DS → R D) : DS → R Out := fun δ => (ownedL i δ).bind fun ds => (m δ).run δ fun d => (mj δ).run δ fun j => R.when (imm d) (mPut i ds δ d j)
theorem put_core {A0 : Addr → Prop} {T : List Tm} {H0 H H1 : Hp} {σ : St} {δ : DS} {Dn : Ends} {i : Nat} {ds : List D} {x y : V} {d j : D} {w0 : Nat → Addr} (ho : i ∈ O) (ei : δ[i]? = some (some (.list ds))) (t1 : Same H H1)
    (mt : ∀ (i : Nat) (ds es : List D) (us : List V) (H' : Hp), i ∈ O → δ[i]? = some (some (.list ds)) → Same H H' → DpAll X.K (mask (openA A0 O δ w0) H') us es → σ[i]? = some (some (.ref (w0 i))) ∧ (∃ vs, H' (w0 i) = some (.lst vs) ∧ DpAll X.K (mask (openA A0 O δ w0) H') vs ds) ∧
      SS X.K A0 O T H0 σ (δ.set i (some (.list es))) (upd H' (w0 i) (.lst us)))
    (r : Dp X.K (mask (openA A0 O δ w0) H1) x d) (rj : Dp X.K (mask A0 H1) y j) (w : WpS X.K Y A0 O T H0 (mPut i ds δ d j) Dn) : rSetL (.ref (w0 i)) y x H1 (fun H2 => Dn.nx σ H2) := by
  unfold mPut at w
  cases rj with
  | int k =>
    replace w : WpS X.K Y A0 O T H0 (match ixN ds.length k with
    | some n => .ok (.nx (δ.set i (some (.list (ds.set n d)))))
    | none => .bad) Dn := w
    cases e : ixN ds.length k with
    | none => rw [e] at w; exact w.elim
    | some n =>
      rw [e] at w
      obtain ⟨_, ⟨vs, f2, f3⟩, _⟩ := mt i ds [] [] H1 ho ei t1 .nil
      obtain ⟨_, _, fin⟩ := mt i ds (ds.set n d) (vs.set n x) H1 ho ei t1 (DpAll.set r n f3)
      exact ⟨_, vs, k, n, rfl, rfl, f2, by rw [f3.len]; exact e, w _ _ fin⟩
  | _ => exact w.elim
theorem ds_setAt {i : Nat} {x : Str} {e ej : Expr} {m mj : DS → R D} {px ps pos : Pos} (hi : X.N[i]? = some x) (hv : Vis X.env.scope x) (hps : ∀ {to ti : TE}, PE X (.Name x px) to → PE X ej ti → PG X (.Subscript (.Name x px) ej ps) (gSub to ti rSetL)) (he : DE X Y e m) (hj : DE X Y ej mj) (ho : i ∈ O := by decide) (hd : (x == ("__debug__" : Str)) = false := by decide) (hcd : (x == ("__classdict__" : Str)) = false := by decide)
    (hs : swapsWithSole [.Subscript (.Name x px) ej ps] e pos.line X.env = pure false := by rfl) (hw : swappedStores [.Subscript (.Name x px) ej ps] e X.env = pure none := by rfl) (h1 : (assignEach [.Subscript (.Name x px) ej ps] X.env).map (·.2) = [assign (.Subscript (.Name x px) ej ps) X.env] := by rfl) :
    DSt X Y O (.Assign [.Subscript (.Name x px) ej ps] e pos) (mSetAt O i m mj) := by
  obtain ⟨t, p, q⟩ := he
  obtain ⟨tj, pj, qj⟩ := hj
  refine ⟨_, ps_asg p (hps (pe_var hi hv hd hcd) pj) hs hw h1, fun A0 T H0 σ δ H Dn s w => ?_⟩
  unfold mSetAt at w
  cases e0 : ownedL i δ with
  | bad => rw [e0] at w; exact w.elim
  | ex k => unfold ownedL at e0; split at e0 <;> cases e0
  | ok ds =>
    rw [e0] at w
    have ei := ownedL_ok e0
    obtain ⟨w0, cv, sr, up, kp, tm, lst, own, mt⟩ := s.share
    refine q σ (hideD O δ) H _ cv sr _ ?_
    replace w : WpS X.K Y A0 O T H0 ((m (hideD O δ)).run δ fun d => (mj δ).run δ fun j => mPut i ds δ d j) Dn := w
    cases em : m (hideD O δ) with
    | bad => rw [em] at w; exact w
    | ex k => rw [em] at w; exact fun H' t => w σ H' (s.keep t)
    | ok d =>
      rw [em] at w
      replace w : WpS X.K Y A0 O T H0 ((mj δ).run δ fun j => mPut i ds δ d j) Dn := w
      refine fun v H1 t1 r1 => ⟨_, (mt i ds [] [] H ho ei (Same.refl H) .nil).1, qj σ δ H1 A0 (s.covH.mono t1) (s.read.mono t1) _ ?_⟩
      cases ek : mj δ with
      | bad => rw [ek] at w; exact w
      | ex k => rw [ek] at w; exact fun H' t => w σ H' (s.keep (t1.trans t))
      | ok j =>
        rw [ek] at w
        exact fun y H2 t2 r2 => put_core (Y := Y) ho ei (t1.trans t2) mt (Dp.same (Same.mask t2) r1) r2 w
theorem ds_setAtI {i : Nat} {x : Str} {e ej : Expr} {m mj : DS → R D} {px ps pos : Pos} (hi : X.N[i]? = some x) (hv : Vis X.env.scope x) (hps : ∀ {to ti : TE}, PE X (.Name x px) to → PE X ej ti → PG X (.Subscript (.Name x px) ej ps) (gSub to ti rSetL)) (he : DE X Y e m) (hj : DE X Y ej mj) (ho : i ∈ O := by decide) (hd : (x == ("__debug__" : Str)) = false := by decide) (hcd : (x == ("__classdict__" : Str)) = false := by decide)
    (hs : swapsWithSole [.Subscript (.Name x px) ej ps] e pos.line X.env = pure false := by rfl) (hw : swappedStores [.Subscript (.Name x px) ej ps] e X.env = pure none := by rfl) (h1 : (assignEach [.Subscript (.Name x px) ej ps] X.env).map (·.2) = [assign (.Subscript (.Name x px) ej ps) X.env] := by rfl) :
    DSt X Y O (.Assign [.Subscript (.Name x px) ej ps] e pos) (mSetAtI i m mj) := by
  obtain ⟨t, p, q⟩ := he
  obtain ⟨tj, pj, qj⟩ := hj
  refine ⟨_, ps_asg p (hps (pe_var hi hv hd hcd) pj) hs hw h1, fun A0 T H0 σ δ H Dn s w => ?_⟩
  unfold mSetAtI at w
  cases e0 : ownedL i δ with
  | bad => rw [e0] at w; exact w.elim
  | ex k => unfold ownedL at e0; split at e0 <;> cases e0
  | ok ds =>
    rw [e0] at w
    have ei := ownedL_ok e0
    obtain ⟨w0, cv, sr, up, kp, tm, lst, own, mt⟩ := s.share
    refine q σ δ H _ s.covH s.read _ ?_
    replace w : WpS X.K Y A0 O T H0 ((m δ).run δ fun d => (mj δ).run δ fun j => R.when (imm d) (mPut i ds δ d j)) Dn := w
    cases em : m δ with
    | bad => rw [em] at w; exact w
    | ex k => rw [em] at w; exact fun H' t => w σ H' (s.keep t)
    | ok d =>
      rw [em] at w
      replace w : WpS X.K Y A0 O T H0 ((mj δ).run δ fun j => R.when (imm d) (mPut i ds δ d j)) Dn := w
      refine fun v H1 t1 r1 => ⟨_, (mt i ds [] [] H ho ei (Same.refl H) .nil).1, qj σ δ H1 A0 (s.covH.mono t1) (s.read.mono t1) _ ?_⟩
      cases ek : mj δ with
      | bad => rw [ek] at w; exact w
      | ex k => rw [ek] at w; exact fun H' t => w σ H' (s.keep (t1.trans t))
      | ok j =>
        rw [ek] at w
        obtain ⟨hb, w⟩ := R.when_ok (fun r => WpS X.K Y A0 O T H0 r Dn) w id
        exact fun y H2 t2 r2 => put_core (Y := Y) ho ei (t1.trans t2) mt (Dp.tsame (tsame_mask2 fun a q => (lst a q).imp id fun ⟨xs, z⟩ => ⟨xs, t2 _ _ (t1 _ _ z)⟩) hb (Dp.same (Same.mask t2) r1)) r2 w
end
end L2
namespace L2
open PySem PySem.Spec PyProof.Rows
section
variable {X : Cx} {Y : Wy} {O : List Nat}
theorem SS.temp {K : PySem.W.Frag} {A0 : Addr → Prop} {T : List Tm} {H0 H : Hp} {σ : St} {δ : DS} (s : SS K A0 O T H0 σ δ H) (q : Tm) (h : ∀ G : Hp, (∀ p ∈ T, p.P G) → q.P G) : SS K A0 O (q :: T) H0 σ δ H := by
  obtain ⟨w, h1, h2, h3, h4⟩ := s.ex
  exact ⟨⟨w, h1, h2, h3, fun p hp => by
    rcases List.mem_cons.mp hp with rfl | hp
    · exact h _ h4
    · exact h4 p hp⟩, s.len, s.same, s.cov⟩
theorem SS.untemp {K : PySem.W.Frag} {A0 : Addr → Prop} {T : List Tm} {q : Tm} {H0 H : Hp} {σ : St} {δ : DS} (s : SS K A0 O (q :: T) H0 σ δ H) : SS K A0 O T H0 σ δ H := by
  obtain ⟨w, h1, h2, h3, h4⟩ := s.ex
  exact ⟨⟨w, h1, h2, h3, fun p hp => h4 p (List.mem_cons_of_mem _ hp)⟩, s.len, s.same, s.cov⟩
/-- what a temporary fact says of the whole heap -/
theorem SS.tm {K : PySem.W.Frag} {A0 : Addr → Prop} {T : List Tm} {q : Tm} {H0 H : Hp} {σ : St} {δ : DS} (s : SS K A0 O (q :: T) H0 σ δ H) : q.P H := by
  obtain ⟨w, h1, h2, h3, h4⟩ := s.ex
  exact q.mono mask_le (h4 q List.mem_cons_self)
def tmD (K : PySem.W.Frag) (v : V) (d : D) : Tm := ⟨fun H => Dp K H v d, fun s h => Dp.same s h⟩
/-! ## targets -/
def WpG (K : PySem.W.Frag) (A0 : Addr → Prop) (O : List Nat) (T : List Tm) (H0 : Hp) (H : Hp) (r : R DS) (Q : St → Hp → Prop) : Prop :=
  match r with
  | .ok δ => ∀ σ, SS K A0 O T H0 σ δ H → Q σ H
  | _ => False
abbrev GSem (X : Cx) (O : List Nat) (g : TG) (st : D → DS → R DS) : Prop := ∀ (A0 : Addr → Prop) (T : List Tm) (H0 : Hp) (σ : St) (δ : DS) (H : Hp) (v : V) (d : D) (Q : St → Hp → Prop), SS X.K A0 O (tmD X.K v d :: T) H0 σ δ H → WpG X.K A0 O T H0 H (st d δ) Q → g v σ H Q
def DG (X : Cx) (O : List Nat) (tg : Expr) (st : D → DS → R DS) : Prop := ∃ g, PG X tg g ∧ GSem X O g st
def stName (i : Nat) : D → DS → R DS := fun d δ => R.when (inB i δ) (.ok (δ.set i (some d)))
theorem SS.setT {K : PySem.W.Frag} {A0 : Addr → Prop} {T : List Tm} {H0 H : Hp} {σ : St} {δ : DS} {v : V} {d : D} {i : Nat} (s : SS K A0 O (tmD K v d :: T) H0 σ δ H) (ho : i ∉ O) (hb : inB i δ = true) : SS K A0 O T H0 (σ.set i (some v)) (δ.set i (some d)) H := by
  have hl : i < σ.length := by rw [s.len]; exact of_decide_eq_true hb
  obtain ⟨w, h1, h2, h3, h4⟩ := s.ex
  have same : ∀ j ∈ O, (δ.set i (some d))[j]? = δ[j]? := fun j jo => List.getElem?_set_ne (fun e => ho (by rw [e]; exact jo))
  have oe : (fun a => A0 a ∨ ∃ j ∈ O, (∃ x, (δ.set i (some d))[j]? = some (some x)) ∧ a = w j) = (fun a => A0 a ∨ ∃ j ∈ O, (∃ x, δ[j]? = some (some x)) ∧ a = w j) := by
    funext a
    refine propext ⟨fun q => q.imp id fun ⟨j, jo, jd, e⟩ => ⟨j, jo, by rw [same j jo] at jd; exact jd, e⟩, fun q => q.imp id fun ⟨j, jo, jd, e⟩ => ⟨j, jo, by rw [same j jo]; exact jd, e⟩⟩
  refine ⟨⟨w, fun k x ko e => ?_, fun k x ko e => ?_, fun k j ko jo ke je => ?_, fun p hp => ?_⟩, by rw [List.length_set, List.length_set]; exact s.len, s.same, s.cov⟩
  · rw [oe]
    by_cases hk : i = k
    · subst hk
      rw [List.getElem?_set_self (by rw [← s.len]; exact hl)] at e
      rw [List.getElem?_set_self hl]
      cases e
      exact ⟨v, rfl, h4 _ List.mem_cons_self⟩
    · rw [List.getElem?_set_ne hk] at e ⊢
      exact h1 k x ko e
  · rw [oe]
    have hk : i ≠ k := fun e => ho (e ▸ ko)
    rw [List.getElem?_set_ne hk] at e ⊢
    exact h2 k x ko e
  · rw [same k ko] at ke
    rw [same j jo] at je
    exact h3 k j ko jo ke je
  · rw [oe]
    exact h4 p (List.mem_cons_of_mem _ hp)
theorem dg_name {i : Nat} {x : Str} {pos : Pos} (hN : X.N.Nodup) (hi : X.N[i]? = some x) (hx : Loc X.env.scope x) (ho : i ∉ O := by decide) (hf : X.fn x = true ∨ X.env.scope.names.lookup x = some .local := by first | exact .inl rfl | exact .inr rfl | assumption) : DG X O (.Name x pos) (stName i) :=
  ⟨_, pg_name hN hi hx hf, fun A0 T H0 σ δ H v d Q s w => by
    unfold stName at w
    obtain ⟨hb, w⟩ := R.when_ok (fun r => WpG X.K A0 O T H0 H r Q) w id
    exact w _ (s.setT ho hb)⟩
/-! ## for -/
def loopM (st : D → DS → R DS) (m : DS → R Out) : List D → DS → R Out
  | [], δ => .ok (.nx δ)
  | x :: xs, δ => match st x δ with
    | .ok δ1 => match m δ1 with
      | .ok (.nx δ') => loopM st m xs δ'
      | .ok (.ct δ') => loopM st m xs δ'
      | .ok (.bk δ') => .ok (.nx δ')
      | r => r
    | _ => .bad
/-- one turn -/
theorem loop_turn {g : TG} {st : D → DS → R DS} {t : TS} {m : DS → R Out} (hg : GSem X O g st) (ht : TSem X Y O t m) {A0 : Addr → Prop} {T : List Tm} {H0 H : Hp} {σ : St} {δ : DS} {v : V} {d : D} {xs : List D} {Dn : Ends} {N : St → Hp → Prop} {nx : St → Hp → Prop}
    (s : SS X.K A0 O (tmD X.K v d :: T) H0 σ δ H) (w : WpS X.K Y A0 O T H0 (loopM st m (d :: xs) δ) Dn) (hn : ∀ σ' H' δ', SS X.K A0 O T H0 σ' δ' H' → WpS X.K Y A0 O T H0 (loopM st m xs δ') Dn → N σ' H') (hb : ∀ σ' H' δ', SS X.K A0 O T H0 σ' δ' H' → WpS X.K Y A0 O T H0 (.ok (.nx δ')) Dn → nx σ' H') :
    g v σ H fun σ2 H2 => t { Dn with nx := N, ct := N, bk := nx } σ2 H2 := by
  refine hg A0 T H0 σ δ H v d _ s ?_
  unfold loopM at w
  cases e : st d δ with
  | bad => rw [e] at w; exact w.elim
  | ex k => rw [e] at w; exact w.elim
  | ok δ1 =>
    rw [e] at w
    refine fun σ2 s2 => ht A0 T H0 σ2 δ1 H _ s2 ?_
    dsimp only at w
    cases e2 : m δ1 with
    | bad => rw [e2] at w; exact w
    | ex k => rw [e2] at w; exact w
    | ok o =>
      rw [e2] at w
      cases o with
      | nx δ' => exact fun σ' H' s' => hn σ' H' δ' s' w
      | ct δ' => exact fun σ' H' s' => hn σ' H' δ' s' w
      | bk δ' => exact fun σ' H' s' => hb σ' H' δ' s' w
      | rt d => exact w
      | rl d => exact w
      | ex n δ' => exact w

/-- the list, the tuple that is walked, as it is told to all turns -/
def tmL (K : PySem.W.Frag) (a : Addr) (vs : List V) (ds : List D) : Tm := ⟨fun H => SqL K H a vs ∧ DpAll K H vs ds, fun s h => ⟨sqL_same s h.1, DpAll.same s h.2⟩⟩
def tmT (K : PySem.W.Frag) (a : Addr) (vs : List V) (ds : List D) : Tm := ⟨fun H => SqT K H a vs ∧ DpAll K H vs ds, fun s h => ⟨sqT_same s h.1, DpAll.same s h.2⟩⟩
def mFor (O : List Nat) (me : DS → R D) (st : D → DS → R DS) (m : DS → R Out) : DS → R Out := fun δ => (me (hideD O δ)).run δ fun d => match seqD d with
  | some ds => loopM st m ds δ
  | none => .bad
def mForR (ms : DS → R (List D)) (st : D → DS → R DS) (m : DS → R Out) : DS → R Out := fun δ => (ms δ).run δ fun ds => match ds with
  | [.int n] => R.when (decide (-(2 ^ 62) ≤ n ∧ n < 2 ^ 62)) (loopM st m ((List.range n.toNat).map fun i => .int (i : Nat)) δ)
  | [.int a, .int b] => R.when (decide (-(2 ^ 62) ≤ a ∧ a < 2 ^ 62 ∧ -(2 ^ 62) ≤ b ∧ b < 2 ^ 62)) (loopM st m ((List.range (b - a).toNat).map fun i => .int (a + (i : Nat))) δ)
  | _ => .bad
theorem take_next {α : Type} {l : List α} {i : Nat} {x : α} (h : l[i]? = some x) : l.drop i = x :: l.drop (i + 1) := by
  obtain ⟨hi, rfl⟩ := List.getElem?_eq_some_iff.mp h
  exact List.drop_eq_getElem_cons hi
theorem PI.orD {tg it : Expr} {w1 w2 : TI} (h1 : PI X tg it w1) (h2 : PI X tg it w2) : PI X tg it (fun σ H R => w1 σ H R ∨ w2 σ H R) := ⟨fun pins s σ H R I h => by
  rcases h with h | h
  · exact h1.run pins s σ H R I h
  · exact h2.run pins s σ H R I h⟩
theorem WpS.push {K : PySem.W.Frag} {A0 : Addr → Prop} {T : List Tm} {H0 : Hp} {r : R Out} {Dn : Ends} (q : Tm) (w : WpS K Y A0 O T H0 r Dn) : WpS K Y A0 O (q :: T) H0 r Dn := by
  cases r with
  | bad => exact w
  | ex n => exact w
  | ok o =>
    cases o with
    | nx δ => exact fun σ H' s => w σ H' s.untemp
    | bk δ => exact fun σ H' s => w σ H' s.untemp
    | ct δ => exact fun σ H' s => w σ H' s.untemp
    | rt d => exact w
    | rl d => exact w
    | ex n δ' => exact fun σ H' s => w σ H' s.untemp
/-- the turns over what a temporary fact tells: items vs, data ds -/
theorem loop_all {tm : Tm} {g : TG} {st : D → DS → R DS} {tb : TS} {m : DS → R Out} (qg : GSem X O g st) (qb : TSem X Y O tb m) {A0 : Addr → Prop} {T : List Tm} {H0 : Hp} {Dn : Ends} {ds : List D} {i : Nat} {x : V} {d : D} (hd : ds[i]? = some d) (hx : ∀ G, tm.P G → Dp X.K G x d)
    {σ' : St} {H' : Hp} (h : ∃ δ', SS X.K A0 O (tm :: T) H0 σ' δ' H' ∧ WpS X.K Y A0 O (tm :: T) H0 (loopM st m (ds.drop i) δ') Dn) :
    g x σ' H' fun σ2 H2 => tb { Dn with nx := fun σ' H' => ∃ δ', SS X.K A0 O (tm :: T) H0 σ' δ' H' ∧ WpS X.K Y A0 O (tm :: T) H0 (loopM st m (ds.drop (i + 1)) δ') Dn, ct := fun σ' H' => ∃ δ', SS X.K A0 O (tm :: T) H0 σ' δ' H' ∧ WpS X.K Y A0 O (tm :: T) H0 (loopM st m (ds.drop (i + 1)) δ') Dn, bk := Dn.nx } σ2 H2 := by
  obtain ⟨δ', s', w'⟩ := h
  rw [take_next hd] at w'
  have s2 : SS X.K A0 O (tmD X.K x d :: tm :: T) H0 σ' δ' H' := s'.temp (tmD X.K x d) fun G hG => hx G (hG tm List.mem_cons_self)
  exact loop_turn (T := tm :: T) (Y := Y) (Dn := Dn) (xs := ds.drop (i + 1)) (d := d) qg qb s2 w' (fun σ' H' δ' s w => ⟨δ', s, w⟩) (fun σ' H' δ' s w => w _ _ s)
/-- for target in e: e a list or a tuple -/
theorem ds_for {it tg : Expr} {body : List Stmt} {me : DS → R D} {st : D → DS → R DS} {m : DS → R Out} {pos : Pos} (hp : PassesOwn (model X.prog X.w) X.A X.env X.xe) (hc : X.calm = true) (he : DE X Y it me) (hg : DG X O tg st) (hb : DSs X Y O body m)
    (hs : ∀ x, foldedSetIterable it X.env x = pure x := by intro _; rfl) : DSt X Y O (.For tg it body [] pos) (mFor O me st m) := by
  obtain ⟨te, pe, qe⟩ := he
  obtain ⟨g, pg, qg⟩ := hg
  obtain ⟨tb, pb, qb⟩ := hb
  refine ⟨_, ps_for hp hc (PI.orD (pi_list pe) (pi_tup pe)) pg pb hs, fun A0 T H0 σ δ H Dn s w => ?_⟩
  obtain ⟨w0, cv, sr, up, kp, tm, _⟩ := s.share
  unfold mFor at w
  cases e : me (hideD O δ) with
  | bad => rw [e] at w; exact w.elim
  | ex k => rw [e] at w; exact .inl (qe σ (hideD O δ) H _ cv sr _ (by rw [e]; exact fun H' t => w σ H' (s.keep t)))
  | ok d =>
    rw [e] at w
    dsimp only [R.run] at w
    cases d with
    | list ds =>
      refine .inl (qe σ (hideD O δ) H _ cv sr _ ?_)
      rw [e]
      intro v H1 t1 r1
      obtain ⟨a, us, rfl, h1, h2⟩ := dp_list r1
      have s1 : SS X.K A0 O (tmL X.K a us ds :: T) H0 σ δ H1 := tm (tmL X.K a us ds) H1 t1 ⟨h1, h2⟩
      refine ⟨a, rfl, ⟨us, sqL_same mask_le h1⟩, for_list (K := X.K) (a := a) (xs := us) (fun i σ' H' => ∃ δ', SS X.K A0 O (tmL X.K a us ds :: T) H0 σ' δ' H' ∧ WpS X.K Y A0 O (tmL X.K a us ds :: T) H0 (loopM st m (ds.drop i) δ') Dn)
        ⟨δ, s1, WpS.push _ w⟩ (fun i σ' H' _ ⟨δ', s', _⟩ => s'.tm.1) (fun i x σ' H' hi h => ?_) (fun σ' H' ⟨δ', s', w'⟩ => ?_)⟩
      · obtain ⟨dx, hd, _⟩ := h2.get2 hi
        exact loop_all qg qb hd (fun G hG => by
          obtain ⟨dx', hd', hr'⟩ := hG.2.get2 hi
          rw [hd] at hd'
          cases hd'
          exact hr') h
      · rw [h2.len, List.drop_length] at w'
        exact w' _ _ s'
    | tuple ds =>
      refine .inr (qe σ (hideD O δ) H _ cv sr _ ?_)
      rw [e]
      intro v H1 t1 r1
      obtain ⟨a, us, rfl, h1, h2⟩ := dp_tup r1
      have s1 : SS X.K A0 O (tmT X.K a us ds :: T) H0 σ δ H1 := tm (tmT X.K a us ds) H1 t1 ⟨h1, h2⟩
      refine ⟨a, rfl, ⟨us, sqT_same mask_le h1⟩, for_tup (K := X.K) (a := a) (xs := us) (fun i σ' H' => ∃ δ', SS X.K A0 O (tmT X.K a us ds :: T) H0 σ' δ' H' ∧ WpS X.K Y A0 O (tmT X.K a us ds :: T) H0 (loopM st m (ds.drop i) δ') Dn)
        ⟨δ, s1, WpS.push _ w⟩ (fun i σ' H' _ ⟨δ', s', _⟩ => s'.tm.1) (fun i x σ' H' hi h => ?_) (fun σ' H' ⟨δ', s', w'⟩ => ?_)⟩
      · obtain ⟨dx, hd, _⟩ := h2.get2 hi
        exact loop_all qg qb hd (fun G hG => by
          obtain ⟨dx', hd', hr'⟩ := hG.2.get2 hi
          rw [hd] at hd'
          cases hd'
          exact hr') h
      · rw [h2.len, List.drop_length] at w'
        exact w' _ _ s'
    | _ => exact w.elim
def tm0 : Tm := ⟨fun _ => True, fun _ _ => trivial⟩
theorem range_at {n i : Nat} {f : Nat → D} (h : i < n) : ((List.range n).map f)[i]? = some (f i) := by
  rw [List.getElem?_map, List.getElem?_range h]; rfl
theorem loop_range {g : TG} {st : D → DS → R DS} {tb : TS} {m : DS → R Out} (qg : GSem X O g st) (qb : TSem X Y O tb m) {A0 : Addr → Prop} {T : List Tm} {H0 H1 : Hp} {σ : St} {δ : DS} {Dn : Ends} {lo : Int} {n : Nat} (s : SS X.K A0 O T H0 σ δ H1)
    (w : WpS X.K Y A0 O T H0 (loopM st m ((List.range n).map fun i => .int (lo + (i : Nat))) δ) Dn) :
    ∃ W : Nat → Nat → St → Hp → Prop, (∃ m, W 0 m σ H1) ∧ ∀ i m σ H, W i m σ H →
      ((Itr lo n).stop i H ∧ Dn.nx σ H) ∨ ((Itr lo n).go i H ∧ ∃ N : St → Hp → Prop, (∀ σ' H', N σ' H' → ∃ m', m' < m ∧ W (i + 1) m' σ' H') ∧ ∀ x H', (Itr lo n).yld i H x H' → g x σ H' fun σ2 H2 => tb { Dn with nx := N, ct := N, bk := Dn.nx } σ2 H2) := by
  refine for_range (lo := lo) (n := n) (fun i σ' H' => ∃ δ', SS X.K A0 O (tm0 :: T) H0 σ' δ' H' ∧ WpS X.K Y A0 O (tm0 :: T) H0 (loopM st m (((List.range n).map fun j : Nat => (PyData.int (lo + (j : Nat)) : D)).drop i) δ') Dn)
    ⟨δ, s.temp tm0 fun _ _ => trivial, WpS.push _ w⟩ (fun i σ' H' hi h => ?_) (fun σ' H' ⟨δ', s', w'⟩ => ?_)
  · exact loop_all (tm := tm0) qg qb (range_at (f := fun i => .int (lo + (i : Nat))) hi) (fun G _ => .int _) h
  · rw [List.drop_of_length_le (by rw [List.length_map, List.length_range]; exact Nat.le_refl _)] at w'
    exact w' _ _ s'
theorem ds_forR1 {a tg : Expr} {body : List Stmt} {m1 : DS → R D} {st : D → DS → R DS} {m : DS → R Out} {p pos pos' : Pos} (hp : PassesOwn (model X.prog X.w) X.A X.env X.xe) (hc : X.calm = true) (hgl : Gl X "range") (hm : X.mg "range" = none) (ha : DA X Y [a] (mCons m1 mNil)) (hg : DG X O tg st) (hb : DSs X Y O body m)
    (hs1 : starEach [a] X.env = [(false, eval a X.env)] := by rfl) (hs : ∀ x, foldedSetIterable (.Call (.Name "range" p) [a] [] pos') X.env x = pure x := by intro _; rfl) : DSt X Y O (.For tg (.Call (.Name "range" p) [a] [] pos') body [] pos) (mForR (mCons m1 mNil) st m) := by
  obtain ⟨ta, pa, qa⟩ := ha
  obtain ⟨g, pg, qg⟩ := hg
  obtain ⟨tb, pb, qb⟩ := hb
  refine ⟨_, ps_for hp hc (pi_range1 hgl hm pa hs1) pg pb hs, fun A0 T H0 σ δ H Dn s w => qa σ δ H A0 s.covH s.read _ ?_⟩
  unfold mForR at w
  cases e : mCons m1 mNil δ with
  | bad => rw [e] at w; exact w
  | ex k => rw [e] at w; exact fun H' t => w σ H' (s.keep t)
  | ok ds =>
    rw [e] at w
    dsimp only [R.run] at w
    refine fun vs H1 t1 r1 => ?_
    split at w
    · rename_i n
      obtain ⟨v, rfl, r2⟩ := dpAll1 r1
      cases r2
      obtain ⟨hb, w⟩ := R.when_ok (fun r => WpS X.K Y A0 O T H0 r Dn) w id
      obtain ⟨b1, b2⟩ := of_decide_eq_true hb
      refine ⟨n, rfl, b1, b2, loop_range qg qb (s.keep t1) ?_⟩
      simpa using w
    · exfalso
      have := r1.len
      unfold mCons mNil at e
      cases q : m1 δ <;> rw [q] at e <;> cases e
    · exact w.elim
theorem ds_forR2 {a b tg : Expr} {body : List Stmt} {ms : DS → R (List D)} {st : D → DS → R DS} {m : DS → R Out} {p pos pos' : Pos} (hp : PassesOwn (model X.prog X.w) X.A X.env X.xe) (hc : X.calm = true) (hgl : Gl X "range") (hm : X.mg "range" = none) (ha : DA X Y [a, b] ms) (hg : DG X O tg st) (hb : DSs X Y O body m) (hlen : ∀ δ ds, ms δ = .ok ds → ds.length = 2)
    (hs1 : starEach [a, b] X.env = [(false, eval a X.env), (false, eval b X.env)] := by rfl) (hs2 : starEach [b] X.env = [(false, eval b X.env)] := by rfl) (hs : ∀ x, foldedSetIterable (.Call (.Name "range" p) [a, b] [] pos') X.env x = pure x := by intro _; rfl) :
    DSt X Y O (.For tg (.Call (.Name "range" p) [a, b] [] pos') body [] pos) (mForR ms st m) := by
  obtain ⟨ta, pa, qa⟩ := ha
  obtain ⟨g, pg, qg⟩ := hg
  obtain ⟨tb, pb, qb⟩ := hb
  refine ⟨_, ps_for hp hc (pi_range2 hgl hm pa hs1 hs2) pg pb hs, fun A0 T H0 σ δ H Dn s w => qa σ δ H A0 s.covH s.read _ ?_⟩
  unfold mForR at w
  cases e : ms δ with
  | bad => rw [e] at w; exact w
  | ex k => rw [e] at w; exact fun H' t => w σ H' (s.keep t)
  | ok ds =>
    have hl := hlen δ ds e
    rw [e] at w
    dsimp only [R.run] at w
    refine fun vs H1 t1 r1 => ?_
    split at w
    · cases hl
    · rename_i n k
      obtain ⟨v, u, rfl, r2, r3⟩ := dpAll2 r1
      cases r2
      cases r3
      obtain ⟨hb, w⟩ := R.when_ok (fun r => WpS X.K Y A0 O T H0 r Dn) w id
      exact ⟨n, k, rfl, of_decide_eq_true hb, loop_range qg qb (s.keep t1) w⟩
    · exact w.elim
/-! ## while -/
def whileM (mc : DS → R Bool) (m : DS → R Out) : Nat → DS → R Out
  | 0, _ => .bad
  | n + 1, δ => (mc δ).run δ fun b => if b = true then (match m δ with
    | .ok (.nx δ') => whileM mc m n δ'
    | .ok (.ct δ') => whileM mc m n δ'
    | .ok (.bk δ') => .ok (.nx δ')
    | r => r) else .ok (.nx δ)
theorem ds_while (fuel : DS → Nat) {c : Expr} {body : List Stmt} {mc : DS → R Bool} {m : DS → R Out} {pos : Pos} (hp : PassesOwn (model X.prog X.w) X.A X.env X.xe) (hc : DT X Y c mc) (hb : DSs X Y O body m) : DSt X Y O (.While c body [] pos) (fun δ => whileM mc m (fuel δ) δ) := by
  obtain ⟨tc, pc, qc⟩ := hc
  obtain ⟨tb, pb, qb⟩ := hb
  refine ⟨_, ps_while hp pc pb, fun A0 T H0 σ δ H Dn s w => ?_⟩
  refine ⟨fun k σ H => ∃ δ, SS X.K A0 O T H0 σ δ H ∧ WpS X.K Y A0 O T H0 (whileM mc m k δ) Dn, ⟨fuel δ, δ, s, w⟩, fun k σ H ⟨δ, s, w⟩ => ?_⟩
  refine qc σ δ H A0 s.covH s.read _ ?_
  cases k with
  | zero => exact w.elim
  | succ k =>
    unfold whileM at w
    cases e : mc δ with
    | bad => rw [e] at w; exact w
    | ex j => rw [e] at w; exact fun H' t => w σ H' (s.keep t)
    | ok b =>
      rw [e] at w
      dsimp only [R.run] at w
      refine fun H1 t1 => ?_
      cases b with
      | false => exact w σ H1 (s.keep t1)
      | true =>
        rw [if_pos rfl] at w
        rw [if_pos rfl]
        refine ⟨fun σ' H' => ∃ δ, SS X.K A0 O T H0 σ' δ H' ∧ WpS X.K Y A0 O T H0 (whileM mc m k δ) Dn, fun σ' H' h => ⟨k, Nat.lt_succ_self k, h⟩, qb A0 T H0 σ δ H1 _ (s.keep t1) ?_⟩
        cases e2 : m δ with
        | bad => rw [e2] at w; exact w
        | ex j => rw [e2] at w; exact w
        | ok o =>
          rw [e2] at w
          cases o with
          | nx δ' => exact fun σ' H' s' => ⟨δ', s', w⟩
          | ct δ' => exact fun σ' H' s' => ⟨δ', s', w⟩
          | bk δ' => exact fun σ' H' s' => w σ' H' s'
          | rt d => exact w
          | rl d => exact w
          | ex n δ' => exact w
end
end L2
namespace L2
open PySem PySem.Spec PyProof.Rows
section
variable {X : Cx} {Y : Wy}
/-! ## comprehensions -/
def noX (Y : Wy) : Wy := ⟨Y.cv, fun _ => E0⟩
/-- slots of the block: its own names are forgotten -/
def wipeD (δ : DS) : List Nat → DS
  | [] => δ
  | v :: vs => (wipeD δ vs).set v none
theorem wipeD_length (δ : DS) : ∀ vs : List Nat, (wipeD δ vs).length = δ.length
  | [] => rfl
  | v :: vs => by unfold wipeD; rw [List.length_set, wipeD_length δ vs]
theorem SR.wipe1 {K : PySem.W.Frag} {A : Addr → Prop} {σ : St} {δ : DS} {H : Hp} (s : ∀ (i : Nat) (d : D), δ[i]? = some (some d) → ∃ v, σ[i]? = some (some v) ∧ Dp K (mask A H) v d) : ∀ vs : List Nat, ∀ (i : Nat) (d : D), (wipeD δ vs)[i]? = some (some d) → ∃ v, (wipe σ vs)[i]? = some (some v) ∧ Dp K (mask A H) v d
  | [] => s
  | v :: vs => fun i d e => by
    have ih := SR.wipe1 s vs
    unfold wipeD at e
    by_cases h : v = i
    · subst h
      by_cases hl : v < (wipeD δ vs).length
      · rw [List.getElem?_set_self hl] at e; cases e
      · rw [List.getElem?_eq_none (by simpa using hl)] at e; cases e
    · rw [List.getElem?_set_ne h] at e
      unfold L2.wipe
      rw [List.getElem?_set_ne h]
      exact ih i d e
theorem SR.wipe {K : PySem.W.Frag} {A : Addr → Prop} {σ : St} {δ : DS} {H : Hp} (s : SR K A σ δ H) (vs : List Nat) : SR K A (wipe σ vs) (wipeD δ vs) H := ⟨SR.wipe1 s.1 vs, by rw [wipe_length, wipeD_length]; exact s.2⟩
theorem SR.set {K : PySem.W.Frag} {A : Addr → Prop} {σ : St} {δ : DS} {H : Hp} {v : V} {d : D} {j : Nat} (s : SR K A σ δ H) (r : Dp K (mask A H) v d) : SR K A (σ.set j (some v)) (δ.set j (some d)) H := ⟨fun i x e => by
  by_cases h : j = i
  · subst h
    by_cases hj : j < δ.length
    · rw [List.getElem?_set_self hj] at e
      cases e
      exact ⟨v, List.getElem?_set_self (Nat.lt_of_lt_of_le hj s.2), r⟩
    · rw [List.getElem?_eq_none (by simpa using hj)] at e; cases e
  · rw [List.getElem?_set_ne h] at e ⊢
    exact s.1 i x e, by rw [List.length_set, List.length_set]; exact s.2⟩
def compM (j : Nat) (mt : DS → R Bool) (me : DS → R D) (δ : DS) : List D → R (List D)
  | [] => .ok []
  | x :: xs => match mt (δ.set j (some x)) with
    | .ok true => match me (δ.set j (some x)) with
      | .ok y => (compM j mt me δ xs).map fun ys => y :: ys
      | _ => .bad
    | .ok false => compM j mt me δ xs
    | _ => .bad
def mYes : DS → R Bool := fun _ => .ok true
/-- the one reading of an expression, a test -/
def canE (K : PySem.W.Frag) (Y : Wy) (m : DS → R D) : TE := fun σ H Q => ∃ δ A, Cov A H ∧ SR K A σ δ H ∧ WpE K (Y.at σ) A H (m δ) Q
def canT (K : PySem.W.Frag) (Y : Wy) (m : DS → R Bool) : TT := fun σ H Q => ∃ δ A, Cov A H ∧ SR K A σ δ H ∧ WpT (Y.at σ) H (m δ) Q
theorem DE.can {e : Expr} {m : DS → R D} (h : DE X Y e m) : PE X e (canE X.K Y m) := by
  obtain ⟨t, p, q⟩ := h
  exact ⟨fun pins s σ H Q I ⟨δ, A, c, sr, w⟩ => p.run pins s σ H Q I (q σ δ H A c sr Q w)⟩
def DTs (X : Cx) (Y : Wy) (es : List Expr) (m : DS → R Bool) : Prop := ∃ t, PTs X es t ∧ ∀ (σ : St) (δ : DS) (H : Hp) (A : Addr → Prop), Cov A H → SR X.K A σ δ H → ∀ Q : Bool → Hp → Prop, WpT (Y.at σ) H (m δ) Q → t σ H Q
theorem DTs.can {es : List Expr} {m : DS → R Bool} (h : DTs X Y es m) : PTs X es (canT X.K Y m) := by
  obtain ⟨t, p, q⟩ := h
  exact ⟨fun pins s σ H Q I ⟨δ, A, c, sr, w⟩ => p.run pins s σ H Q I (q σ δ H A c sr Q w)⟩
theorem dts_nil : DTs X Y [] mYes := ⟨_, pts_nil, fun σ δ H A c s Q w => w H (Same.refl H)⟩
theorem dts_one {e : Expr} {m : DS → R Bool} (h : DT X Y e m) : DTs X Y [e] m := by
  obtain ⟨t, p, q⟩ := h
  exact ⟨_, pts_one p, q⟩
/-- one turn of a comprehension -/
theorem comp_turn {K : PySem.W.Frag} {mt : DS → R Bool} {me : DS → R D} {j : Nat} {δ : DS} {σ2 : St} {A : Addr → Prop} {H : Hp} {Dl : Addr} {x : D} {xs : List D} {tot pre : List D} {acc : List V} {Pv : Hp → Prop}
    (c : Cov A H) (nA : ¬ A Dl) (s : SR K (fun a => A a ∨ a = Dl) σ2 (δ.set j (some x)) H) (hD : H Dl = some (.lst acc)) (ha : DpAll K (mask (fun a => A a ∨ a = Dl) H) acc pre)
    (hz : pre.length < sizeLine) (e : ∃ ys, compM j mt me δ (x :: xs) = .ok ys ∧ tot = pre ++ ys)
    (k : ∀ (acc' : List V) (pre' : List D) (H' : Hp), Same H H' ∨ True → (∀ b o, b ≠ Dl → H b = some o → H' b = some o) → H' Dl = some (.lst acc') → pre'.length ≤ pre.length + 1 → DpAll K (mask (fun a => A a ∨ a = Dl) H') acc' pre' → (∃ ys, compM j mt me δ xs = .ok ys ∧ tot = pre' ++ ys) → Pv H') :
    canT K (noX Y) mt σ2 H fun b H3 => if b = true then canE K (noX Y) me σ2 H3 fun y H4 => ∃ acc, H4 Dl = some (.lst acc) ∧ acc.length < sizeLine ∧ Pv (upd H4 Dl (.lst (acc ++ [y]))) else Pv H3 := by
  obtain ⟨ys, e, et⟩ := e
  have c' : Cov (fun a => A a ∨ a = Dl) H := c.add hD
  refine ⟨_, _, c', s, ?_⟩
  unfold compM at e
  cases e1 : mt (δ.set j (some x)) with
  | bad => rw [e1] at e; cases e
  | ex n => rw [e1] at e; cases e
  | ok b =>
    rw [e1] at e
    refine fun H3 t3 => ?_
    cases b with
    | false => exact k acc pre H3 (.inr trivial) (fun b o _ q => t3 _ _ q) (t3 _ _ hD) (Nat.le_succ _) (DpAll.same (Same.mask t3) ha) ⟨ys, e, et⟩
    | true =>
      rw [if_pos rfl]
      refine ⟨_, _, c'.mono t3, s.mono t3, ?_⟩
      dsimp only at e
      cases e2 : me (δ.set j (some x)) with
      | bad => rw [e2] at e; cases e
      | ex n => rw [e2] at e; cases e
      | ok y =>
        rw [e2] at e
        refine fun u H4 t4 r4 => ⟨acc, t4 _ _ (t3 _ _ hD), by rw [ha.len]; exact hz, ?_⟩
        dsimp only at e
        cases e3 : compM j mt me δ xs with
        | bad => rw [e3] at e; cases e
        | ex n => rw [e3] at e; cases e
        | ok zs =>
          rw [e3] at e
          cases e
          have mk : Same (mask (fun a => A a ∨ a = Dl) H4) (mask (fun a => A a ∨ a = Dl) (upd H4 Dl (.lst (acc ++ [u])))) := fun b o q => by
            rw [mask_some] at q ⊢
            refine ⟨q.1, ?_⟩
            rw [upd_ne fun z => q.1 (.inr z)]
            exact q.2
          refine k (acc ++ [u]) (pre ++ [y]) _ (.inr trivial) (fun b o nb q => ?_) upd_same (by rw [List.length_append]; exact Nat.le_refl _) ?_ ⟨zs, e3, by rw [List.append_assoc]; exact et⟩
          · rw [upd_ne nb]
            exact t4 _ _ (t3 _ _ q)
          · exact (DpAll.same ((Same.mask (t3.trans t4)).trans mk) ha).app (.cons (Dp.same mk r4) .nil)
/-- the state in a comprehension's loop: i items are behind -/
structure CS (K : PySem.W.Frag) (A : Addr → Prop) (σ : St) (δ : DS) (H1 : Hp) (Dl : Addr) (j : Nat) (mt : DS → R Bool) (me : DS → R D) (tot : List D) (rest : List D) (i : Nat) (H : Hp) : Prop where
  ex : ∃ acc pre, H Dl = some (.lst acc) ∧ DpAll K (mask (fun a => A a ∨ a = Dl) H) acc pre ∧ pre.length ≤ i ∧ ∃ ys, compM j mt me δ rest = .ok ys ∧ tot = pre ++ ys
  same : Same H1 H
theorem CS.sr {K : PySem.W.Frag} {A : Addr → Prop} {σ : St} {δ : DS} {H1 H : Hp} {Dl : Addr} {j i : Nat} {mt : DS → R Bool} {me : DS → R D} {tot rest : List D} (cs : CS K A σ δ H1 Dl j mt me tot rest i H) (hn : H1 Dl = none) (s : SR K A σ δ H1) :
    SR K (fun a => A a ∨ a = Dl) σ δ H := by
  refine ⟨fun i d e => ?_, s.2⟩
  obtain ⟨v, q1, q2⟩ := s.1 i d e
  refine ⟨v, q1, Dp.same (fun b o q => ?_) q2⟩
  rw [mask_some] at q ⊢
  refine ⟨fun z => z.elim q.1 fun z => ?_, cs.same _ _ q.2⟩
  rw [z, hn] at q; cases q.2
def mComp (vs : List Nat) (j : Nat) (mi : DS → R D) (mt : DS → R Bool) (me : DS → R D) : DS → R (List D) := fun δ => (mi δ).bind fun d => match seqD d with
  | some ds => R.when (ltOk ds.length) (compM j mt me (wipeD δ vs) ds)
  | none => .bad
/-- the turns of a comprehension over items vs, data ds -/
theorem comp_step {K : PySem.W.Frag} {A : Addr → Prop} {σ : St} {δ : DS} {H1 : Hp} {Dl : Addr} {j : Nat} {mt : DS → R Bool} {me : DS → R D} {tot ds : List D} {vs : List Nat} (c1 : Cov A H1) (hn : H1 Dl = none) (s1 : SR K A σ δ H1) (hz : ds.length < sizeLine)
    (hw : ∀ x, wipe ((wipe σ vs).set j (some x)) vs = wipe σ vs) {i : Nat} {x : V} {d : D} (hd : ds[i]? = some d) {H : Hp} (hx : ∀ B : Addr → Prop, (∀ a, B a → A a ∨ a = Dl) → Dp K (mask B H) x d) (cs : CS K A (wipe σ vs) (wipeD δ vs) H1 Dl j mt me tot (ds.drop i) i H) :
    gName j x (wipe σ vs) H fun σ2 H2 => wipe σ2 vs = wipe σ vs ∧ canT K (noX Y) mt σ2 H2 fun b H3 =>
      if b = true then canE K (noX Y) me σ2 H3 fun y H4 => ∃ acc, H4 Dl = some (.lst acc) ∧ acc.length < sizeLine ∧ CS K A (wipe σ vs) (wipeD δ vs) H1 Dl j mt me tot (ds.drop (i + 1)) (i + 1) (upd H4 Dl (.lst (acc ++ [y]))) else CS K A (wipe σ vs) (wipeD δ vs) H1 Dl j mt me tot (ds.drop (i + 1)) (i + 1) H3 := by
  refine ⟨hw x, ?_⟩
  obtain ⟨⟨acc, pre, q1, q2, q3, q4⟩, q5⟩ := id cs
  have hi : i < ds.length := (List.getElem?_eq_some_iff.mp hd).1
  rw [take_next hd] at q4
  refine comp_turn (Y := Y) (A := A) (pre := pre) (acc := acc) (tot := tot) (c1.mono q5) (c1.new hn) ((cs.sr hn (s1.wipe vs)).set (hx _ fun a h => h)) q1 q2 (by omega) q4 fun acc' pre' H' _ st hD hp ha he => ⟨⟨acc', pre', hD, ha, by omega, he⟩, fun b o q => ?_⟩
  have nb : b ≠ Dl := fun z => by rw [z, hn] at q; cases q
  exact st b o nb (q5 _ _ q)

def dBlk (X : Cx) (Y : Wy) (scope : Scope) (e : Expr) (m : DS → R D) : Prop := ∀ (s : Shared) (H : Hp) (C : Addr) (cl : List (Str × Addr)) (fp : List Addr), DE (X.blk s H scope (compEnvC scope cl C X.env) fp) (noX Y) e m
def tBlk (X : Cx) (Y : Wy) (scope : Scope) (es : List Expr) (m : DS → R Bool) : Prop := ∀ (s : Shared) (H : Hp) (C : Addr) (cl : List (Str × Addr)) (fp : List Addr), DTs (X.blk s H scope (compEnvC scope cl C X.env) fp) (noX Y) es m
theorem comp_fin {K : PySem.W.Frag} {A : Addr → Prop} {σ : St} {δ : DS} {H H1 : Hp} {Dl : Addr} {j : Nat} {mt : DS → R Bool} {me : DS → R D} {tot : List D} {n : Nat} {Hf : Hp} {Q : VK} (t1 : Same H H1) (hn : H1 Dl = none) (cs : CS K A σ δ H1 Dl j mt me tot [] n Hf)
    {Z : Wx} (w : WpL K Z A H (.ok tot) Q) : Q (.ref Dl) Hf := by
  obtain ⟨⟨acc, pre, q1, q2, q3, ys, q4, q6⟩, q5⟩ := cs
  unfold compM at q4
  cases q4
  rw [List.append_nil] at q6
  subst q6
  exact w Dl acc Hf (t1.trans q5) (Same.free t1 hn) q1 q2
abbrev NSem (X : Cx) (Y : Wy) (t : TE) (m : DS → R (List D)) : Prop := ∀ (σ : St) (δ : DS) (H : Hp) (A : Addr → Prop), Cov A H → SR X.K A σ δ H → ∀ Q : VK, WpL X.K (Y.at σ) A H (m δ) Q → t σ H Q
/-- [elt for x in e if ..], e a list or a tuple -/
theorem comp_sem {vs0 : List Nat} {j : Nat} {mi me : DS → R D} {mt : DS → R Bool} {ti : TE} (qi : ∀ (σ : St) (δ : DS) (H : Hp) (A : Addr → Prop), Cov A H → SR X.K A σ δ H → ∀ Q : VK, WpE X.K (Y.at σ) A H (mi δ) Q → ti σ H Q)
    (hw : ∀ σ x, wipe ((wipe σ vs0).set j (some x)) vs0 = wipe σ vs0) : NSem X Y (tLc (fun σ H R => iList X.K ti σ H R ∨ iTup X.K ti σ H R) (gName j) (canT X.K (noX Y) mt) (canE X.K (noX Y) me) vs0) (mComp vs0 j mi mt me) := fun σ δ H A c s Q w => by
  unfold mComp at w
  cases e : mi δ with
  | bad => rw [e] at w; exact w.elim
  | ex k => rw [e] at w; exact .inl (qi σ δ H A c s _ (by rw [e]; exact w))
  | ok d =>
    rw [e] at w
    dsimp only [R.bind] at w
    have key : ∀ (ds : List D), WpL X.K (Y.at σ) A H (R.when (ltOk ds.length) (compM j mt me (wipeD δ vs0) ds)) Q → ds.length < sizeLine ∧ ∃ tot, compM j mt me (wipeD δ vs0) ds = .ok tot ∧ WpL X.K (Y.at σ) A H (.ok tot) Q := fun ds w => by
      obtain ⟨hb, w⟩ := WpL.when w
      refine ⟨of_decide_eq_true hb, ?_⟩
      have nox : ∀ xs, ∀ n, compM j mt me (wipeD δ vs0) xs ≠ .ex n := fun xs => by
        induction xs with
        | nil => intro n q; unfold compM at q; cases q
        | cons x xs ih =>
          intro n q
          unfold compM at q
          split at q
          · split at q
            · rename_i y _
              cases e3 : compM j mt me (wipeD δ vs0) xs with
              | bad => rw [e3] at q; cases q
              | ex k => exact ih k e3
              | ok z => rw [e3] at q; cases q
            · cases q
          · exact ih n q
          · cases q
      cases e2 : compM j mt me (wipeD δ vs0) ds with
      | bad => rw [e2] at w; exact w.elim
      | ex k => exact absurd e2 (nox ds k)
      | ok tot => rw [e2] at w; exact ⟨tot, rfl, w⟩
    cases d with
    | list ds =>
      obtain ⟨hz, tot, e2, w⟩ := key ds w
      refine .inl (qi σ δ H A c s _ ?_)
      rw [e]
      intro v H1 t1 r1
      obtain ⟨a, us, rfl, h1, h2⟩ := dp_list r1
      have ha := h2.len
      refine ⟨a, rfl, ⟨us, sqL_same mask_le h1⟩, fun Dl hD => ?_⟩
      refine lc_list (K := X.K) (a := a) (xs := us) (fun i H' => CS X.K A (wipe σ vs0) (wipeD δ vs0) H1 Dl j mt me tot (ds.drop i) i H') ⟨⟨[], [], upd_same, .nil, Nat.zero_le _, tot, e2, rfl⟩, same_upd hD⟩ (fun i H' _ cs => sqL_same cs.same (sqL_same mask_le h1)) (fun i x H' hx cs => ?_) (fun H' cs => ?_)
      · obtain ⟨dx, hd, r⟩ := h2.get2 hx
        exact comp_step (Y := Y) (c.mono t1) hD (s.mono t1) hz (hw σ) hd (fun B hB => Dp.same (fun b o q => by
          rw [mask_some] at q ⊢
          refine ⟨fun z => (hB b z).elim q.1 fun z => ?_, cs.same _ _ q.2⟩
          rw [z, hD] at q; cases q.2) r) cs
      · have e0 : ds.drop us.length = [] := by rw [ha, List.drop_length]
        rw [e0] at cs
        exact comp_fin t1 hD cs w
    | tuple ds =>
      obtain ⟨hz, tot, e2, w⟩ := key ds w
      refine .inr (qi σ δ H A c s _ ?_)
      rw [e]
      intro v H1 t1 r1
      obtain ⟨a, us, rfl, h1, h2⟩ := dp_tup r1
      have ha := h2.len
      refine ⟨a, rfl, ⟨us, sqT_same mask_le h1⟩, fun Dl hD => ?_⟩
      refine lc_tup (K := X.K) (a := a) (xs := us) (fun i H' => CS X.K A (wipe σ vs0) (wipeD δ vs0) H1 Dl j mt me tot (ds.drop i) i H') ⟨⟨[], [], upd_same, .nil, Nat.zero_le _, tot, e2, rfl⟩, same_upd hD⟩ (fun i H' _ cs => sqT_same cs.same (sqT_same mask_le h1)) (fun i x H' hx cs => ?_) (fun H' cs => ?_)
      · obtain ⟨dx, hd, r⟩ := h2.get2 hx
        exact comp_step (Y := Y) (c.mono t1) hD (s.mono t1) hz (hw σ) hd (fun B hB => Dp.same (fun b o q => by
          rw [mask_some] at q ⊢
          refine ⟨fun z => (hB b z).elim q.1 fun z => ?_, cs.same _ _ q.2⟩
          rw [z, hD] at q; cases q.2) r) cs
      · have e0 : ds.drop us.length = [] := by rw [ha, List.drop_length]
        rw [e0] at cs
        exact comp_fin t1 hD cs w
    | _ => exact w.elim
section
variable {elt tg it : Expr} {ifs : List Expr} {scope : Scope} {own : List (Str × Nat)} {pos : Pos} {j : Nat} {mi me : DS → R D} {mt : DS → R Bool}
theorem dn_comp (hc : X.calm = true) (hN : X.N.Nodup) (hi : DE X Y it mi) (ok : BlkOk X.N X.env.scope scope own)
    (hg : ∀ (s : Shared) (H : Hp) (C : Addr) (cl : List (Str × Addr)) (fp : List Addr), PG (X.blk s H scope (compEnvC scope cl C X.env) fp) tg (gName j)) (ht : tBlk X Y scope ifs mt) (he : dBlk X Y scope elt me)
    (hw : ∀ σ x, wipe ((wipe σ (own.map (·.2))).set j (some x)) (own.map (·.2)) = wipe σ (own.map (·.2))) (hs : ∀ x, foldedSetIterable it X.env x = pure x := by intro _; rfl) :
    DN X Y (.ListComp elt [⟨tg, it, ifs, 0⟩] scope pos) (mComp (own.map (·.2)) j mi mt me) := by
  obtain ⟨ti, pi, qi⟩ := hi
  exact ⟨_, pe_lc (tt := canT X.K (noX Y) mt) (te := canE X.K (noX Y) me) hc hN (PI.orD (pi_list pi) (pi_tup pi)) ok hg (fun s H C cl fp => (ht s H C cl fp).can) (fun s H C cl fp => (he s H C cl fp).can) hs, comp_sem qi hw⟩
/-- name = [elt for x in e if ..], on one line, the name a local -/
theorem dn_compS {i : Nat} {y : Str} {py spos : Pos} (hy : X.N[i]? = some y) (hyl : X.env.scope.names.lookup y = some .local) (hsw : swapsWith (.ListComp elt [⟨tg, it, ifs, 0⟩] scope pos) (some (.Name y py)) spos.line X.env = pure true)
    (hc : X.calm = true) (hN : X.N.Nodup) (hi : DE X Y it mi) (ok : BlkOk X.N X.env.scope scope own)
    (hg : ∀ (s : Shared) (H : Hp) (C : Addr) (cl : List (Str × Addr)) (fp : List Addr), PG (X.blk s H scope (compEnvC scope cl C X.env) fp) tg (gName j)) (ht : tBlk X Y scope ifs mt) (he : dBlk X Y scope elt me)
    (hw : ∀ σ x, wipe ((wipe σ (own.map (·.2))).set j (some x)) (own.map (·.2)) = wipe σ (own.map (·.2))) (hs : ∀ x, foldedSetIterable it X.env x = pure x := by intro _; rfl) :
    ∃ t, PS X (.Assign [.Name y py] (.ListComp elt [⟨tg, it, ifs, 0⟩] scope pos) spos) (tAsg t (gName i)) ∧ NSem X Y t (mComp (own.map (·.2)) j mi mt me) := by
  obtain ⟨ti, pi, qi⟩ := hi
  exact ⟨_, ps_setLc (tt := canT X.K (noX Y) mt) (te := canE X.K (noX Y) me) hc hN hy hyl hsw (PI.orD (pi_list pi) (pi_tup pi)) ok hg (fun s H C cl fp => (ht s H C cl fp).can) (fun s H C cl fp => (he s H C cl fp).can) hs, comp_sem qi hw⟩
end
def mCompR (vs : List Nat) (j : Nat) (ms : DS → R (List D)) (mt : DS → R Bool) (me : DS → R D) : DS → R (List D) := fun δ => (ms δ).bind fun ds => match ds with
  | [.int n] => R.when (decide (-(2 ^ 62) ≤ n ∧ n.toNat < sizeLine)) (compM j mt me (wipeD δ vs) ((List.range n.toNat).map fun i => .int (i : Nat)))
  | _ => .bad
theorem compR_sem {vs0 : List Nat} {j : Nat} {m1 me : DS → R D} {mt : DS → R Bool} {ti : TA} (qi : ∀ (σ : St) (δ : DS) (H : Hp) (A : Addr → Prop), Cov A H → SR X.K A σ δ H → ∀ Q : List V → Hp → Prop, WpA X.K (Y.at σ) A H (mCons m1 mNil δ) Q → ti σ H Q)
    (hw : ∀ σ x, wipe ((wipe σ vs0).set j (some x)) vs0 = wipe σ vs0) : NSem X Y (tLc (iRng1 ti) (gName j) (canT X.K (noX Y) mt) (canE X.K (noX Y) me) vs0) (mCompR vs0 j (mCons m1 mNil) mt me) := fun σ δ H A c s Q w => by
  refine qi σ δ H A c s _ ?_
  unfold mCompR at w
  cases e : mCons m1 mNil δ with
  | bad => rw [e] at w; exact w.elim
  | ex k => rw [e] at w; exact w
  | ok ds =>
    rw [e] at w
    dsimp only [R.bind] at w
    refine fun vs H1 t1 r1 => ?_
    split at w
    · rename_i n
      obtain ⟨v, rfl, r2⟩ := dpAll1 r1
      cases r2
      obtain ⟨hb, w⟩ := WpL.when w
      obtain ⟨b1, b2⟩ := of_decide_eq_true hb
      refine ⟨n, rfl, b1, ?_, fun Dl hD => ?_⟩
      · have : (sizeLine : Nat) < 2 ^ 62 := by decide
        omega
      have hL : ((List.range n.toNat).map fun i : Nat => (PyData.int (i : Nat) : D)).length = n.toNat := by rw [List.length_map, List.length_range]
      generalize hds : ((List.range n.toNat).map fun i : Nat => (PyData.int (i : Nat) : D)) = ds at w hL
      have nox : ∀ xs, ∀ n, compM j mt me (wipeD δ vs0) xs ≠ .ex n := fun xs => by
        induction xs with
        | nil => intro n q; unfold compM at q; cases q
        | cons x xs ih =>
          intro n q
          unfold compM at q
          split at q
          · split at q
            · rename_i y _
              cases e3 : compM j mt me (wipeD δ vs0) xs with
              | bad => rw [e3] at q; cases q
              | ex k => exact ih k e3
              | ok z => rw [e3] at q; cases q
            · cases q
          · exact ih n q
          · cases q
      cases e2 : compM j mt me (wipeD δ vs0) ds with
      | bad => rw [e2] at w; exact w.elim
      | ex k => exact absurd e2 (nox ds k)
      | ok tot =>
        rw [e2] at w
        refine lc_range (lo := 0) (n := n.toNat) (fun i H' => CS X.K A (wipe σ vs0) (wipeD δ vs0) H1 Dl j mt me tot (ds.drop i) i H') ⟨⟨[], [], upd_same, .nil, Nat.zero_le _, tot, e2, rfl⟩, same_upd hD⟩ (fun i H' hx cs => ?_) (fun H' cs => ?_)
        · have hd : ds[i]? = some (.int (i : Nat)) := by rw [← hds]; exact range_at hx
          rw [Int.zero_add]
          exact comp_step (Y := Y) (c.mono t1) hD (s.mono t1) (by omega) (hw σ) hd (fun B hB => .int _) cs
        · have e0 : ds.drop n.toNat = [] := List.drop_of_length_le (by omega)
          rw [e0] at cs
          exact comp_fin t1 hD cs w
    · exact w.elim
section
variable {elt tg a : Expr} {ifs : List Expr} {scope : Scope} {own : List (Str × Nat)} {p pos pos' : Pos} {j : Nat} {m1 me : DS → R D} {mt : DS → R Bool}
theorem dn_compR (hc : X.calm = true) (hN : X.N.Nodup) (hgl : Gl X "range") (hm : X.mg "range" = none) (ha : DE X Y a m1) (ok : BlkOk X.N X.env.scope scope own)
    (hg : ∀ (s : Shared) (H : Hp) (C : Addr) (cl : List (Str × Addr)) (fp : List Addr), PG (X.blk s H scope (compEnvC scope cl C X.env) fp) tg (gName j)) (ht : tBlk X Y scope ifs mt) (he : dBlk X Y scope elt me)
    (hw : ∀ σ x, wipe ((wipe σ (own.map (·.2))).set j (some x)) (own.map (·.2)) = wipe σ (own.map (·.2))) (hs1 : starEach [a] X.env = [(false, eval a X.env)] := by rfl) (hs : ∀ x, foldedSetIterable (.Call (.Name "range" p) [a] [] pos') X.env x = pure x := by intro _; rfl) :
    DN X Y (.ListComp elt [⟨tg, .Call (.Name "range" p) [a] [] pos', ifs, 0⟩] scope pos) (mCompR (own.map (·.2)) j (mCons m1 mNil) mt me) := by
  obtain ⟨ti, pi, qi⟩ := da_cons ha da_nil hs1
  exact ⟨_, pe_lc (tt := canT X.K (noX Y) mt) (te := canE X.K (noX Y) me) hc hN (pi_range1 hgl hm pi hs1) ok hg (fun s H C cl fp => (ht s H C cl fp).can) (fun s H C cl fp => (he s H C cl fp).can) hs, compR_sem qi hw⟩
theorem dn_compRS {i : Nat} {y : Str} {py spos : Pos} (hy : X.N[i]? = some y) (hyl : X.env.scope.names.lookup y = some .local) (hsw : swapsWith (.ListComp elt [⟨tg, .Call (.Name "range" p) [a] [] pos', ifs, 0⟩] scope pos) (some (.Name y py)) spos.line X.env = pure true)
    (hc : X.calm = true) (hN : X.N.Nodup) (hgl : Gl X "range") (hm : X.mg "range" = none) (ha : DE X Y a m1) (ok : BlkOk X.N X.env.scope scope own)
    (hg : ∀ (s : Shared) (H : Hp) (C : Addr) (cl : List (Str × Addr)) (fp : List Addr), PG (X.blk s H scope (compEnvC scope cl C X.env) fp) tg (gName j)) (ht : tBlk X Y scope ifs mt) (he : dBlk X Y scope elt me)
    (hw : ∀ σ x, wipe ((wipe σ (own.map (·.2))).set j (some x)) (own.map (·.2)) = wipe σ (own.map (·.2))) (hs1 : starEach [a] X.env = [(false, eval a X.env)] := by rfl) (hs : ∀ x, foldedSetIterable (.Call (.Name "range" p) [a] [] pos') X.env x = pure x := by intro _; rfl) :
    ∃ t, PS X (.Assign [.Name y py] (.ListComp elt [⟨tg, .Call (.Name "range" p) [a] [] pos', ifs, 0⟩] scope pos) spos) (tAsg t (gName i)) ∧ NSem X Y t (mCompR (own.map (·.2)) j (mCons m1 mNil) mt me) := by
  obtain ⟨ti, pi, qi⟩ := da_cons ha da_nil hs1
  exact ⟨_, ps_setLc (tt := canT X.K (noX Y) mt) (te := canE X.K (noX Y) me) hc hN hy hyl hsw (pi_range1 hgl hm pi hs1) ok hg (fun s H C cl fp => (ht s H C cl fp).can) (fun s H C cl fp => (he s H C cl fp).can) hs, compR_sem qi hw⟩
end
end
end L2
namespace L2
open PySem PySem.Spec PyProof.Rows
/-! ## a def's promise over data -/
def SpD (K : PySem.W.Frag) (cv : Nat → Value) (f : List D → R D) : Sp := fun vs H Q E => ∃ A ds, Cov A H ∧ DpAll K (mask A H) vs ds ∧ WpE K ⟨cv, E⟩ A H (f ds) Q
/-- one that hands back a new list -/
def SpN (K : PySem.W.Frag) (cv : Nat → Value) (f : List D → R (List D)) : Sp := fun vs H Q E => ∃ A ds, Cov A H ∧ DpAll K (mask A H) vs ds ∧ WpL K ⟨cv, E⟩ A H (f ds) Q
/-- as many arguments -/
def chk {α : Type} (n : Nat) (f : List D → R α) : List D → R α := fun ds => R.when (decide (ds.length = n)) (f ds)
section
variable {X : Cx} {Y : Wy} {CX : CXT} {k : Nat} {f : Addr} {fd : FuncData} {ps : List Str} {x : Str} {p pos : Pos} {e : Expr} {es : List Expr} {ms : DS → R (List D)} {g : List D → R D} {gn : List D → R (List D)}
theorem de_call (F : FnOk X.prog X.w X.K X.mg X.base CX k f fd ps (SpD X.K Y.cv g)) (hr : Room k X.A) (hg : Gl X x) (hm : X.mg x = some (.ref f)) (hk : PySem.W.keepIn X.K (.ref f) = true) (hb : Binds X.K fd ps []) (hx : ∀ σ, PassesAt CX X σ (Y.E σ)) (ha : DA X Y (e :: es) ms)
    (hdb : (x == ("__debug__" : Str)) = false := by decide) (he : starEach (e :: es) X.env = (false, eval e X.env) :: starEach es X.env := by rfl) (hpl : (backTo pos (starEach es X.env)).any (·.1) = false := by rfl) : DE X Y (.Call (.Name x p) (e :: es) [] pos) (mCall g ms) := by
  obtain ⟨t, pa, q⟩ := ha
  refine ⟨_, pe_callSD F hr hg hm hk hb .nil hx pa hdb he hpl, fun σ δ H A c s Q w => da_seq (Y := Y) q c s w fun ds vs H1 t1 r1 w1 => ?_⟩
  exact ⟨A, ds, c.mono t1, by rw [List.append_nil]; exact r1, w1⟩
theorem dn_call (F : FnOk X.prog X.w X.K X.mg X.base CX k f fd ps (SpN X.K Y.cv gn)) (hr : Room k X.A) (hg : Gl X x) (hm : X.mg x = some (.ref f)) (hk : PySem.W.keepIn X.K (.ref f) = true) (hb : Binds X.K fd ps []) (hx : ∀ σ, PassesAt CX X σ (Y.E σ)) (ha : DA X Y (e :: es) ms)
    (hdb : (x == ("__debug__" : Str)) = false := by decide) (he : starEach (e :: es) X.env = (false, eval e X.env) :: starEach es X.env := by rfl) (hpl : (backTo pos (starEach es X.env)).any (·.1) = false := by rfl) : DN X Y (.Call (.Name x p) (e :: es) [] pos) (mCallN gn ms) := by
  obtain ⟨t, pa, q⟩ := ha
  refine ⟨_, pe_callSD F hr hg hm hk hb .nil hx pa hdb he hpl, fun σ δ H A c s Q w => da_seqN (Y := Y) q c s w fun ds vs H1 t1 r1 w1 => ?_⟩
  exact ⟨A, ds, c.mono t1, by rw [List.append_nil]; exact r1, w1⟩
end
def fin : R Out → R D
  | .ok (.nx _) => .ok .none
  | .ok (.rt d) => .ok d
  | .ok (.rl ds) => .ok (.list ds)
  | .ok (.ex n _) => .ex n
  | _ => .bad
def finL : R Out → R (List D)
  | .ok (.rl ds) => .ok ds
  | .ok (.ex n _) => .ex n
  | _ => .bad
def startD (N : List Str) (ds : List D) : DS := ds.map some ++ List.replicate (N.length - ds.length) none
section
variable {P : Program} {w : World} {K : PySem.W.Frag} {mg : Str → Option Value} {base : Heap} {x qual : Str} {st : Stmt} {f : Addr} {fd : FuncData} {N ps : List Str} {k : Nat}
theorem ss_start {A : Addr → Prop} {O : List Nat} {H : Hp} {vs : List V} {ds : List D} (c : Cov A H) (r : DpAll K (mask A H) vs ds) (hO : ∀ i ∈ O, ds.length ≤ i) : SS K A O [] H (start N vs) (startD N ds) H := by
  have hl := r.len
  have get : ∀ (i : Nat) (d : D), (startD N ds)[i]? = some (some d) → ds[i]? = some d := fun i d e => by
    unfold startD at e
    by_cases h : i < ds.length
    · rw [List.getElem?_append_left (by simpa using h), List.getElem?_map] at e
      cases q : ds[i]? with
      | none => rw [q] at e; cases e
      | some y => rw [q] at e; cases e; rfl
    · rw [List.getElem?_append_right (by simpa using h)] at e
      rw [List.getElem?_replicate] at e
      split at e <;> cases e
  have noO : ∀ i ∈ O, ∀ d, (startD N ds)[i]? ≠ some (some d) := fun i ho d e => by
    have h := (List.getElem?_eq_some_iff.mp (get i d e)).1
    have := hO i ho
    omega
  have ae : (fun a => A a ∨ ∃ j ∈ O, (∃ d, (startD N ds)[j]? = some (some d)) ∧ a = (fun _ => 0 : Nat → Addr) j) = A := by
    funext a
    exact propext ⟨fun q => q.elim id fun ⟨j, jo, ⟨d, jd⟩, _⟩ => absurd jd (noO j jo d), .inl⟩
  refine ⟨⟨fun _ => 0, fun i d ho e => ?_, fun i d ho e => absurd e (noO i ho d), fun i j ho _ ⟨d, q⟩ => absurd q (noO i ho d), fun p hp => by cases hp⟩, ?_, Same.refl H, c⟩
  · rw [ae]
    obtain ⟨v, q1, q2⟩ := r.get (get i d e)
    refine ⟨v, ?_, q2⟩
    unfold start
    have h : i < vs.length := (List.getElem?_eq_some_iff.mp q1).1
    rw [List.getElem?_append_left (by simpa using h), List.getElem?_map, q1]; rfl
  · unfold start startD
    simp only [List.length_append, List.length_map, List.length_replicate, hl]
/-- a def by its body over data -/
theorem fn_D {cv : Nat → Value} {m : DS → R Out} (O : List Nat) (F : Fun K x qual st f fd) (S : FnScope N ps (defScope st)) (hO : ∀ i ∈ O, ps.length ≤ i)
    (hbody : ∀ (cdv : Value) (A : Around) (outer : List Env) (s : Shared) (H : Hp) (E : XK), Room k (A.deeper (envOfC qual (defScope st) s.heap.objs.size f cdv)) →
      DSs (cxOf (L2.CX P w) P w K mg base N qual (defScope st) f cdv A outer s H E) ⟨cv, fun _ => E⟩ O (defBody st) m) :
    FnOk P w K mg base (L2.CX P w) (k + 1) f fd ps (SpD K cv (chk ps.length fun ds => fin (m (startD N ds)))) := by
  refine F.okX S (fun vs H Q E h => ?_) (fun cdv A outer s H vs Q E hr h => ?_)
  · obtain ⟨A, ds, c, r, w⟩ := h
    obtain ⟨e, _⟩ := WpE.when w
    rw [r.len]
    exact of_decide_eq_true e
  · obtain ⟨A0, ds, c, r, w'⟩ := h
    obtain ⟨e, w'⟩ := WpE.when w'
    have hl : ds.length = ps.length := of_decide_eq_true e
    obtain ⟨t, p, q⟩ := hbody cdv A outer s H E hr
    refine ⟨t, p, q A0 [] H (start N vs) (startD N ds) H _ (ss_start c r fun i ho => by rw [hl]; exact hO i ho) ?_⟩
    dsimp only at w'
    cases em : m (startD N ds) with
    | bad => rw [em] at w'; exact w'
    | ex n => rw [em] at w'; exact w'.elim
    | ok o =>
      rw [em] at w'
      cases o with
      | nx δ => exact fun σ H' s' => w' _ H' s'.same .non
      | rt d => exact fun v H' t r => w' v H' t r
      | rl ds => exact fun p vs H' t np hp r => w' _ H' t (.lst (SqL.of (mask_some.mpr ⟨c.new np, hp⟩)) (DpAll.same (mask_sub fun a h => .inl h) r))
      | bk δ => exact w'.elim
      | ct δ => exact w'.elim
      | ex n δ => exact fun σ H' s' => w' H' s'.same
theorem fn_N {cv : Nat → Value} {m : DS → R Out} (O : List Nat) (F : Fun K x qual st f fd) (S : FnScope N ps (defScope st)) (hO : ∀ i ∈ O, ps.length ≤ i)
    (hbody : ∀ (cdv : Value) (A : Around) (outer : List Env) (s : Shared) (H : Hp) (E : XK), Room k (A.deeper (envOfC qual (defScope st) s.heap.objs.size f cdv)) →
      DSs (cxOf (L2.CX P w) P w K mg base N qual (defScope st) f cdv A outer s H E) ⟨cv, fun _ => E⟩ O (defBody st) m) :
    FnOk P w K mg base (L2.CX P w) (k + 1) f fd ps (SpN K cv (chk ps.length fun ds => finL (m (startD N ds)))) := by
  refine F.okX S (fun vs H Q E h => ?_) (fun cdv A outer s H vs Q E hr h => ?_)
  · obtain ⟨A, ds, c, r, w⟩ := h
    obtain ⟨e, _⟩ := WpL.when w
    rw [r.len]
    exact of_decide_eq_true e
  · obtain ⟨A0, ds, c, r, w'⟩ := h
    obtain ⟨e, w'⟩ := WpL.when w'
    have hl : ds.length = ps.length := of_decide_eq_true e
    obtain ⟨t, p, q⟩ := hbody cdv A outer s H E hr
    refine ⟨t, p, q A0 [] H (start N vs) (startD N ds) H _ (ss_start c r fun i ho => by rw [hl]; exact hO i ho) ?_⟩
    dsimp only at w'
    cases em : m (startD N ds) with
    | bad => rw [em] at w'; exact w'
    | ex n => rw [em] at w'; exact w'.elim
    | ok o =>
      rw [em] at w'
      cases o with
      | rl ds => exact fun p vs H' t np hp r => w' _ vs H' t np hp r
      | ex n δ => exact fun σ H' s' => w' H' s'.same
      | _ => exact w'.elim
end
/-! ## contexts of a def's body -/
section
variable {X : Cx} {Y : Wy} {E : XK}
theorem pass_def (hs : X.stack = X.env :: X.outer) (hf : X.env.frame = some X.env.locals) (hex : X.ex = []) {E₁ : Value → Shared → Prop}
    (hx : X.xe = fun e s' => wpAny (model X.prog X.w) X.A (leaving X.env e) (fun _ s'' => L2.CX X.prog X.w X.outer X.H_0 X.s_0 E e s'') E₁ s') : ∀ σ, PassesAt (L2.CX X.prog X.w) X σ E := fun σ pins H s e s' I h =>
  passes_call (takes_of hs hf hex hx) (fun _ _ _ _ h => h) pins σ H s e s' I h
theorem pass_blk (hx : X.xe = fun _ _ => False) : ∀ σ, PassesAt (L2.CX X.prog X.w) X σ E0 := fun σ pins H s e s' I h => by
  obtain ⟨_, _, _, _, _, _, _, _, _, _, _, _, z⟩ := h
  exact z.elim
/-! ## raise X(..) -/
def mRaise (n : Nat) (ms : DS → R (List D)) : DS → R Out := fun δ => (ms δ).run δ fun ds => R.when (szOk ds.length) (.ok (.ex n δ))
end
end L2
namespace L2
open PySem PySem.Spec PyProof.Rows
section
variable {X : Cx} {Y : Wy} {O : List Nat}
/-! ## raise X(..) -/
def Wy.wx (Y : Wy) : WX := fun cls d σ H => Y.E σ cls d H
def mRaiseD (n : Nat) (ms : DS → R (List D)) : DS → R Out := fun δ => (ms δ).run δ fun ds => R.when (szOk ds.length) (.ok (.ex n δ))
theorem ds_raise {C : Addr} {bmB : List Value} {B newId initId : String} {x : Str} {p pos pos' : Pos} {e : Expr} {es : List Expr} {ms : DS → R (List D)} (n : Nat) (hc : X.calm = true) (tk : Takes X Y.wx) (F : ExcBaseFacts B newId initId bmB) (q : PySem.W.excIn X.K C bmB newId = true) (gC : X.mg x = some (.ref C))
    (kC : PySem.W.keepIn X.K (.ref C) = true) (r : Raises X (.ref C)) (hn : Y.cv n = .ref C) (hg : Gl X x) (ha : DA X Y (e :: es) ms) (hdb : (x == ("__debug__" : Str)) = false := by decide)
    (he : starEach (e :: es) X.env = (false, eval e X.env) :: starEach es X.env := by rfl) (hpl : (backTo pos (starEach es X.env)).any (·.1) = false := by rfl) : DSt X Y O (.Raise (some (.Call (.Name x p) (e :: es) [] pos)) none pos') (mRaiseD n ms) := by
  obtain ⟨t, pa, qa⟩ := ha
  refine ⟨_, ps_raise hc tk (pmk_ownA F q gC kC r hg pa hdb he hpl), fun A0 T H0 σ δ H Dn s w => qa σ δ H A0 s.covH s.read _ ?_⟩
  unfold mRaiseD at w
  cases e : ms δ with
  | bad => rw [e] at w; exact w
  | ex k => rw [e] at w; exact fun H' t => w σ H' (s.keep t)
  | ok ds =>
    rw [e] at w
    obtain ⟨hb, w⟩ := R.when_ok (fun r => WpS X.K Y A0 O T H0 r Dn) w id
    exact fun vs H1 t1 r1 => ⟨by rw [r1.len]; exact of_decide_eq_true hb, by rw [← hn]; exact w σ H1 (s.keep t1)⟩
/-! ## try: .. except A: .. except B: .. -/
def canS (K : PySem.W.Frag) (Y : Wy) (O : List Nat) (m : DS → R Out) : TS := fun Dn σ H => ∃ A0 T H0 δ, SS K A0 O T H0 σ δ H ∧ WpS K Y A0 O T H0 (m δ) Dn
theorem DSs.can {b : List Stmt} {m : DS → R Out} (h : DSs X Y O b m) : PSs X b (canS X.K Y O m) := by
  obtain ⟨t, p, q⟩ := h
  exact ⟨fun pins s σ H Dn I ⟨A0, T, H0, δ, ss, w⟩ => p.run pins s σ H Dn I (q A0 T H0 σ δ H Dn ss w)⟩
def noEx : R Out → R Out
  | .ok (.ex _ _) => .bad
  | r => r
abbrev Hd := (Nat → Option Bool) × (DS → R Out)
def hand : List Hd → Nat → DS → R Out
  | [], n, δ => .ok (.ex n δ)
  | (p, h) :: r, n, δ => match p n with
    | some true => noEx (h δ)
    | some false => hand r n δ
    | none => .bad
def mTry (m : DS → R Out) (hs : List Hd) : DS → R Out := fun δ => match m δ with
  | .ok (.ex n δ') => hand hs n δ'
  | r => r
def inTry (Y : Wy) (W : WX) : Wy := ⟨Y.cv, fun σ cls d H => W cls d σ H⟩
inductive HdsD (X : Cx) (Y : Wy) (O : List Nat) : List ExceptHandler → List (Value × (Addr → Value → Option Addr → TS)) → List Hd → Prop
  | nil : HdsD X Y O [] [] []
  | cons {x : Str} {c : Value} {p : Nat → Option Bool} {m : DS → R Out} {b₀ : Stmt} {suite : List Stmt} {np pos' : Pos} {hds : List ExceptHandler} {l : List (Value × (Addr → Value → Option Addr → TS))} {hs : List Hd} (hc : Names X x c) (hp : ∀ n b, p n = some b → PySem.W.exmOne X.K (Y.cv n) c = some b)
      (hsu : ∀ (a : Addr) (oe : Obj) (pn : List (Addr × Obj)), DSs (X.suite a ((a, oe) :: pn)) (noX Y) O (b₀ :: suite) m) (r : HdsD X Y O hds l hs) :
      HdsD X Y O (.ExceptHandler (some (.Name x np)) none (b₀ :: suite) pos' :: hds) ((c, fun _ _ _ => canS X.K (noX Y) O m) :: l) ((p, m) :: hs)
theorem HdsD.ok {hds : List ExceptHandler} {l : List (Value × (Addr → Value → Option Addr → TS))} {hs : List Hd} (h : HdsD X Y O hds l hs) : HdsOk X hds l := by
  induction h with
  | nil => exact .nil
  | cons hc hp hsu r ih => exact .cons hc (fun a oe cls d pn _ _ => (hsu a oe pn).can) ih
theorem WpS.calm {K : PySem.W.Frag} {A0 : Addr → Prop} {T : List Tm} {H0 : Hp} {r : R Out} {Dn : Ends} (w : WpS K Y A0 O T H0 (noEx r) Dn) : WpS K (noX Y) A0 O T H0 r Dn := by
  cases r with
  | bad => exact w
  | ex n => exact w
  | ok o => cases o <;> first | exact w | exact w.elim
theorem HdsD.wish {A0 : Addr → Prop} {T : List Tm} {H0 H' : Hp} {Dn : Ends} {σ' : St} {δ' : DS} {n : Nat} {hds : List ExceptHandler} {l : List (Value × (Addr → Value → Option Addr → TS))} {hs : List Hd} (h : HdsD X Y O hds l hs) (w : WpS X.K Y A0 O T H0 (hand hs n δ') Dn)
    (s : SS X.K A0 O T H0 σ' δ' H') : wMany X.K Y.wx Dn l (Y.cv n) none σ' H' := by
  induction h with
  | nil => exact w σ' H' s
  | @cons x c p m b₀ suite np pos' hds l hs hc hp hsu r ih =>
    unfold hand at w
    cases e : p n with
    | none => rw [e] at w; exact w.elim
    | some b =>
      rw [e] at w
      refine ⟨b, hp n b e, fun hb a _ => ?_, fun hb => ?_⟩
      · subst hb
        exact ⟨A0, T, H0, δ', s, WpS.calm w⟩
      · subst hb
        exact ih w
theorem ds_try {body : List Stmt} {h₀ : ExceptHandler} {hds : List ExceptHandler} {l : List (Value × (Addr → Value → Option Addr → TS))} {hs : List Hd} {m : DS → R Out} {pos : Pos} (h1 : X.stack = X.env :: X.outer) (hf : X.env.frame = some X.env.locals) (tk : Takes X Y.wx)
    (hb : ∀ (W : WX) (pn : List (Addr × Obj)) (xe : Value → Shared → Prop), Takes (X.tr pn xe) W → PassesOwn (model X.prog X.w) X.A X.env xe → DSs (X.tr pn xe) (inTry Y W) O body m) (hh : HdsD X Y O (h₀ :: hds) l hs) :
    DSt X Y O (.Try body (h₀ :: hds) [] [] pos) (mTry m hs) := by
  refine ⟨_, ps_try_many (tb := fun W => canS X.K (inTry Y W) O m) h1 hf tk (fun W pn xe t p => (hb W pn xe t p).can) hh.ok, fun A0 T H0 σ δ H Dn s w => ⟨A0, T, H0, δ, s, ?_⟩⟩
  unfold mTry at w
  cases e : m δ with
  | bad => rw [e] at w; exact w
  | ex k => rw [e] at w; exact w
  | ok o =>
    rw [e] at w
    cases o with
    | ex n δ' => exact fun σ' H' s' => hh.wish w s'
    | _ => exact w
end
end L2
namespace PySem
/-! ## sum of a list of bools -/
section
variable {prog : Program} {w : World} {A : Around} {R : Result → Shared → Prop} {It : Addr} {fq wr : List Addr} {n : Nat} {P : Nat → Value → Prop} {St : Nat → Heap → Prop}
theorem dl_sum_turns (W : Walks prog w A.in1 It fq wr n P St) (num : Nat → Int) (hb : ∀ i v, P i v → ∃ b : Bool, v = .bool b ∧ num i = (if b = true then (1 : Int) else 0)) (G : Addr) (hG : G ∉ fq) :
    ∀ (k i : Nat) (s : Shared) (tA : Tok) (c : Nat) (stg : Int), (stg = 0 ∨ stg = 2) → n - i = k → i ≤ n → St i s.heap → s.heap.get? G = some { cls := .type "list", dict := none, data := .seq #[.int (preSum num i) tA] c, slots := #[] } →
    (∀ g tk t, (∀ b o, b ∉ wr → b ≠ G → s.heap.get? b = some o → g.get? b = some o) → R (.ok (.ret (.int (preSum num n) t))) { s with heap := g, toks := tk }) →
    codeAny (model prog w) A (.builtin "sum.loop" ⟨[.ref It, .ref G, rawInt stg, rawInt 0], []⟩) R s := by
  have hGw : G ∉ wr := fun h => hG (W.sub _ h)
  intro k
  induction k with
  | zero =>
    intro i s tA c stg hstg hk hi hs hg hR
    have hn : i = n := by omega
    subst hn
    refine codeAny_builtin F.entry_sum_loop ?_
    rw [Around.under_plainId F.plain_sum_loop _]
    show wpAny _ A.in1 (seqItems? (.ref G) >>= _) _ _ s
    refine wpAny_bind (wpAny_seqItems hg rfl ?_)
    show wpAny _ A.in1 (tryCatch (pyNext (.ref It)) _ >>= _) _ _ s
    refine wpAny_bind (wpAny_tryCatch (W.done s _ _ hs fun g tk q => ?_))
    exact wpAny_pure (hR g tk tA fun b o h1 _ e => q b o h1 e)
  | succ k ih =>
    intro i s tA c stg hstg hk hi hs hg hR
    have lt : i < n := by omega
    refine codeAny_builtin F.entry_sum_loop ?_
    rw [Around.under_plainId F.plain_sum_loop _]
    show wpAny _ A.in1 (seqItems? (.ref G) >>= _) _ _ s
    refine wpAny_bind (wpAny_seqItems hg rfl ?_)
    show wpAny _ A.in1 (tryCatch (pyNext (.ref It)) _ >>= _) _ _ s
    refine wpAny_bind (wpAny_tryCatch (W.item i s _ _ lt hs fun v g tk hP hs' q => ?_))
    obtain ⟨b, rfl, hv⟩ := hb i v hP
    have hg' := q G _ hGw hg
    rcases hstg with rfl | rfl
    · show wpAny _ A.in1 (if (_ : Bool) = true then (mkInt (preSum num i + (if b = true then (1 : Int) else 0)) >>= _) else _) _ _ _
      rw [← hv]
      split
      · refine wpAny_bind (wpAny_mkInt ?_)
        show wpAny _ A.in1 (updateSeq G (fun _ => #[.int (preSum num i + num i) tk]) >>= _) _ _ _
        refine wpAny_bind ?_
        refine wpAny_updateSeq hg' rfl (wpAny_pure ⟨plainId_quiet F.plain_sum_loop _, ih (i + 1) _ tk _ 0 (Or.inl rfl) (by omega) lt (W.frame _ _ _ hs' fun b hb o e => ?_) (Heap.get?_update_self _ hg' rfl) fun g2 tk2 t2 q2 => ?_⟩)
        · exact (Heap.get?_update_other _ _ (fun h : G = b => hG (by rw [h]; exact hb))).trans e
        · exact hR g2 tk2 t2 fun b o h1 h2 e => q2 b o h1 h2 ((Heap.get?_update_other _ _ (Ne.symm h2)).trans (q b o h1 e))
      · refine wpAny_bind (wpAny_rule ?_)
        refine wpAny_bind (wpAny_attempt (wpAny_holding (add_int_bool ?_)))
        rw [← hv]
        show wpAny _ A.in1 (updateSeq G (fun _ => #[.int (preSum num i + num i) tk]) >>= _) _ _ _
        refine wpAny_bind ?_
        refine wpAny_updateSeq hg' rfl ?_
        have hg2 := Heap.get?_update_self (Obj.mapSeq fun _ => #[Value.int (preSum num i + num i) tk]) hg' rfl
        refine wpAny_bind (wpAny_letGo ?_)
        refine wpAny_bind ?_
        refine wpAny_updateSeq hg2 rfl (wpAny_pure ⟨plainId_quiet F.plain_sum_loop _, ih (i + 1) _ tk _ 2 (Or.inr rfl) (by omega) lt (W.frame _ _ _ hs' fun b hb o e => ?_) (Heap.get?_update_self _ hg2 rfl) fun g2 tk2 t2 q2 => ?_⟩)
        · have n1 : ¬ G = b := fun h => hG (by rw [h]; exact hb)
          exact (Heap.get?_update_other _ _ n1).trans ((Heap.get?_update_other _ _ n1).trans e)
        · exact hR g2 tk2 t2 fun b o h1 h2 e => q2 b o h1 h2 ((Heap.get?_update_other _ _ (Ne.symm h2)).trans ((Heap.get?_update_other _ _ (Ne.symm h2)).trans (q b o h1 e)))
    · show wpAny _ A.in1 ((holding [Value.bool b] (binaryOp .Add (.int (preSum num i) tA) (.bool b))).attempt >>= _) _ _ _
      refine wpAny_bind (wpAny_attempt (wpAny_holding (add_int_bool ?_)))
      rw [← hv]
      show wpAny _ A.in1 (updateSeq G (fun _ => #[.int (preSum num i + num i) tk]) >>= _) _ _ _
      refine wpAny_bind ?_
      refine wpAny_updateSeq hg' rfl ?_
      have hg2 := Heap.get?_update_self (Obj.mapSeq fun _ => #[Value.int (preSum num i + num i) tk]) hg' rfl
      refine wpAny_bind (wpAny_letGo ?_)
      refine wpAny_bind ?_
      refine wpAny_updateSeq hg2 rfl (wpAny_pure ⟨plainId_quiet F.plain_sum_loop _, ih (i + 1) _ tk _ 2 (Or.inr rfl) (by omega) lt (W.frame _ _ _ hs' fun b hb o e => ?_) (Heap.get?_update_self _ hg2 rfl) fun g2 tk2 t2 q2 => ?_⟩)
      · have n1 : ¬ G = b := fun h => hG (by rw [h]; exact hb)
        exact (Heap.get?_update_other _ _ n1).trans ((Heap.get?_update_other _ _ n1).trans e)
      · exact hR g2 tk2 t2 fun b o h1 h2 e => q2 b o h1 h2 ((Heap.get?_update_other _ _ (Ne.symm h2)).trans ((Heap.get?_update_other _ _ (Ne.symm h2)).trans (q b o h1 e)))
end
section
variable {prog : Program} {w : World} {A : Around} {E : Value → Shared → Prop} {s : Shared}
theorem dl_sum_walk {x : Value} {Q : Value → Shared → Prop}
    (h : wpAny (model prog w) A.in1 (pyIter x) (fun it s₂ => ∃ I fp wr n P St num, it = .ref I ∧ Walks prog w A.in1 I fp wr n P St ∧ St 0 s₂.heap ∧ (∀ b ∈ fp, b < s₂.heap.objs.size) ∧
      (∀ i v, P i v → ∃ b : Bool, v = .bool b ∧ num i = (if b = true then (1 : Int) else 0)) ∧
      ∀ g tk t, (∀ b o, b ∉ wr → s₂.heap.get? b = some o → g.get? b = some o) → Q (.int (preSum num n) t) { s₂ with heap := g, toks := tk }) E s) :
    wpAny (model prog w) A (call (.builtin "sum") [x]) Q E s := by
  refine call_function_tree F.kind_sum F.plain_sum F.entry_sum (F.args_sum1 _) ?_
  unfold Builtin.«sum»
  simp only [List.length_cons, List.length_nil]
  rw [if_neg (by decide)]
  refine wpAny_bind (wpAny_of_eq (show Builtin.Builtins.bindParams "sum" ["start"] 0 { } = pure [none] from rfl) ?_)
  refine wpAny_bind (wpAny_mono h (fun it s₂ q => ?_) fun _ _ e => e)
  obtain ⟨I, fp, wr, n, P, St, num, rfl, W, hst, hfp, hv, hQ⟩ := q
  refine wpAny_bind (wpAny_mkInt ?_)
  refine wpAny_bind (wpAny_pure ?_)
  simp only [List.forIn_cons, List.forIn_nil]
  refine wpAny_bind (wpAny_bind (wpAny_bind (wpAny_isInstance (T := "int") (b := false) (typeIs_int _ _ _) sub_int_str ?_)))
  simp only [Bool.false_eq_true, if_false]
  refine wpAny_pure (wpAny_bind (wpAny_bind (wpAny_isInstance (T := "int") (b := false) (typeIs_int _ _ _) sub_int_bytes ?_)))
  simp only [Bool.false_eq_true, if_false]
  refine wpAny_pure (wpAny_bind (wpAny_bind (wpAny_isInstance (T := "int") (b := false) (typeIs_int _ _ _) sub_int_bytearray ?_)))
  simp only [Bool.false_eq_true, if_false]
  refine wpAny_pure (wpAny_pure ?_)
  refine wpAny_bind (wpAny_newObj_type ?_)
  have nf : s₂.heap.objs.size ∉ fp := fun hm => Nat.lt_irrefl _ (hfp _ hm)
  refine wpAny_pure ⟨plainId_quiet F.plain_sum_loop _, dl_sum_turns W num hv s₂.heap.objs.size nf n 0 _ s₂.toks 0 0 (Or.inl rfl) rfl (Nat.zero_le _) (W.frame _ _ _ hst fun b _ o e => Heap.get?_push_of_some _ e) (Heap.get?_push_size _ rfl) fun g tk t q => ?_⟩
  exact hQ g tk t fun b o h1 e => q b o h1 (Nat.ne_of_lt (Heap.lt_size e)) (Heap.get?_push_of_some _ e)
end
end PySem
namespace L2
open PySem PySem.Spec PyProof.Rows
section
variable {X : Cx} {Y : Wy}
def numB (b : Bool) : Int := if b = true then 1 else 0
theorem preSum_bools (bs : List Bool) : ∀ n, n ≤ bs.length → preSum (fun i => numB (bs.getD i false)) n = ((bs.take n).map numB).sum
  | 0, _ => rfl
  | n + 1, h => by
    have ih := preSum_bools bs n (by omega)
    show preSum (fun i => numB (bs.getD i false)) n + numB (bs.getD n false) = _
    rw [ih, List.take_add_one]
    have e : bs[n]? = some (bs.getD n false) := by rw [List.getD_eq_getElem?_getD, List.getElem?_eq_getElem (by omega)]; rfl
    rw [e, List.map_append, List.sum_append]
    simp
def rSumB (K : PySem.W.Frag) : List V → Hp → VK → Prop := fun vs H Q => ∃ (a : Addr) (bs : List Bool), vs = [V.ref a] ∧ SqL K H a (bs.map V.bl) ∧ Q (.int (bs.map numB).sum) H
theorem cr_sumB (hc : X.calm = true) : CallR X (.builtin "sum") (rSumB X.K) := by
  intro pins s σ H vs us Q I r h
  obtain ⟨a, bs, rfl, hs, q⟩ := h
  obtain ⟨its, rv, hl, _⟩ := I.list hs
  rw [Vals.ref1 r]
  have hb := rv.bls
  have hlen : its.length = bs.length := by rw [← rv.length, List.length_map]
  refine dl_sum_walk (iter_any hl.isList fun s₂ e2 st hne => ?_)
  subst e2
  refine ⟨_, _, _, _, _, _, fun i => numB (bs.getD i false), rfl, Walks.list (A := X.A.in1) (I.ok.hd hc) _ a hne its.toArray, st, fun b hb' => ?_, fun i v hv => ?_, fun g tk t hk => ?_⟩
  · rcases List.mem_cons.mp hb' with rfl | hb'
    · obtain ⟨_, e, _⟩ := st.1
      exact Heap.lt_size e
    · rcases List.mem_cons.mp hb' with rfl | hb'
      · obtain ⟨_, e, _⟩ := st.2
        exact Heap.lt_size e
      · cases hb'
  · have hv' : its[i]? = some v := by simpa using hv
    rw [hb, List.getElem?_map] at hv'
    obtain ⟨b, hb2, rfl⟩ := Option.map_eq_some_iff.mp hv'
    exact ⟨b, rfl, by show numB (bs.getD i false) = _; rw [List.getD_eq_getElem?_getD, hb2]; rfl⟩
  · refine ⟨.int _, H, I.kept fun b o eo => hk b o (fun hmem => ?_) (Heap.get?_push_of_some _ eo), ⟨t, ?_⟩, q⟩
    · rcases List.mem_cons.mp hmem with e1 | hmem
      · exact absurd (e1 ▸ Heap.lt_size eo) (Nat.lt_irrefl _)
      · cases hmem
    · have e := preSum_bools bs bs.length (Nat.le_refl _)
      rw [List.take_length] at e
      show Value.int (preSum (fun i => numB (bs.getD i false)) its.toArray.size) t = Value.int _ t
      rw [List.size_toArray, hlen, e]
def gSum : List D → R D := fun ds => match ds with
  | [.list xs] => match boolsD xs with
    | some bs => .ok (.int (bs.map numB).sum)
    | none => .bad
  | _ => .bad
theorem dc_sumB : DCall X (rSumB X.K) gSum := fun Y A H vs ds c hx Q w => by
  unfold gSum at w
  split at w
  · rename_i xs
    obtain ⟨v, rfl, h⟩ := dpAll1 hx
    obtain ⟨a, us, rfl, h1, h2⟩ := dp_list h
    cases e : boolsD xs with
    | none => rw [e] at w; exact w.elim
    | some bs =>
      rw [e] at w
      have q := dp_bools h2 e
      subst q
      exact ⟨a, bs, rfl, sqL_same mask_le h1, WpE.here (d := .int _) w (.int _)⟩
  · exact w.elim
end
end L2
namespace L2
open PySem PySem.Spec PyProof.Rows
/-- the def x stands at the top and keeps what g tells -/
structure Has (P : Program) (w : World) (K : PySem.W.Frag) (mg : Str → Option Value) (base : Heap) (cv : Nat → Value) (x : Str) (ps : List Str) (k : Nat) (g : List D → R D) : Prop where
  ex : ∃ f fd, FnOk P w K mg base (L2.CX P w) k f fd ps (SpD K cv g) ∧ mg x = some (.ref f) ∧ PySem.W.keepIn K (.ref f) = true ∧ Binds K fd ps []
structure HasN (P : Program) (w : World) (K : PySem.W.Frag) (mg : Str → Option Value) (base : Heap) (cv : Nat → Value) (x : Str) (ps : List Str) (k : Nat) (g : List D → R (List D)) : Prop where
  ex : ∃ f fd, FnOk P w K mg base (L2.CX P w) k f fd ps (SpN K cv g) ∧ mg x = some (.ref f) ∧ PySem.W.keepIn K (.ref f) = true ∧ Binds K fd ps []
section
variable {X : Cx} {Y : Wy} {k j : Nat} {ps : List Str} {x : Str} {p pos : Pos} {e : Expr} {es : List Expr} {ms : DS → R (List D)} {g : List D → R D} {gn : List D → R (List D)}
theorem de_has (h : Has X.prog X.w X.K X.mg X.base Y.cv x ps k g) (hr : Room j X.A) (hx : ∀ σ, PassesAt (L2.CX X.prog X.w) X σ (Y.E σ)) (ha : DA X Y (e :: es) ms) (hj : k ≤ j := by decide) (hg : Gl X x := by rfl)
    (hdb : (x == ("__debug__" : Str)) = false := by decide) (he : starEach (e :: es) X.env = (false, eval e X.env) :: starEach es X.env := by rfl) (hpl : (backTo pos (starEach es X.env)).any (·.1) = false := by rfl) : DE X Y (.Call (.Name x p) (e :: es) [] pos) (mCall g ms) := by
  obtain ⟨f, fd, F, m, kp, b⟩ := h.ex
  exact de_call F (hr.mono hj) hg m kp b hx ha hdb he hpl
theorem dn_has (h : HasN X.prog X.w X.K X.mg X.base Y.cv x ps k gn) (hr : Room j X.A) (hx : ∀ σ, PassesAt (L2.CX X.prog X.w) X σ (Y.E σ)) (ha : DA X Y (e :: es) ms) (hj : k ≤ j := by decide) (hg : Gl X x := by rfl)
    (hdb : (x == ("__debug__" : Str)) = false := by decide) (he : starEach (e :: es) X.env = (false, eval e X.env) :: starEach es X.env := by rfl) (hpl : (backTo pos (starEach es X.env)).any (·.1) = false := by rfl) : DN X Y (.Call (.Name x p) (e :: es) [] pos) (mCallN gn ms) := by
  obtain ⟨f, fd, F, m, kp, b⟩ := h.ex
  exact dn_call F (hr.mono hj) hg m kp b hx ha hdb he hpl
end
section
variable {P : Program} {w : World} {K : PySem.W.Frag} {mg : Str → Option Value} {base : Heap} {x qual : Str} {st : Stmt} {f : Addr} {fd : FuncData} {N ps : List Str} {k : Nat} {cv : Nat → Value}
/-- g is told less of, but right, by g' -/
def Tells {α : Type} (g' g : List D → R α) : Prop := ∀ ds, g' ds = .bad ∨ g ds = g' ds
theorem Has.imp {g g' : List D → R D} (h : Has P w K mg base cv x ps k g) (t : Tells g' g) : Has P w K mg base cv x ps k g' := by
  obtain ⟨f, fd, F, m, kp, b⟩ := h.ex
  refine ⟨f, fd, F.imp fun vs H Q E ⟨A, ds, c, r, wq⟩ => ⟨A, ds, c, r, ?_⟩, m, kp, b⟩
  rcases t ds with e | e
  · rw [e] at wq; exact wq.elim
  · rw [e]; exact wq
theorem HasN.imp {g g' : List D → R (List D)} (h : HasN P w K mg base cv x ps k g) (t : Tells g' g) : HasN P w K mg base cv x ps k g' := by
  obtain ⟨f, fd, F, m, kp, b⟩ := h.ex
  refine ⟨f, fd, F.imp fun vs H Q E ⟨A, ds, c, r, wq⟩ => ⟨A, ds, c, r, ?_⟩, m, kp, b⟩
  rcases t ds with e | e
  · rw [e] at wq; exact wq.elim
  · rw [e]; exact wq
theorem has_D {m : DS → R Out} (O : List Nat) (F : Fun K x qual st f fd) (mf : mg x = some (.ref f)) (b : Binds K fd ps []) (S : FnScope N ps (defScope st)) (hO : ∀ i ∈ O, ps.length ≤ i)
    (hbody : ∀ (cdv : Value) (A : Around) (outer : List Env) (s : Shared) (H : Hp) (E : XK), Room k (A.deeper (envOfC qual (defScope st) s.heap.objs.size f cdv)) →
      DSs (cxOf (L2.CX P w) P w K mg base N qual (defScope st) f cdv A outer s H E) ⟨cv, fun _ => E⟩ O (defBody st) m) : Has P w K mg base cv x ps (k + 1) (chk ps.length fun ds => fin (m (startD N ds))) :=
  ⟨f, fd, fn_D O F S hO hbody, mf, F.kp, b⟩
theorem has_N {m : DS → R Out} (O : List Nat) (F : Fun K x qual st f fd) (mf : mg x = some (.ref f)) (b : Binds K fd ps []) (S : FnScope N ps (defScope st)) (hO : ∀ i ∈ O, ps.length ≤ i)
    (hbody : ∀ (cdv : Value) (A : Around) (outer : List Env) (s : Shared) (H : Hp) (E : XK), Room k (A.deeper (envOfC qual (defScope st) s.heap.objs.size f cdv)) →
      DSs (cxOf (L2.CX P w) P w K mg base N qual (defScope st) f cdv A outer s H E) ⟨cv, fun _ => E⟩ O (defBody st) m) : HasN P w K mg base cv x ps (k + 1) (chk ps.length fun ds => finL (m (startD N ds))) :=
  ⟨f, fd, fn_N O F S hO hbody, mf, F.kp, b⟩
end
end L2
namespace L2
open PySem PySem.Spec PyProof.Rows
theorem wipe_one {σ : St} {j : Nat} {x : V} : wipe ((wipe σ [j]).set j (some x)) [j] = wipe σ [j] := by
  show ((σ.set j none).set j (some x)).set j none = σ.set j none
  rw [List.set_set, List.set_set]
section
variable {X : Cx} {Y : Wy} {O : List Nat}
theorem NSem.e {t : TE} {m : DS → R (List D)} (h : NSem X Y t m) : ∀ (σ : St) (δ : DS) (H : Hp) (A : Addr → Prop), Cov A H → SR X.K A σ δ H → ∀ Q : VK, WpE X.K (Y.at σ) A H ((m δ).map .list) Q → t σ H Q := fun σ δ H A c s Q w => h σ δ H A c s Q (w.of_l c)
/-! ### name = a new list, read with the owned slots -/
def mSetNI (i : Nat) (m : DS → R (List D)) : DS → R Out := fun δ => (m δ).run δ fun ds => R.when (inB i δ && imms ds) (.ok (.nx (δ.set i (some (.list ds)))))
theorem tsem_setNI {te : TE} {m : DS → R (List D)} {i : Nat} (ho : i ∉ O) (q : NSem X Y te m) : TSem X Y O (tAsg te (gName i)) (mSetNI i m) := fun A0 T H0 σ δ H Dn s w => by
  refine q σ δ H _ s.covH s.read _ ?_
  unfold mSetNI at w
  cases e : m δ with
  | bad => rw [e] at w; exact w
  | ex k => rw [e] at w; exact fun H' t => w σ H' (s.keep t)
  | ok ds =>
    rw [e] at w
    obtain ⟨hb, w⟩ := R.when_ok (fun r => WpS X.K Y A0 O T H0 r Dn) w id
    rw [Bool.and_eq_true] at hb
    refine fun p vs H' t np hp r => w _ H' ?_
    obtain ⟨w0, cv, sr, up, kp, tm, lst, _⟩ := s.share
    have np' : ¬ openA A0 O δ w0 p := cv.new np
    refine up i (.ref p) (.list ds) H' ho (by rw [s.len]; exact of_decide_eq_true hb.1) t (.lst (SqL.of (mask_some.mpr ⟨np', hp⟩)) (DpAll.tsame (tsame_mask2 fun a q => ?_) hb.2 r))
    rcases lst a q with q | ⟨xs, q⟩
    · exact .inl (.inl q)
    · exact .inr ⟨xs, t _ _ q⟩
theorem ds_setNI {i : Nat} {x : Str} {e : Expr} {m : DS → R (List D)} {pos pos' : Pos} (hN : X.N.Nodup) (hi : X.N[i]? = some x) (hx : Loc X.env.scope x) (he : DN X Y e m) (ho : i ∉ O := by decide) (hs : swapsWith e (some (.Name x pos')) pos.line X.env = pure false := by rfl) (hf : X.fn x = true ∨ X.env.scope.names.lookup x = some .local := by first | exact .inl rfl | exact .inr rfl | assumption) :
    DSt X Y O (.Assign [.Name x pos'] e pos) (mSetNI i m) := by
  obtain ⟨t, p, q⟩ := he
  exact ⟨_, ps_set hN hi hx p hs hf, tsem_setNI ho q⟩
/-! ### name = [.. for ..] on one line -/
section
variable {i : Nat} {st : Stmt} {m : DS → R (List D)}
theorem ds_lc (h : ∃ t, PS X st (tAsg t (gName i)) ∧ NSem X Y t m) (ho : i ∉ O := by decide) : DSt X Y O st (mSet O i fun δ => (m δ).map .list) := by
  obtain ⟨t, p, q⟩ := h
  exact ⟨_, p, tsem_set ho q.e⟩
theorem ds_lcI (h : ∃ t, PS X st (tAsg t (gName i)) ∧ NSem X Y t m) (ho : i ∉ O := by decide) : DSt X Y O st (mSetNI i m) := by
  obtain ⟨t, p, q⟩ := h
  exact ⟨_, p, tsem_setNI ho q⟩
theorem ds_lcO (h : ∃ t, PS X st (tAsg t (gName i)) ∧ NSem X Y t m) (ho : i ∈ O := by decide) : DSt X Y O st (mOwn O i m) := by
  obtain ⟨t, p, q⟩ := h
  exact ⟨_, p, tsem_own ho q⟩
theorem ds_lcOI (h : ∃ t, PS X st (tAsg t (gName i)) ∧ NSem X Y t m) (ho : i ∈ O := by decide) : DSt X Y O st (mOwnI i m) := by
  obtain ⟨t, p, q⟩ := h
  exact ⟨_, p, tsem_ownI ho q⟩
end
/-! ### f-strings -/
def gFmt : D → R D := fun d => match d with
  | .str y => R.when (szOk y.length) (.ok (.str y))
  | .int i => R.when (decide (i.natAbs.log2 < 1920)) (.ok (.str (toString i)))
  | _ => .bad
def gFmtR : D → R D := fun d => match d with
  | .str y => R.when (szOk (reprText y).length) (.ok (.str (reprText y)))
  | .int i => R.when (decide (i.natAbs.log2 < 1920)) (.ok (.str (toString i)))
  | _ => .bad
theorem de_fmt {e : Expr} {m : DS → R D} {pos : Pos} (h : DE X Y e m) : DE X Y (.FormattedValue e (-1) none pos) (fun δ => (m δ).bind gFmt) := by
  obtain ⟨t, p, q⟩ := h
  refine ⟨_, pe_fmt p, fun σ δ H A c s Q w => de_seq (Y := Y) q c s w fun d v H1 t1 r1 w1 => ?_⟩
  cases r1 with
  | str y =>
    obtain ⟨hb, w1⟩ := WpE.when w1
    exact .inl ⟨y, rfl, of_decide_eq_true hb, w1.here (.str _)⟩
  | int i =>
    obtain ⟨hb, w1⟩ := WpE.when w1
    exact .inr ⟨i, rfl, of_decide_eq_true hb, w1.here (.str _)⟩
  | _ => exact w1.elim
theorem de_fmtR {e : Expr} {m : DS → R D} {pos : Pos} (h : DE X Y e m) : DE X Y (.FormattedValue e 114 none pos) (fun δ => (m δ).bind gFmtR) := by
  obtain ⟨t, p, q⟩ := h
  refine ⟨_, pe_fmtR p, fun σ δ H A c s Q w => de_seq (Y := Y) q c s w fun d v H1 t1 r1 w1 => ?_⟩
  cases r1 with
  | str y =>
    obtain ⟨hb, w1⟩ := WpE.when w1
    exact .inl ⟨y, rfl, of_decide_eq_true hb, w1.here (.str _)⟩
  | int i =>
    obtain ⟨hb, w1⟩ := WpE.when w1
    exact .inr ⟨i, rfl, of_decide_eq_true hb, w1.here (.str _)⟩
  | _ => exact w1.elim
/-- the parts of an f-string, all texts -/
inductive FJ (X : Cx) (Y : Wy) : List Expr → List (DS → R D) → Prop where
  | nil : FJ X Y [] []
  | cons {e : Expr} {es : List Expr} {m : DS → R D} {ms : List (DS → R D)} (h : DE X Y e m) (r : FJ X Y es ms) : FJ X Y (e :: es) (m :: ms)
def strD : D → Option Str
  | .str y => some y
  | _ => none
def mJs : List (DS → R D) → Str → DS → R D
  | [], acc, _ => .ok (.str acc)
  | m :: ms, acc, δ => (m δ).bind fun d => match strD d with
    | some y => R.when (szOk (acc ++ y).length) (mJs ms (acc ++ y) δ)
    | none => .bad
theorem fj_run {es : List Expr} {ms : List (DS → R D)} (h : FJ X Y es ms) : ∃ ts, PJ X es ts ∧ ∀ (acc : Str) (σ : St) (δ : DS) (H : Hp) (A : Addr → Prop), Cov A H → SR X.K A σ δ H → ∀ Q : VK, WpE X.K (Y.at σ) A H (mJs ms acc δ) Q → tJs ts acc σ H (fun z H' => Q (.str z) H') := by
  induction h with
  | nil => exact ⟨[], .nil, fun acc σ δ H A c s Q w => WpE.here (d := .str acc) w (.str acc)⟩
  | @cons e es m ms h r ih =>
    obtain ⟨t, p, q⟩ := h
    obtain ⟨ts, ps, qs⟩ := ih
    refine ⟨t :: ts, .cons p ps, fun acc σ δ H A c s Q w => q σ δ H A c s _ ?_⟩
    unfold mJs at w
    cases e1 : m δ with
    | bad => rw [e1] at w; exact w
    | ex n => rw [e1] at w; exact w
    | ok d =>
      rw [e1] at w
      refine fun v H1 t1 r1 => ?_
      cases r1 with
      | str y =>
        obtain ⟨hb, w2⟩ := WpE.when (r := mJs ms (acc ++ y) δ) w
        exact ⟨y, rfl, of_decide_eq_true hb, qs _ σ δ H1 A (c.mono t1) (s.mono t1) Q (WpE.mono w2 t1)⟩
      | _ => exact w.elim
theorem de_fstr {v1 v2 : Expr} {rest : List Expr} {ms : List (DS → R D)} {pos : Pos} (h : FJ X Y (v1 :: v2 :: rest) ms) : DE X Y (.JoinedStr (v1 :: v2 :: rest) pos) (mJs ms Str.empty) := by
  obtain ⟨ts, p, q⟩ := fj_run h
  exact ⟨_, pe_joined p, fun σ δ H A c s Q w => q Str.empty σ δ H A c s Q w⟩
/-! ### a written dict with text keys -/
/-- at the name x stands a written dict; its keys have the data (or defs) that tb tells -/
structure TabD (K : PySem.W.Frag) (w : World) (mg : Str → Option Value) (x : Str) (tb : Str → Option D) : Prop where
  ex : ∃ (d : Addr) (es : Array DictEntry) (n : Nat), mg x = some (.ref d) ∧ KDict K w d es n ∧ (∀ z, tb z = none → PySem.W.nsIn K d z = some none) ∧
    (∀ z y, tb z = some y → ∃ u v, PySem.W.nsIn K d z = some (some u) ∧ RelV v u ∧ ∀ H, Dp K H v y)
theorem de_inTab {x : Str} {p pos : Pos} {e : Expr} {m : DS → R D} {tb : Str → Option D} (h : TabD X.K X.w X.mg x tb) (he : DE X Y e m) (hg : Gl X x := by rfl) (hdb : (x == ("__debug__" : Str)) = false := by decide) (hm : behindInMarks .In (.Name x p) = false := by first | exact nobehind _ (by decide) (by decide) | rfl) : DE X Y (.Compare e [.In] [.Name x p] pos) (fun δ => (m δ).bind fun d => match strD d with
    | some z => .ok (.bool (tb z).isSome)
    | none => .bad) := by
  obtain ⟨d, es, n, hx, D, h0, h1⟩ := h.ex
  obtain ⟨t, pe, q⟩ := he
  refine ⟨_, pe_cmpR (op_in_kd D) pe (pe_glob (v := .ref d) hg hx rfl hdb) hm, fun σ δ H A c s Q w => de_seq (Y := Y) q c s w fun dd v H1 t1 r1 w1 => ?_⟩
  cases r1 with
  | str z =>
    have w2 : WpE X.K (Y.at σ) A H1 (.ok (.bool (tb z).isSome)) Q := w1
    cases e : tb z with
    | none => rw [e] at w2; exact ⟨z, none, rfl, rfl, h0 z e, WpE.here w2 (.bl _)⟩
    | some y =>
      rw [e] at w2
      obtain ⟨u, v, k1, k2, k3⟩ := h1 z y e
      exact ⟨z, some u, rfl, rfl, k1, WpE.here w2 (.bl _)⟩
  | _ => exact w1.elim
theorem de_notInTab {x : Str} {p pos : Pos} {e : Expr} {m : DS → R D} {tb : Str → Option D} (h : TabD X.K X.w X.mg x tb) (he : DE X Y e m) (hg : Gl X x := by rfl) (hdb : (x == ("__debug__" : Str)) = false := by decide) (hm : behindInMarks .NotIn (.Name x p) = false := by first | exact nobehind _ (by decide) (by decide) | rfl) : DE X Y (.Compare e [.NotIn] [.Name x p] pos) (fun δ => (m δ).bind fun d => match strD d with
    | some z => .ok (.bool (!(tb z).isSome))
    | none => .bad) := by
  obtain ⟨d, es, n, hx, D, h0, h1⟩ := h.ex
  obtain ⟨t, pe, q⟩ := he
  refine ⟨_, pe_cmpR (op_notIn_kd D) pe (pe_glob (v := .ref d) hg hx rfl hdb) hm, fun σ δ H A c s Q w => de_seq (Y := Y) q c s w fun dd v H1 t1 r1 w1 => ?_⟩
  cases r1 with
  | str z =>
    have w2 : WpE X.K (Y.at σ) A H1 (.ok (.bool (!(tb z).isSome))) Q := w1
    cases e : tb z with
    | none => rw [e] at w2; exact ⟨z, none, rfl, rfl, h0 z e, WpE.here w2 (.bl _)⟩
    | some y =>
      rw [e] at w2
      obtain ⟨u, v, k1, k2, k3⟩ := h1 z y e
      exact ⟨z, some u, rfl, rfl, k1, WpE.here w2 (.bl _)⟩
  | _ => exact w1.elim
theorem de_getTab {x : Str} {p pos : Pos} {e : Expr} {m : DS → R D} {tb : Str → Option D} (h : TabD X.K X.w X.mg x tb) (he : DE X Y e m) (hg : Gl X x := by rfl) (hdb : (x == ("__debug__" : Str)) = false := by decide) (hs : PlainIx e := by exact fun _ _ => rfl) : DE X Y (.Subscript (.Name x p) e pos) (fun δ => (m δ).bind fun d => match (strD d).bind tb with
    | some y => .ok y
    | none => .bad) := by
  obtain ⟨d, es, n, hx, D, h0, h1⟩ := h.ex
  obtain ⟨t, pe, q⟩ := he
  refine ⟨_, pe_ix ix_kdict (pe_glob (v := .ref d) hg hx rfl hdb) pe hs, fun σ δ H A c s Q w => ?_⟩
  refine de_seq (Y := Y) q c s w fun dd v H1 t1 r1 w1 => ?_
  cases r1 with
  | str z =>
    have w2 : WpE X.K (Y.at σ) A H1 (match tb z with
      | some y => .ok y
      | none => .bad) Q := w1
    cases e : tb z with
    | none => rw [e] at w2; exact w2.elim
    | some y =>
      rw [e] at w2
      obtain ⟨u, v, k1, k2, k3⟩ := h1 z y e
      exact ⟨d, z, v, rfl, rfl, ⟨es, n, u, D.at_, D.lit, k1, k2⟩, WpE.here w2 (k3 _)⟩
  | _ => exact w1.elim
/-! ### a written dict of defs: r = T[e]; return r(..) -/
theorem pe_callH {x : Str} {i : Nat} {p pos : Pos} {e : Expr} {es : List Expr} {t : TA} {E : L2.St → XK} (hx : ∀ σ, PassesAt (L2.CX X.prog X.w) X σ (E σ)) (hN : X.N[i]? = some x) (hv : Vis X.env.scope x) (ha : PA X (e :: es) t)
    (hdb : (x == ("__debug__" : Str)) = false := by decide) (hcd : (x == ("__classdict__" : Str)) = false := by decide) (he : starEach (e :: es) X.env = (false, eval e X.env) :: starEach es X.env := by rfl) (hpl : (backTo pos (starEach es X.env)).any (·.1) = false := by rfl) :
    PE X (.Call (.Name x p) (e :: es) [] pos) (fun σ H Q => ∃ f fd ps sp k, σ[i]? = some (some (.ref f)) ∧ FnOk X.prog X.w X.K X.mg X.base (L2.CX X.prog X.w) k f fd ps sp ∧ Room k X.A ∧ PySem.W.keepIn X.K (.ref f) = true ∧ Binds X.K fd ps [] ∧ t σ H fun vs H1 => sp vs H1 Q (E σ)) := by
  refine ⟨fun pins s σ H Q I h => ?_⟩
  obtain ⟨f, fd, ps, sp, k, hs, F, hr, hk, hb, ht⟩ := h
  refine wpAny_Call_Name_kw (thn ((pe_var (pos := p) hN hv hdb hcd).run pins s σ H (fun v H1 => v = .ref f ∧ H1 = H) I ⟨.ref f, hs, rfl, rfl⟩) fun u s1 ⟨v, H1, I1, r1, q1⟩ => ?_)
  obtain ⟨rfl, rfl⟩ := q1
  cases r1
  refine PySem.W.callWith_K (h₀ := X.base) I.ok.mod.kin hk (thn (ha.run pos pins s1 σ _ _ I1 ht) fun us s2 ⟨vs, H2, I2, r, q⟩ => ⟨I2.kIn, ?_⟩) he hpl
  exact run_fnSD F hr hb .nil (hx σ) I2 r (by rw [List.append_nil]; exact q)
structure TabF (P : Program) (w : World) (K : PySem.W.Frag) (mg : Str → Option Value) (base : Heap) (cv : Nat → Value) (x : Str) (k : Nat) (tb : Str → Option (List D → R D)) : Prop where
  ex : ∃ (d : Addr) (es : Array DictEntry) (n : Nat), mg x = some (.ref d) ∧ KDict K w d es n ∧ ∀ z g, tb z = some g → ∃ f fd ps, PySem.W.nsIn K d z = some (some (.ref f)) ∧ FnOk P w K mg base (L2.CX P w) k f fd ps (SpD K cv g) ∧ PySem.W.keepIn K (.ref f) = true ∧ Binds K fd ps []
def mTabF (tb : Str → Option (List D → R D)) (i : Nat) (me : DS → R D) (ms : DS → R (List D)) : DS → R Out := fun δ => (me δ).run δ fun d => match (strD d).bind tb with
  | some g => R.when (inB i δ) ((ms (δ.set i none)).run (δ.set i none) fun ds => (g ds).run (δ.set i none) fun y => .ok (.rt y))
  | none => .bad
theorem SS.forget {K : PySem.W.Frag} {A0 : Addr → Prop} {T : List Tm} {H0 H : Hp} {σ : St} {δ : DS} {i : Nat} {v : V} (s : SS K A0 [] T H0 σ δ H) : SS K A0 [] T H0 (σ.set i (some v)) (δ.set i none) H := by
  obtain ⟨w, h1, h2, h3, h4⟩ := s.ex
  have e : ∀ {δ : DS}, (fun a => A0 a ∨ ∃ j ∈ ([] : List Nat), (∃ d, δ[j]? = some (some d)) ∧ a = w j) = A0 := fun {δ} => by
    funext a
    exact propext ⟨fun q => q.elim id fun ⟨j, jo, _⟩ => absurd jo List.not_mem_nil, .inl⟩
  refine ⟨⟨w, fun k x ko q => ?_, fun k x ko q => absurd ko List.not_mem_nil, fun k j ko => absurd ko List.not_mem_nil, fun p hp => ?_⟩, by rw [List.length_set, List.length_set]; exact s.len, s.same, s.cov⟩
  · rw [e]
    by_cases hk : i = k
    · subst hk
      by_cases hl : i < δ.length
      · rw [List.getElem?_set_self hl] at q; cases q
      · rw [List.getElem?_eq_none (by simpa using hl)] at q; cases q
    · rw [List.getElem?_set_ne hk] at q ⊢
      have z := h1 k x ko q
      rw [e] at z
      exact z
  · rw [e]
    have z := h4 p hp
    rw [e] at z
    exact z
theorem dss_tabF {x r : Str} {i j k : Nat} {p p1 p2 p3 p4 p5 pos : Pos} {ek e : Expr} {es : List Expr} {me : DS → R D} {ms : DS → R (List D)} {tb : Str → Option (List D → R D)} (h : TabF X.prog X.w X.K X.mg X.base Y.cv x k tb) (hr : Room j X.A) (hj : k ≤ j) (hx : ∀ σ, PassesAt (L2.CX X.prog X.w) X σ (Y.E σ))
    (hN : X.N.Nodup) (hi : X.N[i]? = some r) (hl : Loc X.env.scope r) (hv : Vis X.env.scope r) (hek : DE X Y ek me) (ha : DA X Y (e :: es) ms) (hg : Gl X x := by rfl) (hdx : (x == ("__debug__" : Str)) = false := by decide) (hs : PlainIx ek := by exact fun _ _ => rfl)
    (hsw : swapsWith (.Subscript (.Name x p1) ek p2) (some (.Name r p)) p3.line X.env = pure false := by rfl) (hf : X.fn r = true ∨ X.env.scope.names.lookup r = some .local := by first | exact .inl rfl | exact .inr rfl | assumption)
    (hdb : (r == ("__debug__" : Str)) = false := by decide) (hcd : (r == ("__classdict__" : Str)) = false := by decide) (he : starEach (e :: es) X.env = (false, eval e X.env) :: starEach es X.env := by rfl) (hpl : (backTo p5 (starEach es X.env)).any (·.1) = false := by rfl) :
    DSs X Y [] [.Assign [.Name r p] (.Subscript (.Name x p1) ek p2) p3, .Return (some (.Call (.Name r p4) (e :: es) [] p5)) pos] (mTabF tb i me ms) := by
  obtain ⟨d, ets, n, hxd, KD, htb⟩ := h.ex
  obtain ⟨t, pe, q⟩ := hek
  obtain ⟨ta, pa, qa⟩ := ha
  refine ⟨_, pss_cons (ps_set hN hi hl (pe_ix ix_kdict (pe_glob (v := .ref d) hg hxd rfl hdx) pe hs) hsw hf) (pss_one (ps_ret (pe_callH (E := Y.E) hx hi hv pa hdb hcd he hpl))), fun A0 T H0 σ δ H Dn s w => q σ δ H A0 s.covH s.read _ ?_⟩
  unfold mTabF at w
  cases e1 : me δ with
  | bad => rw [e1] at w; exact w
  | ex k => rw [e1] at w; exact fun H' t => w σ H' (s.keep t)
  | ok dk =>
    rw [e1] at w
    dsimp only [R.run] at w
    refine fun v H1 t1 r1 => ?_
    cases r1 with
    | str z =>
      have w2 : WpS X.K Y A0 [] T H0 (match tb z with
        | some g => R.when (inB i δ) ((ms (δ.set i none)).run (δ.set i none) fun ds => (g ds).run (δ.set i none) fun y => .ok (.rt y))
        | none => .bad) Dn := w
      cases e2 : tb z with
      | none => rw [e2] at w2; exact w2.elim
      | some g =>
        rw [e2] at w2
        obtain ⟨hb, w2⟩ := R.when_ok (fun r => WpS X.K Y A0 [] T H0 r Dn) w2 id
        obtain ⟨f, fd, ps, k1, F, kp, bd⟩ := htb z g e2
        refine ⟨d, z, .ref f, rfl, rfl, ⟨ets, n, _, KD.at_, KD.lit, k1, rfl⟩, ?_⟩
        have s1 := (s.keep t1).forget (i := i) (v := .ref f)
        have hil : i < σ.length := by rw [s.len]; exact of_decide_eq_true hb
        refine ⟨f, fd, ps, _, k, List.getElem?_set_self hil, F, hr.mono hj, kp, bd, qa _ _ H1 A0 s1.covH s1.read _ ?_⟩
        cases e3 : ms (δ.set i none) with
        | bad => rw [e3] at w2; exact w2
        | ex k => rw [e3] at w2; exact fun H' t => w2 _ H' (s1.keep t)
        | ok ds =>
          rw [e3] at w2
          dsimp only [R.run] at w2
          refine fun vs H2 t2 r2 => ⟨A0, ds, s1.covH.mono t2, r2, ?_⟩
          cases e4 : g ds with
          | bad => rw [e4] at w2; exact w2
          | ex k => rw [e4] at w2; exact fun H' t => w2 _ H' (s1.keep (t2.trans t))
          | ok y => rw [e4] at w2; exact fun u H3 t3 r3 => w2 u H3 (s1.same.trans (t2.trans t3)) r3
    | _ => exact w.elim
end
end L2
namespace L2
open PySem PySem.Spec PyProof.Rows
/-! ## equations of the answers, for simp -/
section
variable {i j k : Nat} {δ : DS} {d e : D} {m n ma mb mc me mj : DS → R D}
def getV : Option (Option D) → R D
  | some (some d) => .ok d
  | _ => .bad
theorem q_var : mVar i δ = getV (δ[i]?) := (rfl)
theorem q_get : getV (some (some d)) = .ok d := (rfl)
theorem q_c : mC d δ = .ok d := (rfl)
theorem q_bin {g : D → D → R D} : mBin g ma mb δ = (ma δ).bind fun x => (mb δ).bind fun y => g x y := (rfl)
theorem q_nil : mNil δ = .ok [] := (rfl)
theorem q_cons {ms : DS → R (List D)} : mCons m ms δ = (m δ).bind fun d => (ms δ).map fun ds => d :: ds := (rfl)
theorem q_call {g : List D → R D} {ms : DS → R (List D)} : mCall g ms δ = (ms δ).bind g := (rfl)
theorem q_callN {g : List D → R (List D)} {ms : DS → R (List D)} : mCallN g ms δ = (ms δ).bind g := (rfl)
theorem q_tup {ms : DS → R (List D)} : mTup ms δ = (ms δ).bind fun ds => R.when (szOk ds.length) (.ok (.tuple ds)) := (rfl)
theorem q_lst {ms : DS → R (List D)} : mLst ms δ = (ms δ).bind fun ds => R.when (szOk ds.length) (.ok ds) := (rfl)
theorem q_B : mB m δ = (m δ).bind boolD := (rfl)
theorem q_boolD {b : Bool} : boolD (.bool b) = .ok b := (rfl)
theorem q_not {m : DS → R Bool} : mNot m δ = (m δ).map (!·) := (rfl)
theorem q_and {m n : DS → R Bool} : mAnd m n δ = (m δ).bind fun b => if b = true then n δ else .ok false := (rfl)
theorem q_or {m n : DS → R Bool} : mOr m n δ = (m δ).bind fun b => if b = true then .ok true else n δ := (rfl)
def andK (r : R D) : D → R D
  | .bool true => r
  | .bool false => .ok (.bool false)
  | _ => .bad
def orK (r : R D) : D → R D
  | .bool false => r
  | .bool true => .ok (.bool true)
  | _ => .bad
def notK : D → R D
  | .bool b => .ok (.bool (!b))
  | _ => .bad
def negK : D → R D
  | .int i => .ok (.int (-i))
  | _ => .bad
theorem q_andE : mAndE ma mb δ = (ma δ).bind (andK (mb δ)) := by
  unfold mAndE
  cases ma δ with
  | bad => rfl
  | ex n => rfl
  | ok d => cases d with
    | bool b => cases b <;> rfl
    | _ => rfl
theorem q_orE : mOrE ma mb δ = (ma δ).bind (orK (mb δ)) := by
  unfold mOrE
  cases ma δ with
  | bad => rfl
  | ex n => rfl
  | ok d => cases d with
    | bool b => cases b <;> rfl
    | _ => rfl
theorem q_notE : mNotE ma δ = (ma δ).bind notK := by
  unfold mNotE
  cases ma δ with
  | bad => rfl
  | ex n => rfl
  | ok d => cases d <;> rfl
theorem q_neg : mNeg ma δ = (ma δ).bind negK := by
  unfold mNeg
  cases ma δ with
  | bad => rfl
  | ex n => rfl
  | ok d => cases d <;> rfl
theorem q_andK {b : Bool} {r : R D} : andK r (.bool b) = if b = true then r else .ok (.bool false) := by cases b <;> rfl
theorem q_orK {b : Bool} {r : R D} : orK r (.bool b) = if b = true then .ok (.bool true) else r := by cases b <;> rfl
theorem q_notK {b : Bool} : notK (.bool b) = .ok (.bool (!b)) := (rfl)
theorem q_negK {i : Int} : negK (.int i) = .ok (.int (-i)) := (rfl)
theorem q_ifE {mc : DS → R Bool} : mIfE mc ma mb δ = (mc δ).bind fun b => if b = true then ma δ else mb δ := (rfl)
/-! statements -/
def seqK (n : DS → R Out) : Out → R Out
  | .nx δ' => n δ'
  | o => .ok o
theorem q_seq {m n : DS → R Out} : mSeq m n δ = (m δ).bind (seqK n) := by
  unfold mSeq
  cases m δ with
  | bad => rfl
  | ex n => rfl
  | ok d => cases d <;> rfl
theorem q_seqK {n : DS → R Out} : seqK n (.nx δ) = n δ := (rfl)
theorem q_seqR {n : DS → R Out} : seqK n (.rt d) = .ok (.rt d) := (rfl)
theorem q_seqL {n : DS → R Out} {ds : List D} : seqK n (.rl ds) = .ok (.rl ds) := (rfl)
theorem q_seqX {n : DS → R Out} {z : Nat} : seqK n (.ex z δ) = .ok (.ex z δ) := (rfl)
theorem q_skip : mSkip δ = .ok (.nx δ) := (rfl)
theorem q_if {mc : DS → R Bool} {m n : DS → R Out} : mIf mc m n δ = (mc δ).run δ fun b => if b = true then m δ else n δ := (rfl)
theorem q_set {O : List Nat} : mSet O i m δ = (m (hideD O δ)).run δ fun d => R.when (inB i δ) (.ok (.nx (δ.set i (some d)))) := (rfl)
theorem q_setI : mSetI i m δ = (m δ).run δ fun d => R.when (inB i δ && imm d) (.ok (.nx (δ.set i (some d)))) := (rfl)
theorem q_setNI {m : DS → R (List D)} : mSetNI i m δ = (m δ).run δ fun ds => R.when (inB i δ && imms ds) (.ok (.nx (δ.set i (some (.list ds))))) := (rfl)
theorem q_own {O : List Nat} {m : DS → R (List D)} : mOwn O i m δ = (m (hideD O δ)).run δ fun ds => R.when (inB i δ) (.ok (.nx (δ.set i (some (.list ds))))) := (rfl)
theorem q_ownI {m : DS → R (List D)} : mOwnI i m δ = (m δ).run δ fun ds => R.when (inB i δ && imms ds) (.ok (.nx (δ.set i (some (.list ds))))) := (rfl)
theorem q_ret : mRet m δ = (m δ).run δ fun d => .ok (.rt d) := (rfl)
theorem q_retL {m : DS → R (List D)} : mRetL m δ = (m δ).run δ fun d => .ok (.rl d) := (rfl)
def ownV : Option (Option D) → R (List D)
  | some (some (.list ds)) => .ok ds
  | _ => .bad
theorem q_owned : ownedL i δ = ownV (δ[i]?) := (rfl)
theorem q_ownV {ds : List D} : ownV (some (some (.list ds))) = .ok ds := (rfl)
theorem q_retO : mRetO i δ = (ownedL i δ).map .rl := (rfl)
theorem q_drop : mDrop m δ = (m δ).run δ fun _ => .ok (.nx δ) := (rfl)
theorem q_app {O : List Nat} : mApp O i m δ = (ownedL i δ).bind fun ds => (m (hideD O δ)).run δ fun d => R.when (ltOk ds.length) (.ok (.nx (δ.set i (some (.list (ds ++ [d])))))) := (rfl)
theorem q_appI : mAppI i m δ = (ownedL i δ).bind fun ds => (m δ).run δ fun d => R.when (ltOk ds.length && imm d) (.ok (.nx (δ.set i (some (.list (ds ++ [d])))))) := (rfl)
theorem q_setAt {O : List Nat} : mSetAt O i m mj δ = (ownedL i δ).bind fun ds => (m (hideD O δ)).run δ fun d => (mj δ).run δ fun j => mPut i ds δ d j := (rfl)
theorem q_setAtI : mSetAtI i m mj δ = (ownedL i δ).bind fun ds => (m δ).run δ fun d => (mj δ).run δ fun j => R.when (imm d) (mPut i ds δ d j) := (rfl)
def putK' (i : Nat) (ds : List D) (δ : DS) (d : D) : Option Nat → R Out
  | some n => .ok (.nx (δ.set i (some (.list (ds.set n d)))))
  | none => .bad
theorem q_put {ds : List D} {z : Int} : mPut i ds δ d (.int z) = putK' i ds δ d (ixN ds.length z) := (rfl)
theorem q_putK {ds : List D} {n : Nat} : putK' i ds δ d (some n) = .ok (.nx (δ.set i (some (.list (ds.set n d))))) := (rfl)
theorem q_hide {O : List Nat} : hideD O δ = hideF O 0 δ := (rfl)
theorem q_hide0 {O : List Nat} : hideF O k [] = [] := (rfl)
theorem q_hideC {O : List Nat} {x : Option D} {r : DS} : hideF O k (x :: r) = (if O.elem k = true then none else x) :: hideF O (k + 1) r := (rfl)
theorem q_hideN : hideD [] δ = δ := by
  have h : ∀ (δ : DS) k, hideF [] k δ = δ := fun δ => by
    induction δ with
    | nil => intro k; rfl
    | cons x r ih =>
      intro k
      show (if false = true then none else x) :: hideF [] (k + 1) r = x :: r
      rw [ih, if_neg Bool.false_ne_true]
  exact h δ 0
theorem q_inB : inB i δ = decide (i < δ.length) := (rfl)
theorem q_fin : fin (.ok (.rt d)) = .ok d := (rfl)
theorem q_finL {ds : List D} : fin (.ok (.rl ds)) = .ok (.list ds) := (rfl)
theorem q_finN : fin (.ok (.nx δ)) = .ok .none := (rfl)
theorem q_finX {z : Nat} : fin (.ok (.ex z δ)) = .ex z := (rfl)
theorem q_finL' {ds : List D} : finL (.ok (.rl ds)) = .ok ds := rfl
theorem q_finLX {z : Nat} : finL (.ok (.ex z δ)) = .ex z := (rfl)
theorem q_raise {z : Nat} {ms : DS → R (List D)} : mRaiseD z ms δ = (ms δ).run δ fun ds => R.when (szOk ds.length) (.ok (.ex z δ)) := (rfl)
/-! operations -/
section
variable {a b : Int} {s t : Str} {xs ys : List D}
theorem g_cmp {p : Int → Int → Bool} : gCmp p (.int a) (.int b) = .ok (.bool (p a b)) := (rfl)
theorem g_addI : gAdd (.int a) (.int b) = .ok (.int (a + b)) := (rfl)
theorem g_subI : gSubI (.int a) (.int b) = .ok (.int (a - b)) := (rfl)
theorem g_mulI : gMul (.int a) (.int b) = R.when (mulOk a b) (.ok (.int (a * b))) := (rfl)
theorem g_modI : gMod (.int a) (.int b) = R.when (modOk a b) (.ok (.int (a % b))) := (rfl)
theorem g_divI : gDiv (.int a) (.int b) = R.when (divOk a b) (.ok (.int (a / b))) := (rfl)
theorem alt_l {r : R D} {x y : D} {g g' : D → D → R D} (h : g x y = r) (hb : r = .bad → g' x y = .bad) : alt g g' x y = r := by
  unfold alt
  rw [h]
  cases r with
  | bad => exact hb rfl
  | ex n => rfl
  | ok d => rfl
theorem g_addS : gAdd (.str s) (.str t) = R.when (szOk (s.length + t.length)) (.ok (.str (s ++ t))) :=
  alt_l (g := gS cLen fun i j => .str (i ++ j)) rfl fun _ => rfl
theorem g_addL : gAdd (.list xs) (.list ys) = (R.when (szOk (xs.length + ys.length)) (.ok (.list (xs ++ ys)))) := by
  show (R.when (szOk (xs.length + ys.length)) (.ok (xs ++ ys))).map PyData.list = _
  cases szOk (xs.length + ys.length) <;> rfl
theorem g_addT : gAdd (.tuple xs) (.tuple ys) = R.when (szOk (xs.length + ys.length)) (.ok (.tuple (xs ++ ys))) :=
  show alt gCatT (fun x y => (gCatL x y).map .list) (.tuple xs) (.tuple ys) = _ from alt_l rfl fun _ => rfl
theorem g_catL : gCatL (.list xs) (.list ys) = R.when (szOk (xs.length + ys.length)) (.ok (xs ++ ys)) := (rfl)
def atK : Option D → R D
  | some d => .ok d
  | none => .bad
theorem g_ixL : gIx (.list xs) (.int a) = atK (atI xs a) := (rfl)
theorem g_ixT : gIx (.tuple xs) (.int a) = atK (atI xs a) := (rfl)
theorem g_atK : atK (some d) = .ok d := (rfl)
theorem g_lenL : gLen [.list xs] = .ok (.int xs.length) := (rfl)
theorem g_lenT : gLen [.tuple xs] = .ok (.int xs.length) := (rfl)
theorem g_lenS : gLen [.str s] = R.when (szOk s.length) (.ok (.int s.length)) := (rfl)
theorem g_listL : gList [.list xs] = .ok xs := (rfl)
theorem g_listT : gList [.tuple xs] = .ok xs := (rfl)
theorem g_tupL : gTuple [.list xs] = .ok (.tuple xs) := (rfl)
def allK : Option (List Bool) → R D
  | some bs => .ok (.bool (bs.all id))
  | none => .bad
def anyK : Option (List Bool) → R D
  | some bs => .ok (.bool (bs.any id))
  | none => .bad
def sumK : Option (List Bool) → R D
  | some bs => .ok (.int (bs.map numB).sum)
  | none => .bad
theorem g_all : gAll [.list xs] = allK (boolsD xs) := (rfl)
theorem g_any : gAny [.list xs] = anyK (boolsD xs) := (rfl)
theorem g_sum : gSum [.list xs] = sumK (boolsD xs) := (rfl)
theorem bools_of (bs : List Bool) : boolsD (bs.map PyData.bool) = some bs := by
  induction bs with
  | nil => rfl
  | cons b bs ih => show (boolsD (bs.map PyData.bool)).map (fun q => b :: q) = _; rw [ih]; rfl
theorem g_allK {bs : List Bool} : allK (some bs) = .ok (.bool (bs.all id)) := (rfl)
theorem g_anyK {bs : List Bool} : anyK (some bs) = .ok (.bool (bs.any id)) := (rfl)
theorem g_sumK {bs : List Bool} : sumK (some bs) = .ok (.int (bs.map numB).sum) := (rfl)
end
end
/-! == of data -/
theorem shp_int {i : Int} : shp (.int i) = true := by unfold shp; rfl
theorem eqv_int {i j : Int} : PyData.eqv (.int i) (.int j) = decide (i = j) := by
  show (i == j) = decide (i = j); by_cases h : i = j <;> simp [h]
theorem g_eqI {i j : Int} : gEq (.int i) (.int j) = .ok (.bool (decide (i = j))) := by
  unfold gEq; rw [shp_int, shp_int, eqv_int]; rfl
end L2
namespace L2
open PySem PySem.Spec PyProof.Rows
section
variable {X : Cx} {Y : Wy} {O : List Nat}
/-! ## a, b = e -/
def stPair (i j : Nat) : D → DS → R DS := fun d δ => match d with
  | .tuple [x, y] => R.when (inB i δ && inB j (δ.set i (some x))) (.ok ((δ.set i (some x)).set j (some y)))
  | _ => .bad
theorem dg_pair {i j : Nat} {a b : Str} {pa pb pos : Pos} {x1} (hc : X.calm = true) (hN : X.N.Nodup) (hi : X.N[i]? = some a) (hj : X.N[j]? = some b) (ha : Loc X.env.scope a) (hb : Loc X.env.scope b) (hoi : i ∉ O := by decide) (hoj : j ∉ O := by decide)
    (hfa : X.fn a = true ∨ X.env.scope.names.lookup a = some .local := by first | exact .inl rfl | exact .inr rfl | assumption) (hfb : X.fn b = true ∨ X.env.scope.names.lookup b = some .local := by first | exact .inl rfl | exact .inr rfl | assumption) : DG X O (.Tuple [.Name a pa, .Name b pb] x1 pos) (stPair i j) := by
  refine ⟨_, pg_tup hc (pgs_cons (pg_name hN hi ha hfa) (pgs_cons (pg_name hN hj hb hfb) pgs_nil)), fun A0 T H0 σ δ H v d Q s w => ?_⟩
  unfold stPair at w
  split at w
  · rename_i x y
    obtain ⟨hb, w⟩ := R.when_ok (fun r => WpG X.K A0 O T H0 H r Q) w id
    rw [Bool.and_eq_true] at hb
    obtain ⟨w0, k1, k2, k3, k4⟩ := s.ex
    obtain ⟨p, vs, rfl, g1, g2⟩ := dp_tup (show Dp X.K _ v (.tuple [x, y]) from k4 _ List.mem_cons_self)
    obtain ⟨vx, vy, rfl, g3, g4⟩ := dpAll2 g2
    have h1 := sqT_same mask_le g1
    have s1 : SS X.K A0 O (tmD X.K vx x :: tmD X.K vy y :: tmD X.K (.ref p) (.tuple [x, y]) :: T) H0 σ δ H := by
      refine ⟨⟨w0, k1, k2, k3, fun q hq => ?_⟩, s.len, s.same, s.cov⟩
      rcases List.mem_cons.mp hq with rfl | hq
      · exact g3
      · rcases List.mem_cons.mp hq with rfl | hq
        · exact g4
        · exact k4 q hq
    exact ⟨p, [vx, vy], rfl, h1, rfl, vx, [vy], rfl, vy, [], rfl, rfl, w _ ((s1.setT hoi hb.1).setT hoj hb.2).untemp⟩
  · exact w.elim
/-- target = e, any target -/
def mAsg (O : List Nat) (st : D → DS → R DS) (m : DS → R D) : DS → R Out := fun δ => (m (hideD O δ)).run δ fun d => match st d δ with
  | .ok δ' => .ok (.nx δ')
  | _ => .bad
theorem ds_asg {tg e : Expr} {pos : Pos} {m : DS → R D} {st : D → DS → R DS} (hg : DG X O tg st) (he : DE X Y e m) (hs : swapsWithSole [tg] e pos.line X.env = pure false := by rfl) (hw : swappedStores [tg] e X.env = pure none := by rfl)
    (h1 : (assignEach [tg] X.env).map (·.2) = [assign tg X.env] := by rfl) : DSt X Y O (.Assign [tg] e pos) (mAsg O st m) := by
  obtain ⟨g, pg, qg⟩ := hg
  obtain ⟨t, p, q⟩ := he
  refine ⟨_, ps_asg p pg hs hw h1, fun A0 T H0 σ δ H Dn s w => ?_⟩
  obtain ⟨w0, cv, sr, up, kp, tm, _⟩ := s.share
  refine q σ (hideD O δ) H _ cv sr _ ?_
  unfold mAsg at w
  cases e : m (hideD O δ) with
  | bad => rw [e] at w; exact w
  | ex k => rw [e] at w; exact fun H' t => w σ H' (s.keep t)
  | ok d =>
    rw [e] at w
    dsimp only [R.run] at w
    refine fun v H' t r => qg A0 T H0 σ δ H' v d _ (tm (tmD X.K v d) H' t r) ?_
    cases e2 : st d δ with
    | bad => rw [e2] at w; exact w
    | ex k => rw [e2] at w; exact w
    | ok δ' => rw [e2] at w; exact fun σ' s' => w σ' H' s'
theorem q_asg {O : List Nat} {st : D → DS → R DS} {m : DS → R D} {δ : DS} : mAsg O st m δ = (m (hideD O δ)).run δ fun d => match st d δ with
  | .ok δ' => .ok (.nx δ')
  | _ => .bad := (rfl)
theorem q_pair {i j : Nat} {x y : D} {δ : DS} : stPair i j (.tuple [x, y]) δ = R.when (inB i δ && inB j (δ.set i (some x))) (.ok ((δ.set i (some x)).set j (some y))) := (rfl)
/-! ## the class X of errors, which number it has -/
structure ExcAt (K : PySem.W.Frag) (mg : Str → Option Value) (cv : Nat → Value) (x : Str) (n : Nat) : Prop where
  ex : ∃ (C : Addr) (bmB : List Value), mg x = some (.ref C) ∧ PySem.W.excIn K C bmB "ValueError.__new__" = true ∧ ExcBaseFacts "ValueError" "ValueError.__new__" "ValueError.__init__" bmB ∧ PySem.W.keepIn K (.ref C) = true ∧ PySem.W.subIn K (.ref C) (.type "BaseException") = some true ∧ PySem.W.typeIn K (.ref C) = some (.type "type") ∧ cv n = .ref C
theorem ds_raiseA {x : Str} {p pos pos' : Pos} {e : Expr} {es : List Expr} {ms : DS → R (List D)} {n : Nat} (hx : ExcAt X.K X.mg Y.cv x n) (hc : X.calm = true) (tk : Takes X Y.wx) (ha : DA X Y (e :: es) ms) (hg : Gl X x := by rfl) (hdb : (x == ("__debug__" : Str)) = false := by decide)
    (he : starEach (e :: es) X.env = (false, eval e X.env) :: starEach es X.env := by rfl) (hpl : (backTo pos (starEach es X.env)).any (·.1) = false := by rfl) : DSt X Y O (.Raise (some (.Call (.Name x p) (e :: es) [] pos)) none pos') (mRaiseD n ms) := by
  obtain ⟨C, bmB, g, xn, F, k, b, t, hcv⟩ := hx.ex
  exact ds_raise n hc tk F xn g k (raises_own b t) hcv hg ha hdb he hpl
/-! ## tests: x in T, x not in T, T a written dict -/
def inK (tb : Str → Option D) (neg : Bool) : D → R Bool := fun d => match strD d with
  | some z => .ok (if neg = true then !(tb z).isSome else (tb z).isSome)
  | none => .bad
theorem dt_inTab {x : Str} {p pos : Pos} {e : Expr} {m : DS → R D} {tb : Str → Option D} (h : TabD X.K X.w X.mg x tb) (he : DE X Y e m) (hg : Gl X x := by rfl) (hdb : (x == ("__debug__" : Str)) = false := by decide) (hm : behindInMarks .In (.Name x p) = false := by first | exact nobehind _ (by decide) (by decide) | rfl) : DT X Y (.Compare e [.In] [.Name x p] pos) (fun δ => (m δ).bind (inK tb false)) := by
  obtain ⟨d, es, n, hx, D, h0, h1⟩ := h.ex
  obtain ⟨t, pe, q⟩ := he
  refine ⟨_, pt_cmpR (op_in_kd D) pe (pe_glob (v := .ref d) hg hx rfl hdb) hm, fun σ δ H A c s Q w => dt_seq (Y := Y) q c s w fun dd v H1 t1 r1 w1 => ?_⟩
  cases r1 with
  | str z =>
    have w2 : WpT (Y.at σ) H1 (.ok (tb z).isSome) Q := w1
    cases e : tb z with
    | none => rw [e] at w2; exact ⟨z, none, rfl, rfl, h0 z e, false, rfl, w2.here⟩
    | some y =>
      rw [e] at w2
      obtain ⟨u, v, k1, k2, k3⟩ := h1 z y e
      exact ⟨z, some u, rfl, rfl, k1, true, rfl, w2.here⟩
  | _ => exact w1.elim
theorem dt_notInTab {x : Str} {p pos : Pos} {e : Expr} {m : DS → R D} {tb : Str → Option D} (h : TabD X.K X.w X.mg x tb) (he : DE X Y e m) (hg : Gl X x := by rfl) (hdb : (x == ("__debug__" : Str)) = false := by decide) (hm : behindInMarks .NotIn (.Name x p) = false := by first | exact nobehind _ (by decide) (by decide) | rfl) : DT X Y (.Compare e [.NotIn] [.Name x p] pos) (fun δ => (m δ).bind (inK tb true)) := by
  obtain ⟨d, es, n, hx, D, h0, h1⟩ := h.ex
  obtain ⟨t, pe, q⟩ := he
  refine ⟨_, pt_cmpR (op_notIn_kd D) pe (pe_glob (v := .ref d) hg hx rfl hdb) hm, fun σ δ H A c s Q w => dt_seq (Y := Y) q c s w fun dd v H1 t1 r1 w1 => ?_⟩
  cases r1 with
  | str z =>
    have w2 : WpT (Y.at σ) H1 (.ok (!(tb z).isSome)) Q := w1
    cases e : tb z with
    | none => rw [e] at w2; exact ⟨z, none, rfl, rfl, h0 z e, true, rfl, w2.here⟩
    | some y =>
      rw [e] at w2
      obtain ⟨u, v, k1, k2, k3⟩ := h1 z y e
      exact ⟨z, some u, rfl, rfl, k1, false, rfl, w2.here⟩
  | _ => exact w1.elim
end
/-! ## data of bools -/
theorem bools_inv : ∀ {xs : List D} {bs : List Bool}, boolsD xs = some bs → xs = bs.map PyData.bool
  | [], bs, h => by cases h; rfl
  | d :: xs, bs, h => by
    cases d with
    | bool b =>
      have h' : (boolsD xs).map (fun q => b :: q) = some bs := h
      cases e : boolsD xs with
      | none => rw [e] at h'; cases h'
      | some cs =>
        rw [e] at h'
        cases h'
        rw [bools_inv e]; rfl
    | _ => cases h
theorem chk_ok {α : Type} {n : Nat} {f : List D → R α} {ds : List D} (h : ds.length = n) : chk n f ds = f ds := by unfold chk; rw [decide_eq_true h]; rfl
theorem atI_in {xs : List D} {k : Int} (h0 : 0 ≤ k) (h : k < xs.length) (d : D) : atI xs k = some (xs.getD k.toNat d) := by
  unfold atI ixN
  rw [if_pos h0, if_pos h]
  show xs[k.toNat]? = _
  rw [List.getD_eq_getElem?_getD, List.getElem?_eq_getElem (by omega)]; rfl
theorem g_eqB {a b : Bool} : gEq (.bool a) (.bool b) = .ok (.bool (decide (a = b))) := by
  cases a <;> cases b <;> rfl
theorem shp_str {s : Str} : shp (.str s) = PyData.strOk s := by
  unfold shp SeqAt.shaped
  rw [show PyData.canLay0 (.str s) = PyData.strOk s by simp only [PyData.canLay0], show PyData.depth (.str s) = 0 by simp only [PyData.depth]]
  simp
theorem eqv_str {s t : Str} : PyData.eqv (.str s) (.str t) = decide (s = t) := by
  rw [show PyData.eqv (.str s) (.str t) = (s == t) by simp only [PyData.eqv]]
  by_cases h : s = t <;> simp [h]
theorem g_eqS {s t : Str} (hs : PyData.strOk s = true) (ht : PyData.strOk t = true) : gEq (.str s) (.str t) = .ok (.bool (decide (s = t))) := by
  unfold gEq
  rw [shp_str, shp_str, eqv_str, hs, ht]; rfl
/-! ## comprehensions -/
section
variable {vs : List Nat} {j : Nat} {mi me : DS → R D} {ms : DS → R (List D)} {mt : DS → R Bool} {δ : DS} {ds : List D}
def compK (vs : List Nat) (j : Nat) (mt : DS → R Bool) (me : DS → R D) (δ : DS) : D → R (List D) := fun d => match seqD d with
  | some ds => R.when (ltOk ds.length) (compM j mt me (wipeD δ vs) ds)
  | none => .bad
def rangeD (n : Nat) : List D := (List.range n).map fun i => .int (i : Nat)
def compRK (vs : List Nat) (j : Nat) (mt : DS → R Bool) (me : DS → R D) (δ : DS) : List D → R (List D) := fun ds => match ds with
  | [.int n] => R.when (decide (-(2 ^ 62) ≤ n ∧ n.toNat < sizeLine)) (compM j mt me (wipeD δ vs) (rangeD n.toNat))
  | _ => .bad
theorem q_comp : mComp vs j mi mt me δ = (mi δ).bind (compK vs j mt me δ) := (rfl)
theorem q_compL : compK vs j mt me δ (.list ds) = R.when (ltOk ds.length) (compM j mt me (wipeD δ vs) ds) := (rfl)
theorem q_compT : compK vs j mt me δ (.tuple ds) = R.when (ltOk ds.length) (compM j mt me (wipeD δ vs) ds) := (rfl)
theorem q_compR : mCompR vs j ms mt me δ = (ms δ).bind (compRK vs j mt me δ) := (rfl)
theorem q_compRI {n : Int} : compRK vs j mt me δ [.int n] = R.when (decide (-(2 ^ 62) ≤ n ∧ n.toNat < sizeLine)) (compM j mt me (wipeD δ vs) (rangeD n.toNat)) := (rfl)
theorem q_wipe1 : wipeD δ [j] = δ.set j none := (rfl)
theorem comp_map {f : D → D} : ∀ {xs : List D}, (∀ x ∈ xs, me (δ.set j (some x)) = .ok (f x)) → compM j mYes me δ xs = .ok (xs.map f)
  | [], _ => rfl
  | x :: xs, h => by
    have ih := comp_map (xs := xs) fun y hy => h y (List.mem_cons_of_mem _ hy)
    show (match me (δ.set j (some x)) with
      | .ok y => (compM j mYes me δ xs).map fun ys => y :: ys
      | _ => .bad) = _
    rw [h x List.mem_cons_self, ih]; rfl
theorem comp_range {f : Nat → D} {n : Nat} (h : ∀ i, i < n → me (δ.set j (some (.int (i : Nat)))) = .ok (f i)) : compM j mYes me δ (rangeD n) = .ok ((List.range n).map f) := by
  have g : ∀ xs : List Nat, (∀ i ∈ xs, i < n) → compM j mYes me δ (xs.map fun i : Nat => (PyData.int (i : Nat) : D)) = .ok (xs.map f) := fun xs => by
    induction xs with
    | nil => intro _; rfl
    | cons x xs ih =>
      intro hx
      show (match me (δ.set j (some (.int (x : Nat)))) with
        | .ok y => (compM j mYes me δ (xs.map fun i : Nat => (PyData.int (i : Nat) : D))).map fun ys => y :: ys
        | _ => .bad) = _
      rw [h x (hx x List.mem_cons_self), ih fun i hi => hx i (List.mem_cons_of_mem _ hi)]; rfl
  exact g _ fun i hi => List.mem_range.mp hi
theorem q_rep {ma : DS → R (List D)} {mb : DS → R D} : mRep ma mb δ = (ma δ).bind fun ds => (mb δ).bind fun y => match y with
  | .int k => R.when (repOk ds.length k) (.ok (List.replicate k.toNat ds).flatten)
  | _ => .bad := (rfl)
end
/-! ## data of ints -/
def intsD : List D → Option (List Int)
  | [] => some []
  | .int n :: ds => (intsD ds).map fun ns => n :: ns
  | _ => none
theorem ints_inv : ∀ {xs : List D} {ns : List Int}, intsD xs = some ns → xs = ns.map PyData.int
  | [], ns, h => by cases h; rfl
  | d :: xs, ns, h => by
    cases d with
    | int n =>
      have h' : (intsD xs).map (fun q => n :: q) = some ns := h
      cases e : intsD xs with
      | none => rw [e] at h'; cases h'
      | some cs =>
        rw [e] at h'
        cases h'
        rw [ints_inv e]; rfl
    | _ => cases h
theorem ints_of (ns : List Int) : intsD (ns.map PyData.int) = some ns := by
  induction ns with
  | nil => rfl
  | cons n ns ih => show (intsD (ns.map PyData.int)).map (fun q => n :: q) = _; rw [ih]; rfl
/-! ## one statement after the other -/
theorem cut {m n : DS → R Out} {δ : DS} {r : R D} (I : DS → Prop) (h : ∃ δ', m δ = .ok (.nx δ') ∧ I δ') (k : ∀ δ', I δ' → fin (n δ') = r) : fin (mSeq m n δ) = r := by
  obtain ⟨δ', e, i⟩ := h
  rw [q_seq, e]
  exact k δ' i
theorem cutR {m n : DS → R Out} {δ : DS} (δ' : DS) {r : R Out} (h : m δ = .ok (.nx δ')) (k : n δ' = r) : mSeq m n δ = r := by
  rw [q_seq, h]
  exact k
theorem range_eq {ms : DS → R (List D)} {n : Nat} : rangeD n = (List.range n).map fun i => .int (i : Nat) := rfl
/-! ## owned slots hidden, computed -/
def memB : Nat → List Nat → Bool
  | _, [] => false
  | k, o :: os => (k == o) || memB k os
theorem elem_memB (k : Nat) : ∀ O : List Nat, O.elem k = memB k O
  | [] => rfl
  | o :: os => by
    have ih := elem_memB k os
    show (match k == o with
      | true => true
      | false => os.elem k) = ((k == o) || memB k os)
    cases k == o with
    | true => rfl
    | false => exact ih
theorem q_hideM {O : List Nat} {k : Nat} {x : Option D} {r : DS} : hideF O k (x :: r) = (if memB k O = true then none else x) :: hideF O (k + 1) r := by
  rw [q_hideC, elem_memB]
theorem memB_nil {k : Nat} : memB k [] = false := (rfl)
theorem memB_cons {k o : Nat} {os : List Nat} : memB k (o :: os) = ((k == o) || memB k os) := (rfl)
/-! ## lists of bools: as data -/
theorem imms_bools (bs : List Bool) : imms (bs.map PyData.bool) = true := by
  induction bs with
  | nil => rfl
  | cons b bs ih => rw [List.map_cons, imms, ih]; rfl
theorem lay_bools (bs : List Bool) : PyData.canLayAll0 (bs.map PyData.bool) = true ∧ PyData.depthAll (bs.map PyData.bool) = 0 ∧ PyData.eqvAll (bs.map PyData.bool) (bs.map PyData.bool) = true := by
  induction bs with
  | nil => exact ⟨by simp only [List.map_nil, PyData.canLayAll0], by simp only [List.map_nil, PyData.depthAll], by simp only [List.map_nil, PyData.eqvAll]⟩
  | cons b bs ih =>
    rw [List.map_cons]
    refine ⟨?_, ?_, ?_⟩
    · rw [PyData.canLayAll0, ih.1, PyData.canLay0]; rfl
    · rw [PyData.depthAll, ih.2.1, PyData.depth]; rfl
    · rw [PyData.eqvAll, ih.2.2, PyData.eqv]; cases b <;> rfl
theorem shp_bools (bs : List Bool) : shp (.list (bs.map PyData.bool)) = true := by
  unfold shp SeqAt.shaped
  rw [PyData.canLay0, PyData.depth, (lay_bools bs).1, (lay_bools bs).2.1]; rfl
theorem g_eqBs (bs : List Bool) : gEq (.list (bs.map PyData.bool)) (.list (bs.map PyData.bool)) = .ok (.bool true) := by
  unfold gEq
  rw [shp_bools, PyData.eqv, (lay_bools bs).2.2]; rfl
theorem flat_rep {α : Type} (x : α) : ∀ n : Nat, (List.replicate n [x]).flatten = List.replicate n x
  | 0 => rfl
  | n + 1 => by rw [List.replicate_succ, List.flatten_cons, flat_rep x n]; rfl
def repK (ds : List D) : D → R (List D) := fun y => match y with
  | .int k => R.when (repOk ds.length k) (.ok (List.replicate k.toNat ds).flatten)
  | _ => .bad
theorem q_repK {ma : DS → R (List D)} {mb : DS → R D} {δ : DS} : mRep ma mb δ = (ma δ).bind fun ds => (mb δ).bind (repK ds) := (rfl)
theorem q_repI {ds : List D} {k : Int} : repK ds (.int k) = R.when (repOk ds.length k) (.ok (List.replicate k.toNat ds).flatten) := (rfl)
theorem ix_in {n : Nat} {k : Int} (h0 : 0 ≤ k) (h : k < n) : ixN n k = some k.toNat := by
  unfold ixN; rw [if_pos h0, if_pos h]
abbrev mL (m : DS → R (List D)) : DS → R D := fun δ => (m δ).map .list
abbrev mCatL (ma mb : DS → R D) : DS → R (List D) := fun δ => (ma δ).bind fun x => (mb δ).bind fun y => gCatL x y
def getK (tb : Str → Option D) : D → R D := fun d => match (strD d).bind tb with
  | some y => .ok y
  | none => .bad
theorem q_mL {m : DS → R (List D)} {δ : DS} : mL m δ = (m δ).map .list := (rfl)
theorem q_mcat {ma mb : DS → R D} {δ : DS} : mCatL ma mb δ = (ma δ).bind fun x => (mb δ).bind fun y => gCatL x y := (rfl)
theorem FnOk.tells {P : Program} {w : World} {K : PySem.W.Frag} {mg : Str → Option Value} {base : Heap} {cv : Nat → Value} {k : Nat} {f : Addr} {fd : FuncData} {ps : List Str} {g g' : List D → R D} (F : FnOk P w K mg base (L2.CX P w) k f fd ps (SpD K cv g)) (t : Tells g' g) :
    FnOk P w K mg base (L2.CX P w) k f fd ps (SpD K cv g') := F.imp fun vs H Q E ⟨A, ds, c, r, wq⟩ => ⟨A, ds, c, r, by
  rcases t ds with e | e
  · rw [e] at wq; exact wq.elim
  · rw [e]; exact wq⟩
end L2
namespace L2
open PySem PySem.Spec PyProof.Rows
section
variable {X : Cx} {Y : Wy} {O : List Nat}
/-! ## try: .. except X as n: return isinstance(n, ValueError) -/
def mTryIs (i : Nat) (m : DS → R Out) (p : Nat → Option Bool) : DS → R Out := fun δ => match m δ with
  | .ok (.ex k δ') => match p k with
    | some true => R.when (inB i δ') (.ok (.rt (.bool true)))
    | some false => .ok (.ex k δ')
    | none => .bad
  | r => r
/-- the errors with these numbers are values that isinstance knows -/
def IsErr (K : PySem.W.Frag) (v : Value) : Prop := ∃ D, v = .ref D ∧ ExcC K D ∧ PySem.W.kitOne K (.ref D) (.type "ValueError") = some true
theorem ds_tryIs {i : Nat} {x n : Str} {c : Value} {p : Nat → Option Bool} {body : List Stmt} {m : DS → R Out} {np p1 p2 p3 p4 p5 pos pos' : Pos} (h1 : X.stack = X.env :: X.outer) (hf : X.env.frame = some X.env.locals) (tk : Takes X Y.wx) (hN : X.N.Nodup) (hi : X.N[i]? = some n) (hln : X.env.kindOf n = some .local) (hv : Vis X.env.scope n)
    (hc : Names X x c) (hp : ∀ k b, p k = some b → PySem.W.exmOne X.K (Y.cv k) c = some b) (hE : ∀ k, p k = some true → IsErr X.K (Y.cv k))
    (hb : ∀ (W : WX) (pn : List (Addr × Obj)) (xe : Value → Shared → Prop), Takes (X.tr pn xe) W → PassesOwn (model X.prog X.w) X.A X.env xe → DSs (X.tr pn xe) (inTry Y W) O body m)
    (mi : X.mg "isinstance" = none) (mv : X.mg "ValueError" = none) (gi : Gl X "isinstance" := by rfl) (gv : Gl X "ValueError" := by rfl) (hd : (n == ("__debug__" : Str)) = false := by decide) (hcd : (n == ("__classdict__" : Str)) = false := by decide)
    (he : starEach [.Name n p2, .Name "ValueError" p3] X.env = [(false, eval (.Name n p2) X.env), (false, eval (.Name "ValueError" p3) X.env)] := by rfl) (he2 : starEach [.Name "ValueError" p3] X.env = [(false, eval (.Name "ValueError" p3) X.env)] := by rfl) (hpl : (backTo p4 (starEach [.Name "ValueError" p3] X.env)).any (·.1) = false := by rfl) :
    DSt X Y O (.Try body [.ExceptHandler (some (.Name x np)) (some n) [.Return (some (.Call (.Name "isinstance" p1) [.Name n p2, .Name "ValueError" p3] [] p4)) p5] pos'] [] [] pos) (mTryIs i m p) := by
  refine ⟨_, ps_try_as (i := i) (tb := fun W => canS X.K (inTry Y W) O m) (ts := fun a cls d => fun Dn σ H => σ[i]? = some (some (.ref a)) ∧ (d = none ∧ IsErr X.K cls) ∧ Dn.rt (.bl true) H) h1 hf hN hi hln hc tk (fun W pn xe t q => (hb W pn xe t q).can) (fun a oe cls d pn hz hff => ⟨fun pins s σ H Dn I h => ?_⟩), fun A0 T H0 σ δ H Dn s w => ⟨A0, T, H0, δ, s, ?_⟩⟩
  · obtain ⟨hs, ⟨hd0, D, hD, C, k⟩, q⟩ := h
    subst hd0
    subst hD
    refine (pss_one (ps_ret (pe_callB (call_isE C hz hff) gi mi (by decide +kernel) (pa_cons (pe_var hi hv hd hcd) (pa_cons (pe_bltn (v := .ty "ValueError") gv mv (u := .type "ValueError") (by decide +kernel) rfl (by decide) (by decide)) pa_nil (by rw [he2]; rfl)) (by rw [he, he2])) (by decide) (by decide) (by rw [he, he2]) hpl))).run pins s σ H Dn I ?_
    exact ⟨_, hs, .ty "ValueError", .type "ValueError", true, rfl, fun u r => r, k, q⟩
  · unfold mTryIs at w
    cases e : m δ with
    | bad => rw [e] at w; exact w
    | ex k => rw [e] at w; exact w
    | ok o =>
      rw [e] at w
      cases o with
      | ex k δ' =>
        refine fun σ' H' s' => ?_
        dsimp only at w
        cases e2 : p k with
        | none => rw [e2] at w; exact w.elim
        | some b =>
          rw [e2] at w
          refine ⟨b, hp k b e2, fun hb a _ => ?_, fun hb => ?_⟩
          · subst hb
            obtain ⟨hin, w⟩ := R.when_ok (fun r => WpS X.K Y A0 O T H0 r Dn) w id
            have hl : i < σ'.length := by rw [s'.len]; exact of_decide_eq_true hin
            exact ⟨List.getElem?_set_self hl, ⟨rfl, hE k e2⟩, w _ H' s'.same (.bl true)⟩
          · subst hb
            exact w σ' H' s'
      | _ => exact w
theorem q_tryIs {i : Nat} {m : DS → R Out} {p : Nat → Option Bool} {δ : DS} : mTryIs i m p δ = match m δ with
  | .ok (.ex k δ') => match p k with
    | some true => R.when (inB i δ') (.ok (.rt (.bool true)))
    | some false => .ok (.ex k δ')
    | none => .bad
  | r => r := (rfl)
end
/-! ## the texts of refusals -/
def fmtOk (z : Str) : Bool := PyData.strOk z && decide (z.length ≤ 1000)
theorem repr_small {z : Str} (h : fmtOk z = true) : (reprText z).length ≤ 10002 := by
  unfold fmtOk at h
  rw [Bool.and_eq_true] at h
  have hl := of_decide_eq_true h.2
  have hc : ∀ c ∈ z.cps.toList, c < 16 ^ 8 := fun c hc => by
    have a := h.1
    unfold PyData.strOk at a
    rw [← Array.all_toList, List.all_eq_true] at a
    have b := of_decide_eq_true (a c hc)
    omega
  have := StrLaws.reprText_len z hc
  omega
theorem sz_of' {n : Nat} (h : n ≤ 20000) : szOk n = true := decide_eq_true (Nat.le_trans h (by decide))
theorem fmtR_ok {z : Str} (h : fmtOk z = true) : gFmtR (.str z) = .ok (.str (reprText z)) := by
  have := repr_small h
  show R.when (szOk (reprText z).length) _ = _
  rw [sz_of' (by omega)]; rfl
theorem fmt_ok {z : Str} (h : fmtOk z = true) : gFmt (.str z) = .ok (.str z) := by
  unfold fmtOk at h
  rw [Bool.and_eq_true] at h
  have hl := of_decide_eq_true h.2
  show R.when (szOk z.length) _ = _
  rw [sz_of' (by omega)]; rfl
theorem int_small : ∀ n : Nat, n ≤ 20 → (toString (n : Int) : Str).length ≤ 20 ∧ ((n : Int).natAbs.log2 < 1920) := by decide +kernel
theorem js_nil {acc : Str} {δ : DS} : mJs [] acc δ = .ok (.str acc) := (rfl)
theorem js_cons {acc y : Str} {m : DS → R D} {ms : List (DS → R D)} {δ : DS} (h : m δ = .ok (.str y)) (hl : acc.length + y.length ≤ 20000) : mJs (m :: ms) acc δ = mJs ms (acc ++ y) δ := by
  show (m δ).bind _ = _
  rw [h]
  show R.when (szOk (acc ++ y).length) (mJs ms (acc ++ y) δ) = _
  rw [Str.length_append, sz_of' hl]; rfl
end L2
namespace L2
open PySem PySem.Spec PyProof.Rows
/-! ## more equations: texts, slices, try, loops -/
def mFmtR (m : DS → R D) : DS → R D := fun δ => (m δ).bind gFmtR
def mFmt (m : DS → R D) : DS → R D := fun δ => (m δ).bind gFmt
section
variable {δ : DS} {m ma mb : DS → R D}
theorem fmtR_at {z : Str} (h : m δ = .ok (.str z)) (hz : fmtOk z = true) : mFmtR m δ = .ok (.str (reprText z)) := by
  unfold mFmtR; rw [h]; exact fmtR_ok hz
theorem fmt_at {z : Str} (h : m δ = .ok (.str z)) (hz : fmtOk z = true) : mFmt m δ = .ok (.str z) := by
  unfold mFmt; rw [h]; exact fmt_ok hz
theorem fmtI_at {n : Nat} (h : m δ = .ok (.int n)) (hn : n ≤ 20) : mFmt m δ = .ok (.str (toString (n : Int))) := by
  unfold mFmt; rw [h]
  show R.when (decide ((n : Int).natAbs.log2 < 1920)) _ = _
  rw [decide_eq_true (int_small n hn).2]; rfl
theorem q_isN {b : Bool} {x : D} : gIsN b x .none = .ok (.bool (if b then !isNone x else isNone x)) := (rfl)
theorem isN_none : isNone .none = true := (rfl)
theorem isN_tup {xs : List D} : isNone (.tuple xs) = false := (rfl)
def ixK : Option Nat → R D
  | some c => .ok (.str ⟨#[c]⟩)
  | none => .bad
theorem g_ixS {z : Str} {i : Int} : gIx (.str z) (.int i) = R.when (szOk z.length) (ixK (atI z.cps.toList i)) := by
  unfold gIx
  dsimp only
  congr 1
theorem q_ixK {c : Nat} : ixK (some c) = .ok (.str ⟨#[c]⟩) := (rfl)
def partK : R D → R (Option Int)
  | .ok (.int i) => .ok (some i)
  | _ => .bad
theorem q_part : mPart m δ = partK (m δ) := (rfl)
theorem q_partK {i : Int} : partK (.ok (.int i)) = .ok (some i) := (rfl)
theorem q_noPart : mNoPart δ = .ok none := (rfl)
def slK (l h : R (Option Int)) : D → R D := fun d => match l.opt, h.opt with
  | some l, some h => gSlT d l h
  | _, _ => .bad
theorem q_sl {ml mh : DS → R (Option Int)} : mSlT m ml mh δ = (m δ).bind (slK (ml δ) (mh δ)) := (rfl)
theorem q_slK {l h : Option Int} {z : Str} : slK (.ok l) (.ok h) (.str z) = R.when (szOk z.length) (.ok (.str (cutS z l h))) := (rfl)
def tryK (hs : List Hd) : R Out → R Out
  | .ok (.ex n δ') => hand hs n δ'
  | r => r
theorem q_try {n : DS → R Out} {hs : List Hd} : mTry n hs δ = tryK hs (n δ) := by
  unfold mTry tryK
  cases n δ with
  | ok o => cases o <;> rfl
  | _ => rfl
theorem tryK_ex {hs : List Hd} {k : Nat} : tryK hs (.ok (.ex k δ)) = hand hs k δ := (rfl)
theorem tryK_nx {hs : List Hd} : tryK hs (.ok (.nx δ)) = .ok (.nx δ) := (rfl)
theorem tryK_rt {hs : List Hd} {d : D} : tryK hs (.ok (.rt d)) = .ok (.rt d) := (rfl)
def handK (h : DS → R Out) (r : List Hd) (n : Nat) (δ : DS) : Option Bool → R Out
  | some true => noEx (h δ)
  | some false => hand r n δ
  | none => .bad
theorem q_hand {p : Nat → Option Bool} {h : DS → R Out} {r : List Hd} {n : Nat} : hand ((p, h) :: r) n δ = handK h r n δ (p n) := (rfl)
theorem handK_t {h : DS → R Out} {r : List Hd} {n : Nat} : handK h r n δ (some true) = noEx (h δ) := (rfl)
theorem handK_f {h : DS → R Out} {r : List Hd} {n : Nat} : handK h r n δ (some false) = hand r n δ := (rfl)
theorem hand_nil {n : Nat} : hand [] n δ = .ok (.ex n δ) := (rfl)
theorem noEx_nx : noEx (.ok (.nx δ)) = .ok (.nx δ) := (rfl)
def tryIsK (i : Nat) (p : Nat → Option Bool) : R Out → R Out
  | .ok (.ex k δ') => match p k with
    | some true => R.when (inB i δ') (.ok (.rt (.bool true)))
    | some false => .ok (.ex k δ')
    | none => .bad
  | r => r
theorem q_tryIsK {i : Nat} {n : DS → R Out} {p : Nat → Option Bool} : mTryIs i n p δ = tryIsK i p (n δ) := by
  unfold mTryIs tryIsK
  cases n δ with
  | ok o => cases o <;> rfl
  | _ => rfl
theorem tryIsK_nx {i : Nat} {p : Nat → Option Bool} : tryIsK i p (.ok (.nx δ)) = .ok (.nx δ) := (rfl)
theorem tryIsK_ex {i k : Nat} {p : Nat → Option Bool} (h : p k = some true) : tryIsK i p (.ok (.ex k δ)) = R.when (inB i δ) (.ok (.rt (.bool true))) := by
  unfold tryIsK; dsimp only; rw [h]
theorem q_stN {i : Nat} {d : D} : stName i d δ = R.when (inB i δ) (.ok (δ.set i (some d))) := (rfl)
theorem loop_nil {st : D → DS → R DS} {n : DS → R Out} : loopM st n [] δ = .ok (.nx δ) := (rfl)
theorem loop_rt {st : D → DS → R DS} {n : DS → R Out} {x d : D} {xs : List D} {δ1 : DS} (h1 : st x δ = .ok δ1) (h2 : n δ1 = .ok (.rt d)) : loopM st n (x :: xs) δ = .ok (.rt d) := by
  unfold loopM; rw [h1]; dsimp only; rw [h2]
theorem loop_nx {st : D → DS → R DS} {n : DS → R Out} {x : D} {xs : List D} {δ1 δ2 : DS} (h1 : st x δ = .ok δ1) (h2 : n δ1 = .ok (.nx δ2)) : loopM st n (x :: xs) δ = loopM st n xs δ2 := by
  rw [loopM, h1]; dsimp only; rw [h2]
def forRK (st : D → DS → R DS) (n : DS → R Out) (δ : DS) : List D → R Out := fun ds => match ds with
  | [.int k] => R.when (decide (-(2 ^ 62) ≤ k ∧ k < 2 ^ 62)) (loopM st n (rangeD k.toNat) δ)
  | [.int a, .int b] => R.when (decide (-(2 ^ 62) ≤ a ∧ a < 2 ^ 62 ∧ -(2 ^ 62) ≤ b ∧ b < 2 ^ 62)) (loopM st n ((List.range (b - a).toNat).map fun i => .int (a + (i : Nat))) δ)
  | _ => .bad
theorem q_forR {st : D → DS → R DS} {n : DS → R Out} {ms : DS → R (List D)} : mForR ms st n δ = (ms δ).run δ (forRK st n δ) := (rfl)
theorem q_forRK1 {st : D → DS → R DS} {n : DS → R Out} {k : Int} : forRK st n δ [.int k] = R.when (decide (-(2 ^ 62) ≤ k ∧ k < 2 ^ 62)) (loopM st n (rangeD k.toNat) δ) := (rfl)
end
end L2
namespace SL
open PySem PySem.Spec PyProof.Rows L2
/-! what the laws share: kinds, cells, mixed numbers -/
/-! the kinds -/
def kindIx (z : Str) : Option Nat := if z = "yes" then some 0 else if z = "no" then some 1 else if z = "keep" then some 2 else if z = "not" then some 3 else if z = "both" then some 4 else if z = "either" then some 5 else if z = "unlike" then some 6
  else if z = "pick" then some 7 else if z = "most" then some 8 else none
def lo : Nat → Int
  | 0 => 0 | 1 => 0 | 2 => 1 | 3 => 1 | 4 => 2 | 5 => 2 | 6 => 2 | _ => 3
def hi : Nat → Int
  | 0 => 0 | 1 => 0 | 2 => 1 | 3 => 1 | 4 => 9 | 5 => 9 | 6 => 9 | _ => 3
def cnt (bs : List Bool) : Int := (bs.map numB).sum
def ansB : Nat → List Bool → Bool
  | 0, _ => true
  | 1, _ => false
  | 2, bs => bs.getD 0 false
  | 3, bs => !bs.getD 0 false
  | 4, bs => bs.all id
  | 5, bs => bs.any id
  | 6, bs => decide (cnt bs % 2 = 1)
  | 7, bs => if bs.getD 0 false = true then bs.getD 1 false else bs.getD 2 false
  | _, bs => decide (2 ≤ cnt bs)
def arOk (i : Nat) (n : Nat) : Bool := decide (lo i ≤ n ∧ (n : Int) ≤ hi i)
def boolL : D → Option (List Bool)
  | .list xs => boolsD xs
  | _ => none
def g_rule (i : Nat) : List D → R D
  | [d] => match boolL d with
    | some bs => R.when (arOk i bs.length) (.ok (.bool (ansB i bs)))
    | none => .bad
  | _ => .bad
theorem tell_rule {i : Nat} {g : List D → R D} (h : ∀ bs : List Bool, arOk i bs.length = true → g [.list (bs.map PyData.bool)] = .ok (.bool (ansB i bs))) : Tells (g_rule i) g := fun ds => by
  unfold g_rule
  split
  · rename_i d
    split
    · rename_i bs e
      cases d with
      | list xs =>
        have e2 := bools_inv (show boolsD xs = some bs from e)
        subst e2
        cases q : arOk i bs.length with
        | true => exact .inr (h bs q)
        | false => exact .inl rfl
      | _ => cases e
    · exact .inl rfl
  · exact .inl rfl
theorem atB {bs : List Bool} {k : Nat} (h : k < bs.length) : atI (bs.map PyData.bool) (k : Int) = some (.bool (bs.getD k false)) := by
  rw [atI_in (by omega) (by rw [List.length_map]; omega) (.bool false)]
  rw [Int.toNat_natCast, List.getD_eq_getElem?_getD, List.getElem?_map, List.getD_eq_getElem?_getD, List.getElem?_eq_getElem h]; rfl
theorem ar_eq {i n : Nat} (h : arOk i n = true) : lo i ≤ n ∧ (n : Int) ≤ hi i := of_decide_eq_true h
def g_cell : List D → R D
  | [.list xs, .int k] => R.when (decide (0 ≤ k)) (.ok (xs.getD k.toNat (.int 0)))
  | _ => .bad
theorem ok_kinds : PyData.strOk "yes" = true ∧ PyData.strOk "no" = true ∧ PyData.strOk "keep" = true ∧ PyData.strOk "not" = true ∧ PyData.strOk "both" = true ∧ PyData.strOk "either" = true ∧ PyData.strOk "unlike" = true ∧ PyData.strOk "pick" = true ∧ PyData.strOk "most" = true := by decide +kernel
/-- the kind with the number i -/
def kd (i : Nat) : Str := (["yes", "no", "keep", "not", "both", "either", "unlike", "pick", "most"] : List Str).getD i "yes"
theorem kd_ix : ∀ i, i < 9 → kindIx (kd i) = some i := by decide +kernel
theorem kd_ok : ∀ i, i < 9 → PyData.strOk (kd i) = true := by decide +kernel
theorem kd_inj : ∀ i, i < 9 → ∀ j, j < 9 → decide (kd i = kd j) = decide (i = j) := by decide +kernel
theorem eq_kd {i j : Nat} (hi : i < 9) (hj : j < 9) : gEq (.str (kd i)) (.str (kd j)) = .ok (.bool (decide (i = j))) := by
  rw [g_eqS (kd_ok i hi) (kd_ok j hj), kd_inj i hi j hj]
theorem ix_lt {z : Str} {i : Nat} (h : kindIx z = some i) : i < 9 := by
  unfold kindIx at h
  repeat' (split at h; · cases h; decide)
  cases h
def g_answered : List D → R D
  | [.str z, .list xs] => match kindIx z, boolsD xs with
    | some i, some bs => R.when (arOk i bs.length && decide (z = kd i)) (.ok (.bool (ansB i bs)))
    | _, _ => .bad
  | _ => .bad
theorem comp_filter {δ : DS} {j : Nat} (hj : j < δ.length) : ∀ bs : List Bool, compM j (mB (mVar j)) (mVar j) δ (bs.map PyData.bool) = .ok ((bs.filter id).map PyData.bool)
  | [] => rfl
  | b :: bs => by
    have ih := comp_filter hj bs
    have e : mVar j (δ.set j (some (.bool b))) = .ok (.bool b) := by
      rw [q_var, List.getElem?_set_self hj]; rfl
    rw [List.map_cons, compM, q_B, e]
    cases b with
    | true =>
      show (compM j (mB (mVar j)) (mVar j) δ (bs.map PyData.bool)).map (fun ys => PyData.bool true :: ys) = _
      rw [ih]; rfl
    | false =>
      show compM j (mB (mVar j)) (mVar j) δ (bs.map PyData.bool) = _
      rw [ih]; rfl
theorem cnt_cons (b : Bool) (bs : List Bool) : cnt (b :: bs) = numB b + cnt bs := by
  unfold cnt; rw [List.map_cons, List.sum_cons]
theorem cnt_filter : ∀ bs : List Bool, ((bs.filter id).length : Int) = cnt bs
  | [] => rfl
  | b :: bs => by
    have ih := cnt_filter bs
    rw [cnt_cons, ← ih]
    cases b with
    | true =>
      show (((bs.filter id).length + 1 : Nat) : Int) = 1 + _
      omega
    | false =>
      show ((bs.filter id).length : Int) = 0 + _
      omega
theorem cnt_all : ∀ bs : List Bool, decide (cnt bs = (bs.length : Int)) = bs.all id
  | bs => by
    have h : ∀ bs : List Bool, cnt bs ≤ bs.length ∧ (bs.all id = true ↔ cnt bs = bs.length) := fun bs => by
      induction bs with
      | nil => exact ⟨Int.le_refl _, by simp [cnt]⟩
      | cons b bs ih =>
        have e : cnt (b :: bs) = numB b + cnt bs := cnt_cons b bs
        rw [e, List.length_cons]
        cases b with
        | true =>
          have : numB true = 1 := rfl
          rw [this]
          refine ⟨by omega, ?_⟩
          rw [List.all_cons]
          simp only [id, Bool.true_and]
          rw [ih.2]; omega
        | false =>
          have : numB false = 0 := rfl
          rw [this]
          refine ⟨by omega, ?_⟩
          rw [List.all_cons]
          simp only [id, Bool.false_and]
          constructor
          · intro h; cases h
          · intro h; omega
    cases q : bs.all id with
    | true => exact decide_eq_true ((h bs).2.mp q)
    | false => exact decide_eq_false fun z => by rw [(h bs).2.mpr z] at q; cases q
theorem cnt_any : ∀ bs : List Bool, decide (0 < cnt bs) = bs.any id := fun bs => by
  have h : ∀ bs : List Bool, 0 ≤ cnt bs ∧ (bs.any id = true ↔ 0 < cnt bs) := fun bs => by
    induction bs with
    | nil => exact ⟨Int.le_refl _, by simp [cnt]⟩
    | cons b bs ih =>
      have e : cnt (b :: bs) = numB b + cnt bs := cnt_cons b bs
      rw [e, List.any_cons]
      cases b with
      | true =>
        have : numB true = 1 := rfl
        rw [this]
        exact ⟨by omega, by simp only [id, Bool.true_or]; constructor <;> intro _ <;> first | omega | trivial⟩
      | false =>
        have : numB false = 0 := rfl
        rw [this]
        refine ⟨by omega, ?_⟩
        simp only [id, Bool.false_or]
        rw [ih.2]; omega
  cases q : bs.any id with
  | true => exact decide_eq_true ((h bs).2.mp q)
  | false => exact decide_eq_false fun z => by rw [(h bs).2.mpr z] at q; cases q
theorem kd_find {z : Str} {i : Nat} (h : kindIx z = some i) : kd i = z := by
  unfold kindIx at h
  repeat' (split at h; · cases h; rename_i e; rw [e]; rfl)
  cases h
theorem kd_miss {z : Str} (h : kindIx z = none) : ∀ i, i < 9 → kd i ≠ z := fun i hi e => by
  rw [← e, kd_ix i hi] at h; cases h
theorem kd_fmt : ∀ i, i < 9 → fmtOk (kd i) = true := by decide +kernel
def tbN (z : Str) : Option D := (kindIx z).map fun i => .tuple [.int (lo i), .int (hi i)]
def tbR (z : Str) : Option (List D → R D) := (kindIx z).map g_rule
def cell (ns : List Int) (k : Nat) : Int := ns.getD k 0
theorem cell_at (ns : List Int) (k : Nat) : g_cell [.list (ns.map PyData.int), .int (k : Int)] = .ok (.int (cell ns k)) := by
  show R.when (decide (0 ≤ (k : Int))) (.ok ((ns.map PyData.int).getD k (.int 0))) = _
  rw [decide_eq_true (by omega), R.when_true]
  unfold cell
  rw [List.getD_eq_getElem?_getD, List.getD_eq_getElem?_getD, List.getElem?_map]
  cases ns[k]? <;> rfl
theorem kinds_at : ∀ i : Nat, i < 9 → atI ([.str "yes", .str "no", .str "keep", .str "not", .str "both", .str "either", .str "unlike", .str "pick", .str "most"] : List D) (i : Int) = some (.str (kd i))
  | 0, _ => rfl | 1, _ => rfl | 2, _ => rfl | 3, _ => rfl | 4, _ => rfl | 5, _ => rfl | 6, _ => rfl | 7, _ => rfl | 8, _ => rfl
  | n + 9, h => by omega
theorem lo_pos (i : Nat) : 0 ≤ lo i := by unfold lo; split <;> decide
theorem hi_le (i : Nat) : hi i ≤ 9 := by unfold hi; split <;> decide
theorem lo_hi (i : Nat) : lo i ≤ hi i := by
  unfold lo
  split <;> first | (show _ ≤ _; decide) | (rename_i h0 h1 h2 h3 h4 h5 h6; unfold hi; split <;> first | decide | (exfalso; first | exact h0 rfl | exact h1 rfl | exact h2 rfl | exact h3 rfl | exact h4 rfl | exact h5 rfl | exact h6 rfl))
def g_whole : List D → R D
  | [.int _] => .ok (.bool true)
  | _ => .bad
def tbl : Nat → Int
  | 0 => 99991 | 1 => 99989 | 2 => 99971 | 3 => 99961 | 4 => 99929 | 5 => 99923 | 6 => 99907 | 7 => 99901 | 8 => 99881 | 9 => 99877 | _ => 99871
theorem tbl_pos (k : Nat) : 0 < tbl k := by unfold tbl; split <;> decide
theorem tbl_at : ∀ i : Nat, i < 11 → atI ([.int 99991, .int 99989, .int 99971, .int 99961, .int 99929, .int 99923, .int 99907, .int 99901, .int 99881, .int 99877, .int 99871] : List D) (i : Int) = some (.int (tbl i))
  | 0, _ => rfl | 1, _ => rfl | 2, _ => rfl | 3, _ => rfl | 4, _ => rfl | 5, _ => rfl | 6, _ => rfl | 7, _ => rfl | 8, _ => rfl | 9, _ => rfl | 10, _ => rfl
  | n + 11, h => by omega
def mixed (c k m : Int) : Int := (c + 7 * k) * 48271 % tbl (k % 11).toNat % m
theorem mixed_in {c k m : Int} (h : 0 < m) : 0 ≤ mixed c k m ∧ mixed c k m < m := ⟨Int.emod_nonneg _ (by omega), Int.emod_lt_of_pos _ h⟩
def g_mixed : List D → R D
  | [.int c, .int k, .int m] => R.when (decide (0 ≤ k ∧ 0 < m)) (.ok (.int (mixed c k m)))
  | _ => .bad
theorem mixed_ev {c k m : Int} (h : 0 ≤ k) (hm : 0 < m) : g_mixed [.int c, .int k, .int m] = .ok (.int (mixed c k m)) := by
  show R.when (decide (0 ≤ k ∧ 0 < m)) (R.ok (PyData.int (mixed c k m))) = _
  rw [decide_eq_true ⟨h, hm⟩]; rfl
def truths (c : Int) (n : Nat) : List Bool := (List.range n).map fun k => decide (mixed c (k : Nat) 2 = 1)
theorem truths_len (c : Int) (n : Nat) : (truths c n).length = n := by unfold truths; rw [List.length_map, List.length_range]
def g_truths : List D → R D
  | [.int c, .int n] => R.when (decide (0 ≤ n ∧ n ≤ 1000)) (.ok (.list ((truths c n.toNat).map PyData.bool)))
  | _ => .bad
def bnd (i : Nat) : D := .tuple [.int (lo i), .int (hi i)]
theorem ne_int (a : Int) : gNe (.int a) (.int a) = .ok (.bool false) := by
  show R.when (shp (.int a) && shp (.int a)) (R.ok (PyData.bool (!PyData.eqv (.int a) (.int a)))) = _
  rw [shp_int, eqv_int, decide_eq_true rfl]; rfl
theorem ne_two (a b : Int) : gNe (.tuple [.int a, .int b]) (.tuple [.int a, .int b]) = .ok (.bool false) := by
  have s : shp (.tuple [.int a, .int b]) = true := by
    simp [shp, SeqAt.shaped, PyData.canLayAll0, PyData.depthAll, PyData.canLay0, PyData.depth]
  have e : PyData.eqv (.tuple [.int a, .int b]) (.tuple [.int a, .int b]) = true := by
    simp [PyData.eqv, PyData.eqvAll]
  show R.when (shp _ && shp _) (R.ok (PyData.bool (!PyData.eqv _ _))) = _
  rw [s, e]; rfl
/-! plans -/
abbrev Gate := Str × List Int × Int
def intsOf (xs : List Int) : List D := xs.map PyData.int
def gateD (g : Gate) : D := .tuple [.str g.1, .tuple (intsOf g.2.1), .int g.2.2]
def gatesD (gs : List Gate) : List D := gs.map gateD
def planD (n : Int) (gs : List Gate) : D := .tuple [.int n, .list (gatesD gs)]
def many (c : Int) : Int := if c / 6 % 8 = 1 then 50 + c / 48 % 11 else if c / 6 % 4 = 2 then 6 + c / 48 % 44 else c % 6
theorem many_in (c : Int) : 0 ≤ many c ∧ many c ≤ 60 := by unfold many; split <;> first | omega | (split <;> omega)
def g_many : List D → R D
  | [.int c] => .ok (.int (many c))
  | _ => .bad
def wayTab : Nat → Nat
  | 9 => 3 | 10 => 6 | 11 => 7 | n => n
def wayOf (c below : Int) : Nat := if below = 0 then (c % 2).toNat else wayTab (c % 12).toNat
theorem wayTab_lt : ∀ n, n < 12 → wayTab n < 9 := by decide
theorem wayOf_lt (c below : Int) : wayOf c below < 9 := by
  unfold wayOf
  split
  · omega
  · exact wayTab_lt _ (by omega)
def numTab : Nat → Nat
  | 0 => 0 | 1 => 0 | 2 => 1 | 3 => 1 | 4 => 2 | 5 => 2 | 6 => 2 | _ => 3
def bigTab : Nat → Nat
  | 0 => 2 | n => n + 1
def srcN (c below : Int) : Nat := if numTab (wayOf c below) = 2 then bigTab (mixed c 9 9).toNat else numTab (wayOf c below)
def srcs0 (c below : Int) : List Int := (List.range (srcN c below)).map fun k => mixed (c / 12) (k : Nat) below
def srcs (c below : Int) : List Int := if 0 < srcN c below ∧ c / 12 % 2 = 1 then (srcs0 c below).set 0 (below - 1) else srcs0 c below
def gateBy (c below most : Int) : Gate := (kd (wayOf c below), srcs c below, 1 + mixed c 10 most)
theorem way_zero {c below : Int} (h : below = 0) : srcN c below = 0 := by
  unfold srcN wayOf
  rw [if_pos h]
  have : (c % 2).toNat = 0 ∨ (c % 2).toNat = 1 := by omega
  rcases this with e | e <;> rw [e] <;> rfl
theorem srcs_len (c below : Int) : (srcs c below).length = srcN c below := by
  unfold srcs srcs0
  split
  · rw [List.length_set, List.length_map, List.length_range]
  · rw [List.length_map, List.length_range]
theorem srcN_ar (c below : Int) : arOk (wayOf c below) (srcN c below) = true := by
  have h := wayOf_lt c below
  have m := mixed_in (c := c) (k := 9) (m := 9) (by decide)
  unfold srcN
  generalize wayOf c below = i at h ⊢
  obtain ⟨j, hj⟩ : ∃ j, j < 9 ∧ (mixed c 9 9).toNat = j := ⟨_, by omega, rfl⟩
  rw [hj.2]
  have : ∀ i, i < 9 → ∀ j, j < 9 → arOk i (if numTab i = 2 then bigTab j else numTab i) = true := by decide
  exact this i h j hj.1
theorem srcN_le (c below : Int) : srcN c below ≤ 9 := by
  have := (ar_eq (srcN_ar c below)).2
  have := hi_le (wayOf c below)
  omega
theorem srcs_in {c below : Int} (hb : 0 ≤ below) : ∀ s ∈ srcs c below, 0 ≤ s ∧ s < below := by
  rcases Int.lt_or_eq_of_le hb with h | h
  · have a : ∀ s ∈ srcs0 c below, 0 ≤ s ∧ s < below := fun s hs => by
      obtain ⟨k, _, rfl⟩ := List.mem_map.mp hs
      exact mixed_in h
    intro s hs
    unfold srcs at hs
    split at hs
    · rcases List.mem_or_eq_of_mem_set hs with q | q
      · exact a s q
      · omega
    · exact a s hs
  · intro s hs
    have l := srcs_len c below
    rw [way_zero h.symm] at l
    rw [List.length_eq_zero_iff.mp l] at hs
    cases hs
def g_gateby : List D → R D
  | [.int c, .int below, .int most] => R.when (decide (0 ≤ below ∧ 0 < most)) (.ok (gateD (gateBy c below most)))
  | _ => .bad
theorem gateby_ev {c below most : Int} (h : 0 ≤ below) (h2 : 0 < most) : g_gateby [.int c, .int below, .int most] = .ok (gateD (gateBy c below most)) := by
  show R.when (decide (0 ≤ below ∧ 0 < most)) (R.ok (gateD (gateBy c below most))) = _
  rw [decide_eq_true ⟨h, h2⟩]; rfl
def place (k n t : Int) : Int := ((if t % 2 = 1 then n - 1 - k else k) + t / 2) % n
theorem place_in {k n t : Int} (h : 0 < n) : 0 ≤ place k n t ∧ place k n t < n := ⟨Int.emod_nonneg _ (by omega), Int.emod_lt_of_pos _ h⟩
theorem place_inj {k j n t : Int} (hk : 0 ≤ k ∧ k < n) (hj : 0 ≤ j ∧ j < n) (e : place k n t = place j n t) : k = j := by
  unfold place at e
  split at e
  all_goals
    have d := Int.emod_emod_of_dvd
    have h1 := Int.emod_eq_emod_iff_emod_sub_eq_zero.mp e
    obtain ⟨q, hq⟩ := Int.dvd_of_emod_eq_zero h1
    rcases Int.lt_trichotomy q 0 with z | z | z
    · have : n * q ≤ n * (-1) := Int.mul_le_mul_of_nonneg_left (by omega) (by omega)
      omega
    · subst z
      omega
    · have : n * 1 ≤ n * q := Int.mul_le_mul_of_nonneg_left (by omega) (by omega)
      omega
def g_place : List D → R D
  | [.int k, .int n, .int t] => R.when (decide (0 < n)) (.ok (.int (place k n t)))
  | _ => .bad
end SL
namespace L2
open PySem PySem.Spec PyProof.Rows
/-! ## slices of lists, tuples and texts alike -/
def gSlA : D → Option Int → Option Int → R D := fun d l h => match d with
  | .list ds => .ok (.list (cutD ds l h))
  | .tuple ds => .ok (.tuple (cutD ds l h))
  | .str z => R.when (szOk z.length) (.ok (.str (cutS z l h)))
  | _ => .bad
def mSlA (m : DS → R D) (ml mh : DS → R (Option Int)) : DS → R D := fun δ => (m δ).bind fun d => match (ml δ).opt, (mh δ).opt with
  | some l, some h => gSlA d l h
  | _, _ => .bad
section
variable {X : Cx} {Y : Wy} {O : List Nat}
theorem de_sliceA {e : Expr} {lo hi : Option Expr} {m : DS → R D} {ml mh : DS → R (Option Int)} {p2 pos : Pos} (he : DE X Y e m) (hl : DO X Y lo ml) (hh : DO X Y hi mh) : DE X Y (.Subscript e (.Slice lo hi none p2) pos) (mSlA m ml mh) := by
  obtain ⟨t, p, q⟩ := he
  obtain ⟨tl, pl, ql⟩ := hl
  obtain ⟨th, ph, qh⟩ := hh
  refine ⟨_, pe_slice ((sl_tupA.or sl_str).or sl_list) p pl ph, fun σ δ H A c s Q w => q σ δ H A c s _ ?_⟩
  unfold mSlA at w
  cases e1 : m δ with
  | bad => rw [e1] at w; exact w
  | ex n => rw [e1] at w; exact w
  | ok d =>
    rw [e1] at w
    replace w : WpE X.K (Y.at σ) A H (match (ml δ).opt, (mh δ).opt with
      | some l, some h => gSlA d l h
      | _, _ => .bad) Q := w
    cases e2 : (ml δ).opt with
    | none => rw [e2] at w; exact w.elim
    | some l =>
      cases e3 : (mh δ).opt with
      | none => rw [e2, e3] at w; exact w.elim
      | some h =>
        rw [e2, e3] at w
        refine fun v H1 t1 r1 => do_use ql (c.mono t1) (s.mono t1) e2 fun H2 t2 => do_use qh ((c.mono t1).mono t2) ((s.mono t1).mono t2) e3 fun H3 t3 => ?_
        replace w : WpE X.K (Y.at σ) A H (gSlA d l h) Q := w
        have w3 := WpE.mono w ((t1.trans t2).trans t3)
        have c3 := ((c.mono t1).mono t2).mono t3
        cases d with
        | tuple ds =>
          obtain ⟨a, us, rfl, h1, h2⟩ := dp_tup (Dp.same (Same.mask (t2.trans t3)) r1)
          have key : DpAll X.K (mask A H3) (cutV us l h) (cutD ds l h) := by
            unfold cutV cutD
            rw [h2.len]
            exact (h2.drop _).take _
          have w4 : WpE X.K (Y.at σ) A H3 (.ok (.tuple (cutD ds l h))) Q := w3
          refine .inl (.inl ⟨a, us, rfl, sqT_same mask_le h1, ?_⟩)
          refine ⟨fun e => ?_, fun e => w4.newT c3 key⟩
          have e5 : cutD ds l h = ds := by
            unfold cutD
            rw [h2.len] at e
            rw [e.1, e.2, List.drop_zero, Nat.sub_zero, List.take_length]
          rw [e5] at w4
          exact w4.here (.tup h1 h2)
        | str z =>
          cases r1 with
          | str z =>
          obtain ⟨ez, w4⟩ := WpE.when (r := .ok (.str (cutS z l h))) w3
          exact .inl (.inr ⟨z, rfl, of_decide_eq_true ez, w4.here (.str _)⟩)
        | list ds =>
          obtain ⟨a, us, rfl, h1, h2⟩ := dp_list (Dp.same (Same.mask (t2.trans t3)) r1)
          have key : DpAll X.K (mask A H3) (cutV us l h) (cutD ds l h) := by
            unfold cutV cutD
            rw [h2.len]
            exact (h2.drop _).take _
          have w4 : WpE X.K (Y.at σ) A H3 (.ok (.list (cutD ds l h))) Q := w3
          exact .inr ⟨a, us, rfl, sqL_same mask_le h1, (WpE.of_l (r := .ok (cutD ds l h)) w4 c3).newly key⟩
        | _ => exact w.elim
end
section
variable {δ : DS} {m : DS → R D}
def slAK (l h : R (Option Int)) : D → R D := fun d => match l.opt, h.opt with
  | some l, some h => gSlA d l h
  | _, _ => .bad
def forK (st : D → DS → R DS) (n : DS → R Out) (δ : DS) : D → R Out := fun d => match seqD d with
  | some ds => loopM st n ds δ
  | none => .bad
theorem q_for {O : List Nat} {st : D → DS → R DS} {n : DS → R Out} : mFor O m st n δ = (m (hideD O δ)).run δ (forK st n δ) := (rfl)
theorem q_forK {st : D → DS → R DS} {n : DS → R Out} {ds : List D} : forK st n δ (.list ds) = loopM st n ds δ := (rfl)
theorem q_forT {st : D → DS → R DS} {n : DS → R Out} {ds : List D} : forK st n δ (.tuple ds) = loopM st n ds δ := (rfl)
theorem q_slA {ml mh : DS → R (Option Int)} : mSlA m ml mh δ = (m δ).bind (slAK (ml δ) (mh δ)) := (rfl)
theorem q_slAS {l h : Option Int} {z : Str} : slAK (.ok l) (.ok h) (.str z) = R.when (szOk z.length) (.ok (.str (cutS z l h))) := (rfl)
theorem q_slAL {l h : Option Int} {ds : List D} : slAK (.ok l) (.ok h) (.list ds) = .ok (.list (cutD ds l h)) := (rfl)
theorem q_slAT {l h : Option Int} {ds : List D} : slAK (.ok l) (.ok h) (.tuple ds) = .ok (.tuple (cutD ds l h)) := (rfl)
end
end L2
namespace SL
open PySem PySem.Spec PyProof.Rows L2
/-! loops with a fact -/
theorem loop_inv {st : D → DS → R DS} {n : DS → R Out} (I : Nat → DS → Prop) : ∀ (xs : List D) (k : Nat) (δ : DS), I k δ →
    (∀ i x δ, xs[i]? = some x → I (k + i) δ → ∃ δ1 δ2, st x δ = .ok δ1 ∧ n δ1 = .ok (.nx δ2) ∧ I (k + i + 1) δ2) → ∃ δ', loopM st n xs δ = .ok (.nx δ') ∧ I (k + xs.length) δ'
  | [], k, δ, h, _ => ⟨δ, loop_nil, h⟩
  | x :: xs, k, δ, h, s => by
    obtain ⟨δ1, δ2, h1, h2, h3⟩ := s 0 x δ rfl h
    obtain ⟨δ', e, h4⟩ := loop_inv I xs (k + 1) δ2 h3 fun i y δ hy hi => by
      have := s (i + 1) y δ hy (by rw [show k + (i + 1) = k + 1 + i by omega]; exact hi)
      rw [show k + (i + 1) + 1 = k + 1 + i + 1 by omega] at this
      exact this
    exact ⟨δ', by rw [loop_nx h1 h2, e], by rw [List.length_cons, show k + (xs.length + 1) = k + 1 + xs.length by omega]; exact h4⟩
theorem loop_rng {st : D → DS → R DS} {n : DS → R Out} (I : Nat → DS → Prop) {m : Nat} {δ : DS} (h : I 0 δ)
    (s : ∀ i δ, i < m → I i δ → ∃ δ1 δ2, st (.int (i : Nat)) δ = .ok δ1 ∧ n δ1 = .ok (.nx δ2) ∧ I (i + 1) δ2) : ∃ δ', loopM st n (rangeD m) δ = .ok (.nx δ') ∧ I m δ' := by
  obtain ⟨δ', e, h2⟩ := loop_inv I (rangeD m) 0 δ h fun i x δ hx hi => by
    unfold rangeD at hx
    rw [List.getElem?_map] at hx
    cases q : (List.range m)[i]? with
    | none => rw [q] at hx; cases hx
    | some j =>
      rw [q] at hx
      cases hx
      obtain ⟨hl, e⟩ := List.getElem?_eq_some_iff.mp q
      rw [List.length_range] at hl
      rw [List.getElem_range] at e
      subst e
      rw [Nat.zero_add] at hi ⊢
      exact s i δ hl hi
  refine ⟨δ', e, ?_⟩
  unfold rangeD at h2
  rw [List.length_map, List.length_range, Nat.zero_add] at h2
  exact h2
theorem imms_ints (xs : List Int) : imms (intsOf xs) = true := by
  unfold intsOf
  induction xs with
  | nil => rfl
  | cons x xs ih => rw [List.map_cons, imms, ih]; rfl
theorem imm_gate (g : Gate) : imm (gateD g) = true := by
  unfold gateD
  simp only [imm, imms, imms_ints, Bool.and_true, Bool.true_and]
theorem gates_len (gs : List Gate) : (gatesD gs).length = gs.length := List.length_map _
theorem gates_app (gs : List Gate) (g : Gate) : gatesD gs ++ [gateD g] = gatesD (gs ++ [g]) := by
  unfold gatesD; rw [List.map_append]; rfl
/-! the gates of a script -/
def headN (far : Int) : Nat := (60 + far / 8 % 131).toNat
def headG (far mn most : Int) (k : Nat) : Gate := if far % 8 = 4 ∨ mn + k = 0 then gateBy (far / 8 + 5 * k) (mn + k) most else ("not", [mn + k - 1], 1)
def addCells (mn most : Int) : List Int → List Gate → List Gate
  | [], gs => gs
  | c :: cs, gs => addCells mn most cs (gs ++ [gateBy c (mn + gs.length) most])
def headL (far mn most : Int) (n : Nat) : List Gate := (List.range n).map (headG far mn most)
theorem headL_succ (far mn most : Int) (n : Nat) : headL far mn most (n + 1) = headL far mn most n ++ [headG far mn most n] := by
  unfold headL; rw [List.range_succ, List.map_append]; rfl
theorem headL_len (far mn most : Int) (n : Nat) : (headL far mn most n).length = n := by unfold headL; rw [List.length_map, List.length_range]
def gatesBy (ns : List Int) (mn most : Int) : List Gate :=
  if cell ns 1 % 8 = 1 ∨ cell ns 1 % 8 = 4 then addCells mn most ((ns.drop 3).take 10) (headL (cell ns 1) mn most (headN (cell ns 1)))
  else addCells mn most ((ns.drop 3).take 200) []
theorem addCells_len (mn most : Int) : ∀ (cs : List Int) (gs : List Gate), (addCells mn most cs gs).length = gs.length + cs.length
  | [], gs => rfl
  | c :: cs, gs => by rw [addCells, addCells_len mn most cs, List.length_append, List.length_cons, List.length_cons, List.length_nil]; omega
theorem addCells_app (mn most : Int) (c : Int) : ∀ (cs : List Int) (gs : List Gate), addCells mn most (cs ++ [c]) gs = addCells mn most cs gs ++ [gateBy c (mn + (addCells mn most cs gs).length) most]
  | [], gs => rfl
  | d :: cs, gs => by rw [List.cons_append, addCells, addCells_app mn most c cs, addCells]
theorem headN_le (far : Int) : headN far ≤ 190 := by unfold headN; omega
theorem gatesBy_len (ns : List Int) (mn most : Int) : (gatesBy ns mn most).length ≤ 200 := by
  unfold gatesBy
  split
  · rw [addCells_len, headL_len]
    have := headN_le (cell ns 1)
    have : ((ns.drop 3).take 10).length ≤ 10 := List.length_take_le _ _
    omega
  · rw [addCells_len]
    have : ((ns.drop 3).take 200).length ≤ 200 := List.length_take_le _ _
    show 0 + _ ≤ 200
    omega
/-- a gate whose kind, sources (all below b) and delay are right -/
structure GateOk (b most : Int) (g : Gate) : Prop where
  kind : ∃ i, i < 9 ∧ g.1 = kd i ∧ arOk i g.2.1.length = true
  src : ∀ s ∈ g.2.1, 0 ≤ s ∧ s < b
  delay : 1 ≤ g.2.2 ∧ g.2.2 ≤ most
theorem gateBy_ok (c : Int) {b most : Int} (hb : 0 ≤ b) (hm : 0 < most) : GateOk b most (gateBy c b most) := by
  refine ⟨⟨wayOf c b, wayOf_lt c b, rfl, ?_⟩, srcs_in hb, ?_⟩
  · show arOk _ (srcs c b).length = true
    rw [srcs_len]; exact srcN_ar c b
  · have := mixed_in (c := c) (k := 10) (m := most) hm
    show 1 ≤ 1 + mixed c 10 most ∧ 1 + mixed c 10 most ≤ most
    omega
theorem headG_ok (far : Int) {mn most : Int} (k : Nat) (hb : 0 ≤ mn) (hm : 0 < most) : GateOk (mn + k) most (headG far mn most k) := by
  unfold headG
  split
  · exact gateBy_ok _ (by omega) hm
  · rename_i h
    refine ⟨⟨3, by decide, rfl, (by decide : arOk 3 1 = true)⟩, fun s hs => ?_, ⟨Int.le_refl _, show (1 : Int) ≤ most by omega⟩⟩
    have : s = mn + k - 1 := List.mem_singleton.mp hs
    omega
/-- each gate rests on what stands ahead of it -/
def Ahead (mn most : Int) (gs : List Gate) : Prop := ∀ (k : Nat) (g : Gate), gs[k]? = some g → GateOk (mn + k) most g
theorem Ahead.app {mn most : Int} {gs : List Gate} {g : Gate} (h : Ahead mn most gs) (hg : GateOk (mn + gs.length) most g) : Ahead mn most (gs ++ [g]) := fun k x e => by
  rcases Nat.lt_or_ge k gs.length with q | q
  · rw [List.getElem?_append_left q] at e; exact h k x e
  · rw [List.getElem?_append_right q] at e
    have : k - gs.length = 0 := by
      rcases Nat.eq_zero_or_pos (k - gs.length) with z | z
      · exact z
      · rw [List.getElem?_eq_none (by rw [List.length_cons, List.length_nil]; omega)] at e; cases e
    rw [this] at e
    cases e
    rw [show k = gs.length by omega]; exact hg
theorem addCells_ok {mn most : Int} (hb : 0 ≤ mn) (hm : 0 < most) : ∀ (cs : List Int) {gs : List Gate}, Ahead mn most gs → Ahead mn most (addCells mn most cs gs)
  | [], _, h => h
  | c :: cs, gs, h => addCells_ok hb hm cs (h.app (gateBy_ok c (by omega) hm))
theorem headL_ok (far : Int) {mn most : Int} (hb : 0 ≤ mn) (hm : 0 < most) (n : Nat) : Ahead mn most (headL far mn most n) := by
  induction n with
  | zero => intro k g e; cases e
  | succ n ih =>
    rw [headL_succ]
    refine ih.app ?_
    rw [headL_len]; exact headG_ok far n hb hm
theorem gatesBy_ok (ns : List Int) {mn most : Int} (hb : 0 ≤ mn) (hm : 0 < most) : Ahead mn most (gatesBy ns mn most) := by
  unfold gatesBy
  split
  · exact addCells_ok hb hm _ (headL_ok _ hb hm _)
  · exact addCells_ok hb hm _ fun k g e => by cases e
theorem cut_at (ns : List Int) (a b : Nat) (h : a ≤ b) : L2.cutD (ns.map PyData.int) (some (a : Int)) (some (b : Int)) = ((ns.drop a).take (b - a)).map PyData.int := by
  unfold L2.cutD
  rw [HT.sIx_nat, HT.sIx_nat, List.length_map, List.map_take, List.map_drop]
  rcases Nat.le_total a ns.length with h1 | h1
  · rw [Nat.min_eq_left h1]
    rcases Nat.le_total b ns.length with h2 | h2
    · rw [Nat.min_eq_left h2]
    · rw [Nat.min_eq_right h2]
      rw [List.take_of_length_le (by rw [List.length_drop, List.length_map]; omega), List.take_of_length_le (by rw [List.length_drop, List.length_map]; omega)]
  · rw [Nat.min_eq_right h1, List.drop_eq_nil_of_le (by rw [List.length_map]; omega), List.drop_eq_nil_of_le (by rw [List.length_map]; omega)]
    rw [List.take_nil, List.take_nil]
def g_gatesby : List D → R D
  | [.list xs, .int mn, .int most] => match intsD xs with
    | some ns => R.when (decide (0 ≤ mn ∧ 0 < most)) (.ok (.list (gatesD (gatesBy ns mn most))))
    | none => .bad
  | _ => .bad
end SL
namespace SL
open PySem PySem.Spec PyProof.Rows L2
theorem turn_ex {st : D → DS → R DS} {n : DS → R Out} {x : D} {δ δ1 : DS} {J : DS → Prop} (h : st x δ = .ok δ1) (k : ∃ δ2, n δ1 = .ok (.nx δ2) ∧ J δ2) : ∃ δ1 δ2, st x δ = .ok δ1 ∧ n δ1 = .ok (.nx δ2) ∧ J δ2 := by
  obtain ⟨δ2, h1, h2⟩ := k
  exact ⟨δ1, δ2, h, h1, h2⟩
theorem cutX {m n : DS → R Out} {δ : DS} {J : DS → Prop} (I : DS → Prop) (h : ∃ δ', m δ = .ok (.nx δ') ∧ I δ') (k : ∀ δ', I δ' → ∃ δ2, n δ' = .ok (.nx δ2) ∧ J δ2) : ∃ δ2, mSeq m n δ = .ok (.nx δ2) ∧ J δ2 := by
  obtain ⟨δ', h1, h2⟩ := h
  obtain ⟨δ2, h3, h4⟩ := k δ' h2
  exact ⟨δ2, cutR δ' h1 h3, h4⟩
/-! plans turned about -/
def unplace (p n t : Int) : Int := if t % 2 = 1 then n - 1 - (p - t / 2) % n else (p - t / 2) % n
theorem unplace_in {p n t : Int} (h : 0 < n) : 0 ≤ unplace p n t ∧ unplace p n t < n := by
  have h1 := Int.emod_nonneg (p - t / 2) (show n ≠ 0 by omega)
  have h2 := Int.emod_lt_of_pos (p - t / 2) h
  unfold unplace
  split <;> omega
theorem place_unplace {p n t : Int} (hp : 0 ≤ p ∧ p < n) : place (unplace p n t) n t = p := by
  unfold place unplace
  split
  · rw [show n - 1 - (n - 1 - (p - t / 2) % n) = (p - t / 2) % n by omega, Int.emod_add_emod, Int.sub_add_cancel, Int.emod_eq_of_lt hp.1 hp.2]
  · rw [Int.emod_add_emod, Int.sub_add_cancel, Int.emod_eq_of_lt hp.1 hp.2]
theorem unplace_place {k n t : Int} (hk : 0 ≤ k ∧ k < n) : unplace (place k n t) n t = k := by
  have hn : 0 < n := by omega
  exact place_inj (unplace_in hn) hk (place_unplace (place_in hn))
def mapS (mn n t s : Int) : Int := if mn ≤ s then mn + place (s - mn) n t else s
def mapG (mn n t : Int) (g : Gate) : Gate := (g.1, g.2.1.map (mapS mn n t), g.2.2)
def gate0 : Gate := ("", [], 0)
def turned (mn : Int) (gs : List Gate) (t : Int) : List Gate := (List.range gs.length).map fun (p : Nat) => mapG mn gs.length t (gs.getD (unplace p gs.length t).toNat gate0)
theorem turned_len (mn : Int) (gs : List Gate) (t : Int) : (turned mn gs t).length = gs.length := by unfold turned; rw [List.length_map, List.length_range]
def toGate : D → Option Gate
  | .tuple [.str z, .tuple xs, .int d] => (intsD xs).map fun ss => (z, ss, d)
  | _ => none
theorem toGate_inv {d : D} {g : Gate} (h : toGate d = some g) : d = gateD g := by
  unfold toGate at h
  split at h
  · rename_i z xs d
    cases q : intsD xs with
    | none => rw [q] at h; cases h
    | some ss =>
      rw [q] at h
      cases h
      rw [ints_inv q]; rfl
  · cases h
theorem toGate_of (g : Gate) : toGate (gateD g) = some g := by
  show (intsD (g.2.1.map PyData.int)).map _ = _
  rw [ints_of]; rfl
def gatesOf : List D → Option (List Gate)
  | [] => some []
  | d :: ds => match toGate d, gatesOf ds with
    | some g, some gs => some (g :: gs)
    | _, _ => none
theorem gatesOf_inv : ∀ {ds : List D} {gs : List Gate}, gatesOf ds = some gs → ds = gatesD gs
  | [], gs, h => by cases h; rfl
  | d :: ds, gs, h => by
    unfold gatesOf at h
    split at h
    · rename_i g gs' h1 h2
      cases h
      rw [toGate_inv h1, gatesOf_inv h2]; rfl
    · cases h
theorem gatesOf_of : ∀ gs : List Gate, gatesOf (gatesD gs) = some gs
  | [] => rfl
  | g :: gs => by
    show gatesOf (gateD g :: gatesD gs) = _
    unfold gatesOf
    rw [toGate_of, gatesOf_of gs]
def g_turned : List D → R D
  | [.int mn, .list xs, .int t] => match gatesOf xs with
    | some gs => R.when (decide (gs.length ≤ 1000) && gs.all fun g => decide (g.2.1.length ≤ 1000)) (.ok (planD mn (turned mn gs t)))
    | none => .bad
  | _ => .bad
/-- the list that is being made, k of the gates in it -/
def madeD (mn : Int) (gs : List Gate) (t : Int) (k : Nat) : List D := (List.range gs.length).map fun (p : Nat) => if unplace p gs.length t < k then gateD (mapG mn gs.length t (gs.getD (unplace p gs.length t).toNat gate0)) else .none
theorem made_len (mn : Int) (gs : List Gate) (t : Int) (k : Nat) : (madeD mn gs t k).length = gs.length := by unfold madeD; rw [List.length_map, List.length_range]
theorem made_zero (mn : Int) (gs : List Gate) (t : Int) : madeD mn gs t 0 = List.replicate gs.length .none := by
  unfold madeD
  refine List.ext_getElem (by rw [List.length_map, List.length_range, List.length_replicate]) fun i h1 h2 => ?_
  rw [List.getElem_map, List.getElem_range, List.getElem_replicate, if_neg]
  rw [List.length_map, List.length_range] at h1
  have := (unplace_in (p := i) (t := t) (show (0 : Int) < gs.length by omega)).1
  omega
theorem made_all (mn : Int) (gs : List Gate) (t : Int) : madeD mn gs t gs.length = gatesD (turned mn gs t) := by
  unfold madeD gatesD turned
  rw [List.map_map]
  refine List.map_congr_left fun p hp => ?_
  rw [List.mem_range] at hp
  exact if_pos (unplace_in (p := p) (t := t) (show (0 : Int) < gs.length by omega)).2
theorem made_get (mn : Int) (gs : List Gate) (t : Int) (k p : Nat) (h : p < (madeD mn gs t k).length) : (madeD mn gs t k)[p] = if unplace p gs.length t < k then gateD (mapG mn gs.length t (gs.getD (unplace p gs.length t).toNat gate0)) else .none := by
  simp only [madeD, List.getElem_map, List.getElem_range]
theorem made_set (mn : Int) (gs : List Gate) (t : Int) {k : Nat} (hk : k < gs.length) {g : Gate} (hg : gs[k]? = some g) :
    (madeD mn gs t k).set (place k gs.length t).toNat (gateD (mapG mn gs.length t g)) = madeD mn gs t (k + 1) := by
  have hn : (0 : Int) < gs.length := by omega
  have pin := place_in (k := k) (t := t) hn
  refine List.ext_getElem (by rw [List.length_set, made_len, made_len]) fun p h1 h2 => ?_
  rw [made_len] at h2
  rw [List.getElem_set]
  rw [made_get, made_get]
  have uin := unplace_in (p := p) (t := t) hn
  by_cases e : (place k gs.length t).toNat = p
  · rw [if_pos e]
    have e2 : (p : Int) = place k gs.length t := by omega
    rw [e2, unplace_place ⟨by omega, by omega⟩, if_pos (by omega), Int.toNat_natCast, List.getD_eq_getElem?_getD, hg]; rfl
  · rw [if_neg e]
    have ne : unplace p gs.length t ≠ k := fun q => e (by
      have := place_unplace (p := p) (n := gs.length) (t := t) ⟨by omega, by omega⟩
      rw [q] at this
      omega)
    by_cases c : unplace p gs.length t < k
    · rw [if_pos c, if_pos (by omega)]
    · rw [if_neg c, if_neg (by omega)]
end SL
namespace SL
open PySem PySem.Spec PyProof.Rows L2
/-! plans: what holds of them -/
/-- all gates of the plan are right -/
def PlanOk (mn most : Int) (gs : List Gate) : Prop := ∀ (p : Nat) (g : Gate), gs[p]? = some g → GateOk (mn + gs.length) most g
/-- no ring: a rank that grows from source to gate -/
def Free (mn : Int) (gs : List Gate) : Prop := ∃ rk : Int → Int, (∀ p : Int, 0 ≤ p → p < gs.length → 0 ≤ rk p ∧ rk p < gs.length) ∧ ∀ (p : Nat) (g : Gate), gs[p]? = some g → ∀ s ∈ g.2.1, mn ≤ s → rk (s - mn) < rk p
theorem turned_get {mn t : Int} {gs : List Gate} {p : Nat} {g' : Gate} (h : (turned mn gs t)[p]? = some g') : p < gs.length ∧ ∃ g, gs[(unplace p gs.length t).toNat]? = some g ∧ g' = mapG mn gs.length t g := by
  unfold turned at h
  rw [List.getElem?_map] at h
  cases q : (List.range gs.length)[p]? with
  | none => rw [q] at h; cases h
  | some j =>
    rw [q] at h
    obtain ⟨hl, e⟩ := List.getElem?_eq_some_iff.mp q
    rw [List.length_range] at hl
    rw [List.getElem_range] at e
    subst e
    have e2 := Option.some.inj h
    have uin := unplace_in (p := (p : Int)) (t := t) (show (0 : Int) < gs.length by omega)
    have hu : (unplace p gs.length t).toNat < gs.length := by omega
    refine ⟨hl, gs[(unplace p gs.length t).toNat], List.getElem?_eq_getElem hu, ?_⟩
    rw [← e2]
    dsimp only
    rw [List.getD_eq_getElem?_getD, List.getElem?_eq_getElem hu]; rfl
theorem turned_ok {mn most t : Int} {gs : List Gate} (hb : 0 ≤ mn) (h : Ahead mn most gs) : PlanOk mn most (turned mn gs t) := fun p g' e => by
  obtain ⟨hp, g, hg, rfl⟩ := turned_get e
  have uin := unplace_in (p := (p : Int)) (t := t) (show (0 : Int) < gs.length by omega)
  have o := h _ _ hg
  rw [turned_len]
  obtain ⟨i, hi, hk, ha⟩ := o.kind
  refine ⟨⟨i, hi, hk, ?_⟩, fun s hs => ?_, o.delay⟩
  · show arOk i (List.map _ _).length = true
    rw [List.length_map]; exact ha
  · obtain ⟨s0, h0, rfl⟩ := List.mem_map.mp hs
    have r := o.src s0 h0
    unfold mapS
    split
    · have pin := place_in (k := s0 - mn) (t := t) (show (0 : Int) < gs.length by omega)
      omega
    · omega
theorem turned_free {mn most t : Int} {gs : List Gate} (hb : 0 ≤ mn) (h : Ahead mn most gs) : Free mn (turned mn gs t) := by
  refine ⟨fun p => unplace p gs.length t, fun p h1 h2 => ?_, fun p g' e s hs hm => ?_⟩
  · rw [turned_len] at h2 ⊢
    exact unplace_in (by omega)
  · obtain ⟨hp, g, hg, rfl⟩ := turned_get e
    have uin := unplace_in (p := (p : Int)) (t := t) (show (0 : Int) < gs.length by omega)
    have o := h _ _ hg
    obtain ⟨s0, h0, rfl⟩ := List.mem_map.mp hs
    have r := o.src s0 h0
    rw [Int.toNat_of_nonneg uin.1] at r
    show unplace (mapS mn gs.length t s0 - mn) gs.length t < unplace p gs.length t
    unfold mapS at hm ⊢
    split
    · rw [show mn + place (s0 - mn) gs.length t - mn = place (s0 - mn) gs.length t by omega, unplace_place ⟨by omega, by omega⟩]
      omega
    · rename_i q
      rw [if_neg q] at hm
      omega
theorem gate_small {b most : Int} {g : Gate} (h : GateOk b most g) : g.2.1.length ≤ 9 := by
  obtain ⟨i, hi, _, ha⟩ := h.kind
  have := (ar_eq ha).2
  have := hi_le i
  omega
theorem turned_ev {mn most t : Int} {gs : List Gate} (hl : gs.length ≤ 1000) (h : Ahead mn most gs) : g_turned [.int mn, .list (gatesD gs), .int t] = .ok (planD mn (turned mn gs t)) := by
  unfold g_turned
  dsimp only
  rw [gatesOf_of]
  dsimp only
  rw [decide_eq_true hl, show (gs.all fun g => decide (g.2.1.length ≤ 1000)) = true from List.all_eq_true.mpr fun g hg => by
    obtain ⟨k, hk, e⟩ := List.mem_iff_getElem.mp hg
    have := gate_small (h k g (by rw [← e]; exact List.getElem?_eq_getElem hk))
    exact decide_eq_true (by omega)]
  rfl
theorem gatesby_ev {mn most : Int} {ns : List Int} (hb : 0 ≤ mn) (hm : 0 < most) : g_gatesby [.list (ns.map PyData.int), .int mn, .int most] = .ok (.list (gatesD (gatesBy ns mn most))) := by
  unfold g_gatesby
  dsimp only
  rw [ints_of]
  dsimp only
  rw [decide_eq_true ⟨hb, hm⟩]; rfl
/-! a plan without a ring, of a script -/
def freeMn (ns : List Int) : Int := many (cell ns 0)
def freeGs (ns : List Int) (most : Int) : List Gate := turned (freeMn ns) (gatesBy ns (freeMn ns) most) (cell ns 2)
theorem freeGs_len (ns : List Int) (most : Int) : (freeGs ns most).length ≤ 200 := by
  unfold freeGs; rw [turned_len]; exact gatesBy_len _ _ _
theorem free_ok (ns : List Int) {most : Int} (hm : 0 < most) : PlanOk (freeMn ns) most (freeGs ns most) := turned_ok (many_in _).1 (gatesBy_ok ns (many_in _).1 hm)
theorem free_free (ns : List Int) {most : Int} (hm : 0 < most) : Free (freeMn ns) (freeGs ns most) := turned_free (many_in _).1 (gatesBy_ok ns (many_in _).1 hm)
def g_freeplan : List D → R D
  | [.list xs, .int most] => match intsD xs with
    | some ns => R.when (decide (0 < most)) (.ok (planD (freeMn ns) (freeGs ns most)))
    | none => .bad
  | _ => .bad
/-! plans with rings or without -/
def ringG (mn : Int) (n : Int) (k : Nat) : Gate := ("not", [mn + ((k : Int) + 1) % n], 1)
def farN (far : Int) : Nat := (60 + far / 8 % 131).toNat
def looseCells (ns : List Int) : List Int := if cell ns 1 % 8 = 5 then (List.range (farN (cell ns 1))).map (fun (k : Nat) => cell ns 1 / 8 + 5 * (k : Int)) ++ (ns.drop 3).take 10 else (ns.drop 3).take 200
def looseGs (ns : List Int) (mn most : Int) : List Gate :=
  if cell ns 1 % 8 = 2 then (List.range (farN (cell ns 1))).map (ringG mn (60 + cell ns 1 / 8 % 131)) ++ ((ns.drop 3).take 10).map fun c => gateBy c (mn + (60 + cell ns 1 / 8 % 131)) most
  else (looseCells ns).map fun c => gateBy c (mn + (looseCells ns).length) most
theorem farN_le (far : Int) : farN far ≤ 190 := by unfold farN; omega
theorem looseCells_len (ns : List Int) : (looseCells ns).length ≤ 200 := by
  unfold looseCells
  split
  · rw [List.length_append, List.length_map, List.length_range]
    have := farN_le (cell ns 1)
    have : ((ns.drop 3).take 10).length ≤ 10 := List.length_take_le _ _
    omega
  · exact List.length_take_le _ _
theorem looseGs_len (ns : List Int) (mn most : Int) : (looseGs ns mn most).length ≤ 200 := by
  unfold looseGs
  split
  · rw [List.length_append, List.length_map, List.length_range, List.length_map]
    have := farN_le (cell ns 1)
    have : ((ns.drop 3).take 10).length ≤ 10 := List.length_take_le _ _
    omega
  · rw [List.length_map]; exact looseCells_len ns
theorem GateOk.mono {a b most : Int} {g : Gate} (h : GateOk a most g) (q : a ≤ b) : GateOk b most g := ⟨h.kind, fun s hs => by have := h.src s hs; omega, h.delay⟩
theorem loose_ok (ns : List Int) {mn most : Int} (hb : 0 ≤ mn) (hm : 0 < most) : PlanOk mn most (looseGs ns mn most) := fun p g e => by
  have hg := List.mem_of_getElem? e
  revert hg
  generalize hL : (looseGs ns mn most).length = L
  unfold looseGs at hL ⊢
  by_cases h : cell ns 1 % 8 = 2
  · rw [if_pos h] at hL ⊢
    rw [List.length_append, List.length_map, List.length_range, List.length_map] at hL
    have hf : ((farN (cell ns 1) : Nat) : Int) = 60 + cell ns 1 / 8 % 131 := by unfold farN; omega
    intro hg
    rcases List.mem_append.mp hg with q | q
    · obtain ⟨k, hk, rfl⟩ := List.mem_map.mp q
      refine ⟨⟨3, by decide, rfl, (by decide : arOk 3 1 = true)⟩, fun s hs => ?_, ⟨Int.le_refl _, show (1 : Int) ≤ most by omega⟩⟩
      have e : s = mn + ((k : Int) + 1) % (60 + cell ns 1 / 8 % 131) := List.mem_singleton.mp hs
      have h1 := Int.emod_nonneg ((k : Int) + 1) (show 60 + cell ns 1 / 8 % 131 ≠ 0 by omega)
      have h2 := Int.emod_lt_of_pos ((k : Int) + 1) (show 0 < 60 + cell ns 1 / 8 % 131 by omega)
      omega
    · obtain ⟨c, hc, rfl⟩ := List.mem_map.mp q
      exact (gateBy_ok c (b := mn + (60 + cell ns 1 / 8 % 131)) (by omega) hm).mono (by omega)
  · rw [if_neg h] at hL ⊢
    rw [List.length_map] at hL
    intro hg
    obtain ⟨c, hc, rfl⟩ := List.mem_map.mp hg
    rw [← hL]
    exact gateBy_ok c (by omega) hm
def planGs (ns : List Int) (most : Int) : List Gate := if 0 < cell ns 1 % 3 then looseGs ns (freeMn ns) most else freeGs ns most
theorem planGs_len (ns : List Int) (most : Int) : (planGs ns most).length ≤ 200 := by
  unfold planGs; split
  · exact looseGs_len _ _ _
  · exact freeGs_len _ _
theorem planGs_ok (ns : List Int) {most : Int} (hm : 0 < most) : PlanOk (freeMn ns) most (planGs ns most) := by
  unfold planGs; split
  · exact loose_ok ns (many_in _).1 hm
  · exact free_ok ns hm
def g_loose : List D → R D
  | [.list xs, .int mn, .int most] => match intsD xs with
    | some ns => R.when (decide (0 ≤ mn ∧ 0 < most)) (.ok (planD mn (looseGs ns mn most)))
    | none => .bad
  | _ => .bad
def g_planby : List D → R D
  | [.list xs, .int most] => match intsD xs with
    | some ns => R.when (decide (0 < most)) (.ok (planD (freeMn ns) (planGs ns most)))
    | none => .bad
  | _ => .bad
theorem loose_ev {mn most : Int} {ns : List Int} (hb : 0 ≤ mn) (hm : 0 < most) : g_loose [.list (ns.map PyData.int), .int mn, .int most] = .ok (planD mn (looseGs ns mn most)) := by
  unfold g_loose
  dsimp only
  rw [ints_of]
  dsimp only
  rw [decide_eq_true ⟨hb, hm⟩]; rfl
end SL
namespace L2
open PySem PySem.Spec PyProof.Rows
/-! ## a def that is handed the error that is handled -/
abbrev ErrW := Addr × Obj → Hp → VK → Prop
/-- what such a def keeps: its one argument is the error p, which stands in the state while it runs -/
structure FnP (P : Program) (w : World) (K : PySem.W.Frag) (mg : Str → Option Value) (base : Heap) (k : Nat) (f : Addr) (fd : FuncData) (x : Str) (sp : ErrW) : Prop where
  run : ∀ (A : Around) (outer : List Env) (s : Shared) (H : Hp) (Q : VK) (E : XK) (p : Addr × Obj), L2H.RoomH k A → L2H.PinOk outer H s p → Env0 P w K mg base A outer s H → BindsTo s fd ⟨[.ref p.1], []⟩ [(x, .ref p.1)] → sp p H Q →
    codeAny (model P w) A (.call (.ref f) ⟨[.ref p.1], []⟩) (CR (L2.CX P w) outer P w H s Q E) s
section
variable {P : Program} {w : World} {K : PySem.W.Frag} {mg : Str → Option Value} {base : Heap} {x name qual : Str} {st : Stmt} {f : Addr} {fd : FuncData} {N : List Str} {k : Nat} {sp : ErrW}
theorem fnP_of (F : Fun K name qual st f fd) (S : FnScope N [x] (defScope st))
    (hb : ∀ (cdv : Value) (A : Around) (outer : List Env) (s : Shared) (H : Hp) (Q : VK) (E : XK) (p : Addr × Obj), L2H.RoomH k (A.deeper (envOfC qual (defScope st) s.heap.objs.size f cdv)) → sp p H Q →
      ∃ t, PSs (L2H.cxH (L2.CX P w) P w K mg base N qual (defScope st) f cdv A outer s H E p) (defBody st) t ∧ t { nx := fun _ H' => Q .non H', rt := Q } (start N [.ref p.1]) H) : FnP P w K mg base (k + 1) f fd x sp := by
  obtain ⟨oc, od, kV, doc, pm, an, cdv, ct, osl, hfd, lk, hcd⟩ := F.ex
  subst hfd
  refine ⟨fun A outer s H Q E p room pin env0 bnd wish => ?_⟩
  have inK : K.In s.heap := env0.mod.kin.keeps fun b o hbo => (env0.bs b o hbo).1
  have noLim : s.heap.NoLimit := env0.mod.nolimit.keeps fun b o hbo => (env0.bs b o hbo).1
  have kinds : ∀ y ∈ [(x, Value.ref p.1)], (defScope st).names.lookup y.1 = some .local ∨ ((defScope st).names.lookup y.1 = some .cell ∧ ((cellsFrom (s.heap.objs.size + 1) (defScope st).names []).lookup y.1).isSome = true) := fun y hy => by
    rw [List.mem_singleton.mp hy]
    refine (S.par x List.mem_cons_self).imp id fun c => ⟨c, PySem.W.cellsFrom_some _ _ _ (.inl c)⟩
  refine codeAny_call_function room.depth (inK _ _ lk) rfl S.co S.gen rfl (PySem.W.codeRec_of inK hcd) (bnd _ _ _ _ ?_)
  refine wpAny_newFunctionEnv_cells S.kind kinds fun env hv s1 made => ?_
  subst hv
  refine ⟨noLim.keeps made.toInCall.keep, codeAny_func ?_⟩
  obtain ⟨t, reads, holds⟩ := hb cdv A outer s H Q E p (room.deeper _) wish
  have J0 : Inv (L2H.cxH (L2.CX P w) P w K mg base N qual (defScope st) f cdv A outer s H E p) [] (start N [.ref p.1]) H s1 := L2H.inv_startH (vs := [.ref p.1]) S pin env0 rfl (.cons rfl .nil) made
  refine wpAny_mono (reads.run [] s1 (start N [.ref p.1]) H _ J0 holds) (fun fl s2 hs => ?_) fun e s2 hs => hs
  cases fl with
  | next =>
    obtain ⟨σ2, H2, J, q⟩ := hs
    exact ⟨.non, H2, J.os, J.bare, J.base, J.hok, rfl, q⟩
  | ret u =>
    obtain ⟨v, σ2, H2, J, r, q⟩ := hs
    exact ⟨v, H2, J.os, J.bare, J.base, J.hok, r, q⟩
  | brk =>
    obtain ⟨_, _, _, q⟩ := hs
    exact q.elim
  | cont =>
    obtain ⟨_, _, _, q⟩ := hs
    exact q.elim
end
section
variable {X : Cx} {k i : Nat} {f a : Addr} {fd : FuncData} {sp : ErrW} {x y n : Str} {oe : Obj} {pn : List (Addr × Obj)} {p1 p2 pos : Pos}
/-- F(e) in the suite that handles e -/
theorem pe_callP (F : FnP X.prog X.w X.K X.mg X.base k f fd x sp) (hr : L2H.RoomH k (X.A.mark (some (.ref a)))) (hg : Gl X y) (hm : X.mg y = some (.ref f)) (hk : PySem.W.keepIn X.K (.ref f) = true) (hb : Binds X.K fd [x] []) (hN : X.N[i]? = some n) (hv : Vis X.env.scope n)
    (hd : (n == ("__debug__" : Str)) = false := by decide) (hcd : (n == ("__classdict__" : Str)) = false := by decide) (hdb : (y == ("__debug__" : Str)) = false := by decide)
    (he : starEach [.Name n p2] X.env = (false, eval (.Name n p2) X.env) :: starEach [] X.env := by rfl) (hpl : (backTo pos (starEach [] X.env)).any (·.1) = false := by rfl) :
    PE (X.suite a ((a, oe) :: pn)) (.Call (.Name y p1) [.Name n p2] [] pos) (fun σ H Q => σ[i]? = some (some (.ref a)) ∧ sp (a, oe) H Q) := by
  refine ⟨fun pins s σ H Q I h => ?_⟩
  obtain ⟨hs, h⟩ := h
  refine wpAny_Call_Name_kw (ld_glob I hg hm ?_ hdb)
  have one := pa_cons (X := X.suite a ((a, oe) :: pn)) (pe_var (X := X.suite a ((a, oe) :: pn)) (pos := p2) hN hv hd hcd) pa_nil he
  refine PySem.W.callWith_K (h₀ := X.base) I.ok.mod.kin hk (thn (one.run pos pins s σ H (fun vs H' => vs = [.ref a] ∧ H' = H) I ⟨_, hs, rfl, rfl⟩) fun us s1 ⟨vs, H1, I1, r, q⟩ => ⟨I1.kIn, ?_⟩) he hpl
  obtain ⟨rfl, rfl⟩ := q
  cases r with
  | cons r1 rr =>
    cases rr
    cases r1
    have pinned := I1.pin (a, oe) (List.mem_append_left _ List.mem_cons_self)
    have bnd := hb s1 [.ref a] I1.kIn rfl
    have pin : L2H.PinOk X.stack H1 s1 (a, oe) := ⟨pinned.1, pinned.2.1, fun hm => (List.mem_cons.mp (I1.stkSub a hm)).elim pinned.2.2.1 pinned.2.2.2.1, pinned.2.2.2.2⟩
    refine wpAny_call (codeAny_mono (F.run (X.suite a ((a, oe) :: pn)).A X.stack s1 H1 Q E0 (a, oe) hr pin I1.env0 bnd h) fun res s2 hq => ?_)
    cases res with
    | error e =>
      obtain ⟨_, _, _, _, _, _, _, _, _, _, _, _, z⟩ := hq
      exact z.elim
    | ok fl =>
      cases fl with
      | ret u => exact I1.after hq
      | next => exact hq.elim
      | brk => exact hq.elim
      | cont => exact hq.elim
end
section
variable {X : Cx} {Y : Wy} {O : List Nat}
/-- isinstance of the error that stands in the state -/
theorem call_isP {p : Addr × Obj} {D : Addr} (hp : p ∈ X.pn) (C : ExcC X.K D) (cls : Zc (.ref D) none p.2) (flds : ∃ vs, p.2.data = .fields vs) : CallR X (.builtin "isinstance") (rIsE X.K D p.1) := fun pins s σ H xs us Q I r h => by
  obtain ⟨a, oe⟩ := p
  obtain ⟨c, cv, b, rfl, only, kit, q⟩ := h
  cases r with
  | cons ra rr =>
    cases rr with
    | cons rc rr =>
      cases rr
      cases ra
      cases only _ rc
      have here := (I.pin (a, oe) (List.mem_append_left _ hp)).1
      have inst : PySem.W.InstAt s.heap a oe D none := by
        cases oe with
        | mk oc od oda osl =>
          obtain ⟨vs, hvs⟩ := flds
          obtain ⟨hcl, hdi⟩ := cls
          dsimp only at hcl hdi hvs
          subst hcl hdi hvs
          exact ⟨here, rfl, rfl, trivial⟩
      refine PySem.W.kia_one (PySem.W.handS_kitx_exc C.hg C.hk C.hs C.hd C.ha C.hn C.ht C.hm) I.kIn inst kit (fun z => nomatch z) fun tk => ?_
      exact ⟨.bl b, H, I.kept (t' := tk) fun _ _ z => z, rfl, q⟩
/-- the wish for a def that is handed an error and tells a word by the error's number -/
def spErr (cv : Nat → Value) (tab : Nat → Option Str) : ErrW := fun p H Q => ∃ (k : Nat) (z : Str), Zc (cv k) none p.2 ∧ (∃ vs, p.2.data = .fields vs) ∧ tab k = some z ∧ ∀ H', Same H H' → Q (.str z) H'
structure HasP (P : Program) (w : World) (K : PySem.W.Frag) (mg : Str → Option Value) (base : Heap) (cv : Nat → Value) (y x : Str) (k : Nat) (tab : Nat → Option Str) : Prop where
  ex : ∃ (f : Addr) (fd : FuncData), FnP P w K mg base k f fd x (spErr cv tab) ∧ mg y = some (.ref f) ∧ PySem.W.keepIn K (.ref f) = true ∧ Binds K fd [x] []
def mTryF (i : Nat) (m : DS → R Out) (p : Nat → Option Bool) (tab : Nat → Option Str) : DS → R Out := fun δ => match m δ with
  | .ok (.ex k δ') => match p k with
    | some true => match tab k with
      | some z => R.when (inB i δ') (.ok (.rt (.str z)))
      | none => .bad
    | some false => .ok (.ex k δ')
    | none => .bad
  | r => r
/-- try: .. except X as n: return F(n) -/
theorem ds_tryF {i j k0 : Nat} {x y n px : Str} {c : Value} {p : Nat → Option Bool} {tab : Nat → Option Str} {body : List Stmt} {m : DS → R Out} {np p1 p2 p4 p5 pos pos' : Pos} (hF : HasP X.prog X.w X.K X.mg X.base Y.cv y px k0 tab) (hr : Room j X.A) (h1 : X.stack = X.env :: X.outer) (hf : X.env.frame = some X.env.locals) (tk : Takes X Y.wx) (hN : X.N.Nodup) (hi : X.N[i]? = some n) (hln : X.env.kindOf n = some .local) (hv : Vis X.env.scope n)
    (hc : Names X x c) (hp : ∀ k b, p k = some b → PySem.W.exmOne X.K (Y.cv k) c = some b)
    (hb : ∀ (W : WX) (pn : List (Addr × Obj)) (xe : Value → Shared → Prop), Takes (X.tr pn xe) W → PassesOwn (model X.prog X.w) X.A X.env xe → DSs (X.tr pn xe) (inTry Y W) O body m)
    (hj : k0 ≤ j := by decide) (gy : Gl X y := by rfl) (hdb : (y == ("__debug__" : Str)) = false := by decide) (hd : (n == ("__debug__" : Str)) = false := by decide) (hcd : (n == ("__classdict__" : Str)) = false := by decide)
    (he : starEach [.Name n p2] X.env = (false, eval (.Name n p2) X.env) :: starEach [] X.env := by rfl) (hpl : (backTo p4 (starEach [] X.env)).any (·.1) = false := by rfl) :
    DSt X Y O (.Try body [.ExceptHandler (some (.Name x np)) (some n) [.Return (some (.Call (.Name y p1) [.Name n p2] [] p4)) p5] pos'] [] [] pos) (mTryF i m p tab) := by
  obtain ⟨f, fd, F, mf, kf, bf⟩ := hF.ex
  have hrH := L2H.roomH_of (hr.mono hj)
  refine ⟨_, ps_try_as (i := i) (tb := fun W => canS X.K (inTry Y W) O m) (ts := fun a cls d => fun Dn σ H => σ[i]? = some (some (.ref a)) ∧ ∃ k z, d = none ∧ cls = Y.cv k ∧ tab k = some z ∧ ∀ H', Same H H' → Dn.rt (.str z) H') h1 hf hN hi hln hc tk (fun W pn xe t q => (hb W pn xe t q).can) (fun a oe cls d pn hz hff => ⟨fun pins s σ H Dn I h => ?_⟩), fun A0 T H0 σ δ H Dn s w => ⟨A0, T, H0, δ, s, ?_⟩⟩
  · obtain ⟨hs, k, z, rfl, rfl, ht, q⟩ := h
    exact (pss_one (ps_ret (pe_callP F ⟨hrH.dp, hrH.un⟩ gy mf kf bf hi hv hd hcd hdb he hpl))).run pins s σ H Dn I ⟨hs, k, z, hz, hff, ht, q⟩
  · unfold mTryF at w
    cases e : m δ with
    | bad => rw [e] at w; exact w
    | ex k => rw [e] at w; exact w
    | ok o =>
      rw [e] at w
      cases o with
      | ex k δ' =>
        refine fun σ' H' s' => ?_
        dsimp only at w
        cases e2 : p k with
        | none => rw [e2] at w; exact w.elim
        | some b =>
          rw [e2] at w
          refine ⟨b, hp k b e2, fun hbt a _ => ?_, fun hbf => ?_⟩
          · subst hbt
            dsimp only at w
            cases e3 : tab k with
            | none => rw [e3] at w; exact w.elim
            | some z =>
              rw [e3] at w
              obtain ⟨hin, w⟩ := R.when_ok (fun r => WpS X.K Y A0 O T H0 r Dn) w id
              have hl : i < σ'.length := by rw [s'.len]; exact of_decide_eq_true hin
              exact ⟨List.getElem?_set_self hl, k, z, rfl, rfl, e3, fun H2 sm => w _ H2 (s'.same.trans sm) (.str z)⟩
          · subst hbf
            exact w σ' H' s'
      | _ => exact w
end
end L2
namespace L2
open PySem PySem.Spec PyProof.Rows
/-! ## the words of an error: by hand -/
/-- the slots of the def that is handed the error p and gathers words -/
def Wds (p : Addr × Obj) (H0 : Hp) (ws : List Str) (σ : St) (H : Hp) : Prop := σ[0]? = some (some (.ref p.1)) ∧ ∃ l, σ[1]? = some (some (.ref l)) ∧ H l = some (.lst (ws.map V.str)) ∧ H0 l = none ∧ Same H0 H
/-- from I the statements lead to J, or end as R wants -/
def Tri (X : Cx) (I : St → Hp → Prop) (b : List Stmt) (J : St → Hp → Prop) (R : V → Hp → Prop) : Prop := ∃ t, PSs X b t ∧ ∀ (Dn : Ends) σ H, I σ H → (∀ σ' H', J σ' H' → Dn.nx σ' H') → (∀ v H', R v H' → Dn.rt v H') → t Dn σ H
section
variable {X : Cx} {p : Addr × Obj} {D C : Addr} {H0 : Hp} {I J L : St → Hp → Prop} {R : V → Hp → Prop} {e y : Str} {b : Bool} {ws : List Str} {z : Str}
theorem tri_cons {st : Stmt} {r : List Stmt} (h1 : ∃ t, PS X st t ∧ ∀ (Dn : Ends) σ H, I σ H → (∀ σ' H', J σ' H' → Dn.nx σ' H') → (∀ v H', R v H' → Dn.rt v H') → t Dn σ H) (h2 : Tri X J r L R) : Tri X I (st :: r) L R := by
  obtain ⟨t, p1, q1⟩ := h1
  obtain ⟨u, p2, q2⟩ := h2
  refine ⟨_, pss_cons p1 p2, fun Dn σ H i nx rt => ?_⟩
  exact q1 _ σ H i (fun σ' H' j => q2 Dn σ' H' j nx rt) rt
theorem tri_is {p1 p2 p3 p4 p5 p6 p7 p8 p9 pos : Pos} {wname : Str} (hp : p ∈ X.pn) (ec : ExcC X.K D) (cls : Zc (.ref D) none p.2) (flds : ∃ vs, p.2.data = .fields vs) (mi : X.mg "isinstance" = none) (mC : X.mg y = some (.ref C)) (kit : PySem.W.kitOne X.K (.ref D) (.ref C) = some b)
    (h0 : X.N[0]? = some e) (h1 : X.N[1]? = some wname) (v0 : Vis X.env.scope e) (v1 : Vis X.env.scope wname) (hl : ws.length < 100)
    (gi : Gl X "isinstance" := by rfl) (gC : Gl X y := by rfl) (d0 : (e == ("__debug__" : Str)) = false := by decide) (c0 : (e == ("__classdict__" : Str)) = false := by decide) (d1 : (wname == ("__debug__" : Str)) = false := by decide) (c1 : (wname == ("__classdict__" : Str)) = false := by decide) (dy : (y == ("__debug__" : Str)) = false := by decide)
    (he : starEach [.Name e p2, .Name y p3] X.env = [(false, eval (.Name e p2) X.env), (false, eval (.Name y p3) X.env)] := by rfl) (he2 : starEach [.Name y p3] X.env = [(false, eval (.Name y p3) X.env)] := by rfl) (hpl : (backTo p4 (starEach [.Name y p3] X.env)).any (·.1) = false := by rfl)
    (hbase : attributeBase (.Name wname p5) "append" X.env (eval (.Name wname p5) X.env) = eval (.Name wname p5) X.env := by rfl)
    (hfew : ((backTo p8 (starEach [.Constant (.str z) 0 p7] X.env)).all (fun x => !x.1) && (backToKw p8 (keywordEach [] X.env)).all (fun x => x.1.isSome)
      && decide (([.Constant (.str z) 0 p7] : List Expr).length + ([] : List Keyword).length + (if ([] : List Keyword).isEmpty then 0 else 1) < 30)) = true := by rfl)
    (hline : (p6.endLine == p8.line) = true := by rfl) (hs : starEach [.Constant (.str z) 0 p7] X.env = (false, eval (.Constant (.str z) 0 p7) X.env) :: starEach [] X.env := by rfl)
    (hsw : swapsWith (.Call (.Attribute (.Name wname p5) "append" p6) [.Constant (.str z) 0 p7] [] p8) none p9.line X.env = pure false := by rfl) :
    ∃ t, PS X (.If (.Call (.Name "isinstance" p1) [.Name e p2, .Name y p3] [] p4) [.Expr (.Call (.Attribute (.Name wname p5) "append" p6) [.Constant (.str z) 0 p7] [] p8) p9] [] pos) t ∧
      ∀ (Dn : Ends) σ H, Wds p H0 ws σ H → (∀ σ' H', Wds p H0 (if b = true then ws ++ [z] else ws) σ' H' → Dn.nx σ' H') → (∀ v H', R v H' → Dn.rt v H') → t Dn σ H := by
  refine ⟨_, ps_if (pt_val (pe_callB (call_isP hp ec cls flds) gi mi (by decide +kernel) (pa_cons (pe_var h0 v0 d0 c0) (pa_cons (pe_glob (v := .ref C) gC mC rfl dy) pa_nil (by rw [he2]; rfl)) (by rw [he, he2])) (by decide) (by decide) (by rw [he, he2]) hpl))
    (pss_one (ps_expr (pe_bm PySem.F.plainAttrs_list PySem.F.slot_list_append PySem.F.type_list_append mt_append (pe_var h1 v1 d1 c1) (pa_cons pe_str pa_nil hs) hbase hfew hline hs) hsw)) pss_nil, fun Dn σ H w nx rt => ?_⟩
  obtain ⟨s0, l, s1, hl1, hn, sm⟩ := w
  refine ⟨_, s0, .ref C, .ref C, b, rfl, fun u r => r, kit, b, rfl, ?_⟩
  cases b with
  | false => exact nx σ H ⟨s0, l, s1, hl1, hn, sm⟩
  | true =>
    refine ⟨_, s1, .inl ⟨rfl, _, .inl (.inl hl1)⟩, ?_⟩
    refine ⟨_, _, .str z, rfl, rfl, hl1, ?_, ?_⟩
    · rw [List.length_map]; exact small1000 (by omega)
    · refine nx _ _ ⟨s0, l, s1, ?_, hn, same_mut sm hn⟩
      rw [upd_same, if_pos rfl, List.map_append]; rfl
theorem tri_words {p1 p2 p3 : Pos} {wname : Str} (hN : X.N.Nodup) (h1 : X.N[1]? = some wname) (hx : Loc X.env.scope wname)
    (hs : swapsWith (.List [] p2) (some (.Name wname p1)) p3.line X.env = pure false := by rfl) (hf : X.fn wname = true ∨ X.env.scope.names.lookup wname = some .local := by first | exact .inl rfl | exact .inr rfl) :
    ∃ t, PS X (.Assign [.Name wname p1] (.List [] p2) p3) t ∧ ∀ (Dn : Ends) σ H, (σ[0]? = some (some (.ref p.1)) ∧ H = H0 ∧ 1 < σ.length) → (∀ σ' H', Wds p H0 [] σ' H' → Dn.nx σ' H') → (∀ v H', R v H' → Dn.rt v H') → t Dn σ H := by
  refine ⟨_, ps_set hN h1 hx (pe_lst pa_nil) hs hf, fun Dn σ H i nx rt => ?_⟩
  obtain ⟨s0, rfl, hl⟩ := i
  refine ⟨Nat.zero_le _, fun l hn => ?_⟩
  refine nx _ _ ⟨?_, l, List.getElem?_set_self hl, ?_, hn, same_upd hn⟩
  · rw [List.getElem?_set_ne (by decide)]; exact s0
  · rw [upd_same]; rfl
theorem eq_one {n : Int} : PyData.eqv (.int n) (.int 1) = decide (n = 1) := eqv_int
/-- one word: it is told -/
theorem tri_tell {p1 p2 p3 p4 p5 p6 p7 p8 p9 q1 q2 q3 q4 q5 q6 : Pos} {wname : Str} {z : Str} (hp : p ∈ X.pn) (ec : ExcC X.K D) (cls : Zc (.ref D) none p.2) (flds : ∃ vs, p.2.data = .fields vs) (hu : X.A.units + 64 < cLine)
    (mi : X.mg "isinstance" = none) (mv : X.mg "ValueError" = none) (ml : X.mg "len" = none) (kit : PySem.W.kitOne X.K (.ref D) (.type "ValueError") = some true)
    (h0 : X.N[0]? = some e) (h1 : X.N[1]? = some wname) (v0 : Vis X.env.scope e) (v1 : Vis X.env.scope wname) (hR : ∀ H', Same H0 H' → R (.str z) H') (hws : ws = [z])
    (gi : Gl X "isinstance" := by rfl) (gv : Gl X "ValueError" := by rfl) (gl : Gl X "len" := by rfl) (d0 : (e == ("__debug__" : Str)) = false := by decide) (c0 : (e == ("__classdict__" : Str)) = false := by decide) (d1 : (wname == ("__debug__" : Str)) = false := by decide) (c1 : (wname == ("__classdict__" : Str)) = false := by decide)
    (he : starEach [.Name e p2, .Name "ValueError" p3] X.env = [(false, eval (.Name e p2) X.env), (false, eval (.Name "ValueError" p3) X.env)] := by rfl) (he2 : starEach [.Name "ValueError" p3] X.env = [(false, eval (.Name "ValueError" p3) X.env)] := by rfl) (hpl : (backTo p4 (starEach [.Name "ValueError" p3] X.env)).any (·.1) = false := by rfl)
    (hel : starEach [.Name wname q2] X.env = (false, eval (.Name wname q2) X.env) :: starEach [] X.env := by rfl) (hpl2 : (backTo q3 (starEach [] X.env)).any (·.1) = false := by rfl) :
    ∃ t, PS X (.If (.BoolOp .And [.Compare (.Call (.Name "len" q1) [.Name wname q2] [] q3) [.Eq] [.Constant (.int 1) 0 q4] q5, .Call (.Name "isinstance" p1) [.Name e p2, .Name "ValueError" p3] [] p4] p5)
      [.Return (some (.Subscript (.Name wname p6) (.Constant (.int 0) 0 p7) p8)) p9] [] q6) t ∧
      ∀ (Dn : Ends) σ H, Wds p H0 ws σ H → (∀ σ' H', False → Dn.nx σ' H') → (∀ v H', R v H' → Dn.rt v H') → t Dn σ H := by
  refine ⟨_, ps_if (PW.pt (pw_and (pt_cmpR (op_eqD hu) (pe_callB call_len_seq gl ml PySem.boot_len (pa_cons (pe_var h1 v1 d1 c1) pa_nil hel) (by decide) (by decide) hel hpl2) pe_int (by first | exact nobehind _ (by decide) (by decide) | rfl))
    (pw_and1 (pt_val (pe_callB (call_isP hp ec cls flds) gi mi (by decide +kernel) (pa_cons (pe_var h0 v0 d0 c0) (pa_cons (pe_bltn (v := .ty "ValueError") gv mv (u := .type "ValueError") (by decide +kernel) rfl (by decide) (by decide)) pa_nil (by rw [he2]; rfl)) (by rw [he, he2])) (by decide) (by decide) (by rw [he, he2]) hpl)))))
    (pss_one (ps_ret (pe_ix ix_any (pe_var h1 v1 d1 c1) pe_int (fun _ _ => rfl)))) pss_nil, fun Dn σ H w nx rt => ?_⟩
  subst hws
  obtain ⟨s0, l, s1, hl1, hn, sm⟩ := w
  refine ⟨_, s1, l, [.str z], rfl, .inl (.inl (.inl hl1)), ?_⟩
  refine ⟨.int 1, .int 1, .int _, .int _, shp_int, shp_int, ?_⟩
  refine ⟨true, by rw [eq_one]; rfl, ?_⟩
  refine ⟨_, s0, .ty "ValueError", .type "ValueError", true, rfl, fun u r => r, kit, true, rfl, ?_⟩
  refine ⟨_, s1, ?_⟩
  exact .inl ⟨l, [.str z], 0, .str z, rfl, rfl, .inl (.inl hl1), rfl, rt _ _ (hR H sm)⟩
theorem tri_never {st : Stmt} {t : TS} (h : PS X st t) : Tri X (fun _ _ => False) [st] L R := ⟨_, pss_one h, fun _ _ _ z => z.elim⟩
/-- the words whose tests came out true -/
def gath (b : Nat → Bool) (wd : Nat → Str) : Nat → List Str
  | 0 => []
  | n + 1 => if b n = true then gath b wd n ++ [wd n] else gath b wd n
theorem gath_lt (b : Nat → Bool) (wd : Nat → Str) : ∀ n, n < 100 → (gath b wd n).length < 100 := by
  have h : ∀ n, (gath b wd n).length ≤ n := fun n => by
    induction n with
    | zero => exact Nat.le_refl _
    | succ n ih =>
      unfold gath
      split
      · rw [List.length_append, List.length_cons, List.length_nil]; omega
      · omega
  intro n hn
  have := h n
  omega
end
section
def tryFK (i : Nat) (p : Nat → Option Bool) (tab : Nat → Option Str) : R Out → R Out
  | .ok (.ex k δ') => match p k with
    | some true => match tab k with
      | some z => R.when (inB i δ') (.ok (.rt (.str z)))
      | none => .bad
    | some false => .ok (.ex k δ')
    | none => .bad
  | r => r
theorem q_tryF {i : Nat} {n : DS → R Out} {p : Nat → Option Bool} {tab : Nat → Option Str} {δ : DS} : mTryF i n p tab δ = tryFK i p tab (n δ) := by
  unfold mTryF tryFK
  cases n δ with
  | ok o => cases o <;> rfl
  | _ => rfl
theorem tryFK_nx {i : Nat} {p : Nat → Option Bool} {tab : Nat → Option Str} {δ : DS} : tryFK i p tab (.ok (.nx δ)) = .ok (.nx δ) := (rfl)
theorem tryFK_ex {i k : Nat} {p : Nat → Option Bool} {tab : Nat → Option Str} {δ : DS} {z : Str} (h : p k = some true) (h2 : tab k = some z) : tryFK i p tab (.ok (.ex k δ)) = R.when (inB i δ) (.ok (.rt (.str z))) := by
  unfold tryFK; dsimp only; rw [h]; dsimp only; rw [h2]
end
end L2
namespace L2
open PySem PySem.Spec PyProof.Rows
/-! ## an owned slot is given away -/
section
variable {K : PySem.W.Frag} {A0 : Addr → Prop} {O O' : List Nat} {T : List Tm} {H0 H : Hp} {σ : St} {δ : DS} {j : Nat}
/-- O' is O but for j -/
def LessBy (O O' : List Nat) (j : Nat) : Prop := j ∈ O ∧ j ∉ O' ∧ (∀ k ∈ O', k ∈ O) ∧ ∀ k ∈ O, k ≠ j → k ∈ O'
instance : Decidable (LessBy O O' j) := by unfold LessBy; exact inferInstance
theorem SS.lend (s : SS K A0 O T H0 σ δ H) (l : LessBy O O' j) : SS K A0 O' T H0 σ δ H := by
  obtain ⟨hj, hn, l1, l2⟩ := l
  obtain ⟨w, h1, h2, h3, h4⟩ := s.ex
  have sub : ∀ a, (A0 a ∨ ∃ k ∈ O', (∃ d, δ[k]? = some (some d)) ∧ a = w k) → (A0 a ∨ ∃ k ∈ O, (∃ d, δ[k]? = some (some d)) ∧ a = w k) := fun a q => q.imp id fun ⟨k, ko, r⟩ => ⟨k, l1 k ko, r⟩
  refine ⟨⟨w, fun i d ho e => ?_, fun i d ho e => ?_, fun i k ho ko => h3 i k (l1 i ho) (l1 k ko), fun p hp => p.mono (mask_sub sub) (h4 p hp)⟩, s.len, s.same, s.cov⟩
  · by_cases hi : i = j
    · subst hi
      obtain ⟨ds, vs, rfl, e1, e2, e3, e4⟩ := h2 i d hj e
      have na : ¬ (A0 (w i) ∨ ∃ k ∈ O', (∃ d, δ[k]? = some (some d)) ∧ w i = w k) := fun q => by
        rcases q with q | ⟨k, ko, kd, ke⟩
        · exact s.cov _ q e3
        · exact hn (by rw [h3 i k hj (l1 k ko) ⟨_, e⟩ kd ke]; exact ko)
      exact ⟨_, e1, .lst (SqL.of (mask_some.mpr ⟨na, e2⟩)) (DpAll.same (mask_sub sub) e4)⟩
    · obtain ⟨v, q1, q2⟩ := h1 i d (fun q => ho (l2 i q hi)) e
      exact ⟨v, q1, Dp.same (mask_sub sub) q2⟩
  · obtain ⟨ds, vs, e0, e1, e2, e3, e4⟩ := h2 i d (l1 i ho) e
    exact ⟨ds, vs, e0, e1, e2, e3, DpAll.same (mask_sub sub) e4⟩
theorem SS.blank (s : SS K A0 O' T H0 σ δ H) (l : LessBy O O' j) : SS K A0 O T H0 σ (δ.set j none) H := by
  obtain ⟨hj, hn, l1, l2⟩ := l
  obtain ⟨w, h1, h2, h3, h4⟩ := s.ex
  have none' : ∀ d, (δ.set j none)[j]? ≠ some (some d) := fun d e => by
    by_cases hl : j < δ.length
    · rw [List.getElem?_set_self hl] at e; cases e
    · rw [List.getElem?_eq_none (by simpa using hl)] at e; cases e
  have at' : ∀ k, k ≠ j → (δ.set j none)[k]? = δ[k]? := fun k hk => List.getElem?_set_ne (Ne.symm hk)
  have oe : (fun a => A0 a ∨ ∃ k ∈ O, (∃ d, (δ.set j none)[k]? = some (some d)) ∧ a = w k) = (fun a => A0 a ∨ ∃ k ∈ O', (∃ d, δ[k]? = some (some d)) ∧ a = w k) := by
    funext a
    refine propext ⟨fun q => q.imp id fun ⟨k, ko, kd, ke⟩ => ?_, fun q => q.imp id fun ⟨k, ko, kd, ke⟩ => ?_⟩
    · by_cases hk : k = j
      · subst hk
        exact absurd kd.choose_spec (none' _)
      · rw [at' k hk] at kd
        exact ⟨k, l2 k ko hk, kd, ke⟩
    · have hk : k ≠ j := fun e => hn (e ▸ ko)
      rw [← at' k hk] at kd
      exact ⟨k, l1 k ko, kd, ke⟩
  refine ⟨⟨w, fun i d ho e => ?_, fun i d ho e => ?_, fun i k ho ko ie ke hw => ?_, fun p hp => by rw [oe]; exact h4 p hp⟩, by rw [List.length_set]; exact s.len, s.same, s.cov⟩
  · rw [oe]
    have hi : i ≠ j := fun q => ho (by rw [q]; exact hj)
    rw [at' i hi] at e
    exact h1 i d (fun q => ho (l1 i q)) e
  · rw [oe]
    have hi : i ≠ j := fun q => by subst q; exact none' _ e
    rw [at' i hi] at e
    exact h2 i d (l2 i ho hi) e
  · have hi : i ≠ j := fun q => by subst q; exact none' _ ie.choose_spec
    have hk : k ≠ j := fun q => by subst q; exact none' _ ke.choose_spec
    rw [at' i hi] at ie
    rw [at' k hk] at ke
    exact h3 i k (l2 i ho hi) (l2 k ko hk) ie ke hw
end
def Out.blank (j : Nat) : Out → Out
  | .nx δ => .nx (δ.set j none)
  | .rt d => .rt d
  | .rl ds => .rl ds
  | .bk δ => .bk (δ.set j none)
  | .ct δ => .ct (δ.set j none)
  | .ex n δ => .ex n (δ.set j none)
/-- the slot j is given away in this statement -/
def mGive (j : Nat) (m : DS → R Out) : DS → R Out := fun δ => (m δ).map (Out.blank j)
section
variable {X : Cx} {Y : Wy} {O O' : List Nat} {j : Nat}
theorem tsem_give {t : TS} {m : DS → R Out} (h : TSem X Y O' t m) (l : LessBy O O' j) : TSem X Y O t (mGive j m) := fun A0 T H0 σ δ H Dn s w => by
  refine h A0 T H0 σ δ H Dn (s.lend l) ?_
  unfold mGive at w
  cases e : m δ with
  | bad => rw [e] at w; exact w
  | ex n => rw [e] at w; exact w
  | ok o =>
    rw [e] at w
    cases o with
    | nx δ' => exact fun σ' H' s' => w σ' H' (s'.blank l)
    | rt d => exact w
    | rl ds => exact w
    | bk δ' => exact fun σ' H' s' => w σ' H' (s'.blank l)
    | ct δ' => exact fun σ' H' s' => w σ' H' (s'.blank l)
    | ex n δ' => exact fun σ' H' s' => w σ' H' (s'.blank l)
theorem ds_give {st : Stmt} {m : DS → R Out} (O' : List Nat) (l : LessBy O O' j) (h : DSt X Y O' st m) : DSt X Y O st (mGive j m) := by
  obtain ⟨t, p, q⟩ := h
  exact ⟨t, p, tsem_give q l⟩
theorem q_give {j : Nat} {m : DS → R Out} {δ : DS} : mGive j m δ = (m δ).map (Out.blank j) := (rfl)
theorem q_blank {j : Nat} {δ : DS} : Out.blank j (.nx δ) = .nx (δ.set j none) := (rfl)
/-! ## what is not looked at -/
def mBad : DS → R Out := fun _ => .bad
theorem dss_bad {b : List Stmt} : DSs X Y O b mBad := ⟨fun _ _ _ => False, ⟨fun _ _ _ _ _ _ h => h.elim⟩, fun _ _ _ _ _ _ _ _ w => w.elim⟩
theorem q_bad {δ : DS} : mBad δ = .bad := (rfl)
end

/-! ## making an object of one's own class -/
section
variable {X : Cx} {CX : CXT} {k : Nat} {f C : Addr} {fd : FuncData} {ps : List Str} {sp : Sp} {E : XK}
theorem run_makeAt {pins : List (Addr × Obj)} {σ : St} {H : Hp} {s : Shared} {Q : VK} {us : List Value} {vs : List V} (M : Mk X.K C f) (F : FnOk X.prog X.w X.K X.mg X.base CX k f fd ps sp) (hr : Room (k + 1) X.A) (hb : Binds X.K fd ps [])
    (hx : PassesAt CX X σ E) (I : Inv X pins σ H s) (r : Vals vs us)
    (h : ∀ x dx, H x = none → H dx = none → dx ≠ x → sp (.ref x :: vs) (upd (upd H dx (.own x)) x (.ins C dx [])) (fun v H2 => v = .non ∧ Q (.ref x) H2) E) :
    wpAny (model X.prog X.w) X.A (call (.ref C) us) (EP X pins σ Q) X.xe s := by
  have hq := h (s.heap.objs.size + 1) s.heap.objs.size (I.hok.fresh (Nat.le_succ _)) (I.hok.fresh (Nat.le_refl _)) (Nat.ne_of_lt (Nat.lt_succ_self _))
  have I2 := Inv.made (C := C) I
  have r2 : Vals (V.ref (s.heap.objs.size + 1) :: vs) (Value.ref (s.heap.objs.size + 1) :: us) := .cons rfl r
  have hl : (Value.ref (s.heap.objs.size + 1) :: us ++ []).length = ps.length := by
    have e := r2.length
    rw [F.len _ _ _ _ hq] at e
    rw [List.append_nil]
    exact e.symm
  have bnd := hb _ (Value.ref (s.heap.objs.size + 1) :: us) I2.kIn hl
  rw [List.append_nil] at bnd
  refine wpAny_call (make_map (f := f) I.kIn M.makes M.init (beq_iff_eq.mp M.fn) (codeAny_mono (F.run _ X.stack _ _ ⟨Value.ref (s.heap.objs.size + 1) :: us, []⟩ (Value.ref (s.heap.objs.size + 1) :: us) _ _ E (hr.make C us [])
    (I2.env0.make C us []) bnd r2 hq) fun r s' hq' => ?_))
  cases r with
  | error e => exact hx pins _ _ e s' I2 hq'
  | ok fl =>
    cases fl with
    | ret u =>
      obtain ⟨v, H', I3, rv, ev, q3⟩ := I2.after hq'
      subst ev
      exact ⟨rv, ⟨V.ref (s.heap.objs.size + 1), H', I3, rfl, q3⟩⟩
    | next => exact False.elim hq'
    | brk => exact False.elim hq'
    | cont => exact False.elim hq'
end
/-! ## a class of one's own whose making is refused -/
/-- the wish for __init__: it raises what g tells -/
def SpC (K : PySem.W.Frag) (cv : Nat → Value) (g : List D → R D) : Sp := fun vs H Q E => ∃ A ds self us n, vs = self :: us ∧ Cov A H ∧ DpAll K (mask A H) us ds ∧ g ds = .ex n ∧ ∀ H', Same H H' → E (cv n) none H'
structure HasC (P : Program) (w : World) (K : PySem.W.Frag) (mg : Str → Option Value) (base : Heap) (cv : Nat → Value) (x : Str) (ps : List Str) (k : Nat) (g : List D → R D) : Prop where
  ex : ∃ C f fd, Mk K C f ∧ FnOk P w K mg base (L2.CX P w) k f fd ps (SpC K cv g) ∧ mg x = some (.ref C) ∧ Binds K fd ps []
def onlyEx {α β : Type} : R α → R β
  | .ex n => .ex n
  | _ => .bad
section
variable {X : Cx} {Y : Wy} {O : List Nat} {k j : Nat} {ps : List Str} {x : Str} {p pos : Pos} {e : Expr} {es : List Expr} {ms : DS → R (List D)} {g : List D → R D}
theorem de_make (h : HasC X.prog X.w X.K X.mg X.base Y.cv x ps k g) (hr : Room j X.A) (hx : ∀ σ, PassesAt (L2.CX X.prog X.w) X σ (Y.E σ)) (ha : DA X Y (e :: es) ms) (hj : k + 1 ≤ j := by decide) (hg : Gl X x := by rfl)
    (hdb : (x == ("__debug__" : Str)) = false := by decide) (he : starEach (e :: es) X.env = (false, eval e X.env) :: starEach es X.env := by rfl) (hpl : (backTo pos (starEach es X.env)).any (·.1) = false := by rfl) : DE X Y (.Call (.Name x p) (e :: es) [] pos) (fun δ => (ms δ).bind fun ds => onlyEx (g ds)) := by
  obtain ⟨C, f, fd, M, F, m, b⟩ := h.ex
  obtain ⟨t, pa, q⟩ := ha
  refine ⟨fun σ H Q => t σ H fun vs H1 => ∀ x dx, H1 x = none → H1 dx = none → dx ≠ x → SpC X.K Y.cv g (.ref x :: vs) (upd (upd H1 dx (.own x)) x (.ins C dx [])) (fun v H2 => v = .non ∧ Q (.ref x) H2) (Y.E σ), ⟨fun pins s σ H Q I h => ?_⟩, fun σ δ H A c s Q w => da_seq (Y := Y) q c s w fun ds vs H1 t1 r1 w1 => ?_⟩
  · refine wpAny_Call_Name_kw (ld_glob I hg m ?_ hdb)
    refine PySem.W.callWith_K (h₀ := X.base) I.ok.mod.kin M.kp (thn (pa.run pos pins s σ H _ I h) fun us s1 ⟨vs, H1, I1, r, q⟩ => ⟨I1.kIn, ?_⟩) he hpl
    exact run_makeAt M F (hr.mono hj) b (hx σ) I1 r q
  · cases e1 : g ds with
    | bad => rw [e1] at w1; exact w1.elim
    | ok d => rw [e1] at w1; exact w1.elim
    | ex n =>
      rw [e1] at w1
      intro x dx hx hdx hne
      have st : Same H1 (upd (upd H1 dx (.own x)) x (.ins C dx [])) := (same_upd hdx).trans (same_upd (by rw [upd_ne (Ne.symm hne)]; exact hx))
      exact ⟨A, ds, _, vs, n, rfl, (c.mono t1).mono st, DpAll.same (Same.mask st) r1, e1, fun H' t => w1 H' (st.trans t)⟩
end

/-! ## __init__ over data: self is not looked at -/
def startC (N : List Str) (ds : List D) : DS := none :: (ds.map some ++ List.replicate (N.length - (ds.length + 1)) none)
def finC : R Out → R D
  | .ok (.ex n _) => .ex n
  | _ => .bad
section
variable {P : Program} {w : World} {K : PySem.W.Frag} {mg : Str → Option Value} {base : Heap} {x qual : Str} {st : Stmt} {f : Addr} {fd : FuncData} {N ps : List Str} {k : Nat}
theorem ss_startC {A : Addr → Prop} {H : Hp} {self : V} {vs : List V} {ds : List D} (c : Cov A H) (r : DpAll K (mask A H) vs ds) : SS K A [] [] H (start N (self :: vs)) (startC N ds) H := by
  have hl := r.len
  have ae : (fun a => A a ∨ ∃ j ∈ ([] : List Nat), (∃ d, (startC N ds)[j]? = some (some d)) ∧ a = (fun _ => 0 : Nat → Addr) j) = A := by
    funext a
    exact propext ⟨fun q => q.elim id fun ⟨j, jo, _⟩ => absurd jo List.not_mem_nil, .inl⟩
  refine ⟨⟨fun _ => 0, fun i d ho e => ?_, fun i d ho => absurd ho List.not_mem_nil, fun i j ho => absurd ho List.not_mem_nil, fun p hp => by cases hp⟩, ?_, Same.refl H, c⟩
  · rw [ae]
    cases i with
    | zero => cases e
    | succ i =>
      have e1 : (ds.map some ++ List.replicate (N.length - (ds.length + 1)) none)[i]? = some (some d) := e
      have e2 : ds[i]? = some d := by
        by_cases h : i < ds.length
        · rw [List.getElem?_append_left (by simpa using h), List.getElem?_map] at e1
          cases q : ds[i]? with
          | none => rw [q] at e1; cases e1
          | some y => rw [q] at e1; cases e1; rfl
        · rw [List.getElem?_append_right (by simpa using h), List.getElem?_replicate] at e1
          split at e1 <;> cases e1
      obtain ⟨v, q1, q2⟩ := r.get e2
      refine ⟨v, ?_, q2⟩
      unfold start
      have h : i < vs.length := (List.getElem?_eq_some_iff.mp q1).1
      rw [List.getElem?_append_left (by simp; omega), List.getElem?_map, List.getElem?_cons_succ, q1]; rfl
  · unfold start startC
    simp only [List.length_append, List.length_map, List.length_replicate, List.length_cons, hl]
    omega
theorem fn_C {cv : Nat → Value} {m : DS → R Out} {p0 : Str} (F : Fun K x qual st f fd) (S : FnScope N (p0 :: ps) (defScope st))
    (hbody : ∀ (cdv : Value) (A : Around) (outer : List Env) (s : Shared) (H : Hp) (E : XK), Room k (A.deeper (envOfC qual (defScope st) s.heap.objs.size f cdv)) →
      DSs (cxOf (L2.CX P w) P w K mg base N qual (defScope st) f cdv A outer s H E) ⟨cv, fun _ => E⟩ [] (defBody st) m) :
    FnOk P w K mg base (L2.CX P w) (k + 1) f fd (p0 :: ps) (SpC K cv (chk ps.length fun ds => finC (m (startC N ds)))) := by
  refine F.okX S (fun vs H Q E h => ?_) (fun cdv A outer s H vs Q E hr h => ?_)
  · obtain ⟨A, ds, self, us, n, rfl, c, r, e, w⟩ := h
    unfold chk at e
    cases q : decide (ds.length = ps.length) with
    | false => rw [q] at e; cases e
    | true => rw [List.length_cons, List.length_cons, r.len, of_decide_eq_true q]
  · obtain ⟨A0, ds, self, us, n, rfl, c, r, e, w'⟩ := h
    unfold chk at e
    obtain ⟨t, p, q⟩ := hbody cdv A outer s H E hr
    refine ⟨t, p, q A0 [] H (start N (self :: us)) (startC N ds) H _ (ss_startC c r) ?_⟩
    cases q2 : decide (ds.length = ps.length) with
    | false => rw [q2] at e; cases e
    | true =>
      rw [q2] at e
      have e' : finC (m (startC N ds)) = .ex n := e
      cases em : m (startC N ds) with
      | bad => rw [em] at e'; cases e'
      | ex n => rw [em] at e'; cases e'
      | ok o =>
        rw [em] at e'
        cases o with
        | ex n δ =>
          cases e'
          exact fun σ H' s' => w' H' s'.same
        | _ => cases e'
theorem HasC.imp {cv : Nat → Value} {g g' : List D → R D} (h : HasC P w K mg base cv x ps k g) (t : Tells g' g) : HasC P w K mg base cv x ps k g' := by
  obtain ⟨C, f, fd, M, F, m, b⟩ := h.ex
  refine ⟨C, f, fd, M, F.imp fun vs H Q E ⟨A, ds, self, us, n, e1, c, r, e2, wq⟩ => ⟨A, ds, self, us, n, e1, c, r, ?_, wq⟩, m, b⟩
  rcases t ds with e | e
  · rw [e] at e2; cases e2
  · rw [e]; exact e2
end
/-- self.f = e, where e is refused -/
def mFldX (O : List Nat) (m : DS → R D) : DS → R Out := fun δ => (m (hideD O δ)).run δ fun _ => .bad
theorem ds_fldX {X : Cx} {Y : Wy} {O : List Nat} {i : Nat} {x f : Str} {value : Expr} {m : DS → R D} {p pos pos' : Pos} (hN : X.N[i]? = some x) (hv : Vis X.env.scope x) (he : DE X Y value m) (hd : (x == ("__debug__" : Str)) = false := by decide) (hcd : (x == ("__classdict__" : Str)) = false := by decide)
    (hs : swapsWith value (some (.Attribute (.Name x p) f pos')) pos.line X.env = pure false := by rfl) : DSt X Y O (.Assign [.Attribute (.Name x p) f pos'] value pos) (mFldX O m) := by
  obtain ⟨t, pe, q⟩ := he
  refine ⟨_, ps_fld (pe_var hN hv hd hcd) pe hs, fun A0 T H0 σ δ H Dn s w => ?_⟩
  obtain ⟨w0, cv, sr, up, kp, tm, _⟩ := s.share
  refine q σ (hideD O δ) H _ cv sr _ ?_
  unfold mFldX at w
  cases e : m (hideD O δ) with
  | bad => rw [e] at w; exact w
  | ex k => rw [e] at w; exact fun H' t => w σ H' (s.keep t)
  | ok d => rw [e] at w; exact w.elim
end L2
namespace L2
open PySem PySem.Spec PyProof.Rows
theorem dpAll3 {K : PySem.W.Frag} {H : Hp} {vs : List V} {d e g : D} (h : DpAll K H vs [d, e, g]) : ∃ v u t, vs = [v, u, t] ∧ Dp K H v d ∧ Dp K H u e ∧ Dp K H t g := by
  cases h with
  | cons h1 h2 =>
    obtain ⟨u, t, rfl, h3, h4⟩ := dpAll2 h2
    exact ⟨_, u, t, rfl, h1, h3, h4⟩
section
variable {X : Cx} {Y : Wy} {O : List Nat}
/-! ## a, b, c = e -/
def stTri (i j k : Nat) : D → DS → R DS := fun d δ => match d with
  | .tuple [x, y, z] => R.when (inB i δ && (inB j (δ.set i (some x)) && inB k ((δ.set i (some x)).set j (some y)))) (.ok (((δ.set i (some x)).set j (some y)).set k (some z)))
  | _ => .bad
theorem dg_tri {i j k : Nat} {a b c : Str} {pa pb pc pos : Pos} {x1} (hc : X.calm = true) (hN : X.N.Nodup) (hi : X.N[i]? = some a) (hj : X.N[j]? = some b) (hk : X.N[k]? = some c) (ha : Loc X.env.scope a) (hb : Loc X.env.scope b) (hcl : Loc X.env.scope c) (hoi : i ∉ O := by decide) (hoj : j ∉ O := by decide) (hok : k ∉ O := by decide)
    (hfa : X.fn a = true ∨ X.env.scope.names.lookup a = some .local := by first | exact .inl rfl | exact .inr rfl | assumption) (hfb : X.fn b = true ∨ X.env.scope.names.lookup b = some .local := by first | exact .inl rfl | exact .inr rfl | assumption)
    (hfc : X.fn c = true ∨ X.env.scope.names.lookup c = some .local := by first | exact .inl rfl | exact .inr rfl | assumption) : DG X O (.Tuple [.Name a pa, .Name b pb, .Name c pc] x1 pos) (stTri i j k) := by
  refine ⟨_, pg_tup hc (pgs_cons (pg_name hN hi ha hfa) (pgs_cons (pg_name hN hj hb hfb) (pgs_cons (pg_name hN hk hcl hfc) pgs_nil))), fun A0 T H0 σ δ H v d Q s w => ?_⟩
  unfold stTri at w
  split at w
  · rename_i x y z
    obtain ⟨hb, w⟩ := R.when_ok (fun r => WpG X.K A0 O T H0 H r Q) w id
    rw [Bool.and_eq_true, Bool.and_eq_true] at hb
    obtain ⟨w0, k1, k2, k3, k4⟩ := s.ex
    obtain ⟨p, vs, rfl, g1, g2⟩ := dp_tup (show Dp X.K _ v (.tuple [x, y, z]) from k4 _ List.mem_cons_self)
    obtain ⟨vx, vy, vz, rfl, g3, g4, g5⟩ := dpAll3 g2
    have h1 := sqT_same mask_le g1
    have s1 : SS X.K A0 O (tmD X.K vx x :: tmD X.K vy y :: tmD X.K vz z :: tmD X.K (.ref p) (.tuple [x, y, z]) :: T) H0 σ δ H := by
      refine ⟨⟨w0, k1, k2, k3, fun q hq => ?_⟩, s.len, s.same, s.cov⟩
      rcases List.mem_cons.mp hq with rfl | hq
      · exact g3
      · rcases List.mem_cons.mp hq with rfl | hq
        · exact g4
        · rcases List.mem_cons.mp hq with rfl | hq
          · exact g5
          · exact k4 q hq
    exact ⟨p, [vx, vy, vz], rfl, h1, rfl, vx, [vy, vz], rfl, vy, [vz], rfl, vz, [], rfl, rfl, w _ (((s1.setT hoi hb.1).setT hoj hb.2.1).setT hok hb.2.2).untemp⟩
  · exact w.elim
theorem q_tri {i j k : Nat} {x y z : D} {δ : DS} : stTri i j k (.tuple [x, y, z]) δ = R.when (inB i δ && (inB j (δ.set i (some x)) && inB k ((δ.set i (some x)).set j (some y)))) (.ok (((δ.set i (some x)).set j (some y)).set k (some z))) := (rfl)
/-! ## a call whose first argument is refused -/
def mFirstEx (m : DS → R D) : DS → R D := fun δ => (m δ).bind fun _ => .bad
theorem de_firstEx {id : String} {x : Str} {e c : Expr} {m : DS → R D} {nm : Str} {p kp pos : Pos} (hg : Gl X x) (hm : X.mg x = none) (hv : bootBuiltins x = some (.builtin id)) (he : DE X Y e m) (hn : x ≠ "__name__" := by decide) (hdb : (x == ("__debug__" : Str)) = false := by decide)
    (hs : starEach [e] X.env = [(false, eval e X.env)] := by rfl) : DE X Y (.Call (.Name x p) [e] [⟨some nm, c, kp⟩] pos) (mFirstEx m) := by
  obtain ⟨t, pe, q⟩ := he
  refine ⟨fun σ H _ => t σ H fun _ _ => False, ⟨fun pins s σ H Q I h => ?_⟩, fun σ δ H A c s Q w => q σ δ H A c s _ ?_⟩
  · refine wpAny_Call_Name_kw (ld_blt I hg hm hv ?_ hn hdb)
    have two := (pa_cons pe pa_nil hs).run pos pins s σ H (fun _ _ => False) I (show tCons t tNil σ H (fun _ _ => False) from h)
    exact PySem.W.callWith_of (P := fun _ => True) (by rw [hs]; rfl) (fun h _ => ⟨.machine, .inr (.inl rfl), fun A Q E s _ q => wpAny_pure q⟩) (evalArgs_kw2 (by rfl) (thn two fun us s1 ⟨_, _, _, _, z⟩ => z.elim) hs)
  · unfold mFirstEx at w
    cases e1 : m δ with
    | bad => rw [e1] at w; exact w
    | ex n => rw [e1] at w; exact w
    | ok d => rw [e1] at w; exact w.elim
theorem q_firstEx {m : DS → R D} {δ : DS} : mFirstEx m δ = (m δ).bind fun _ => .bad := (rfl)
theorem q_fldX {m : DS → R D} {δ : DS} : mFldX O m δ = (m (hideD O δ)).run δ fun _ => .bad := (rfl)
/-! ## numbers at the top -/
theorem de_gint {x : Str} {n : Int} {t : Tok} {pos : Pos} (hm : X.mg x = some (.int n t)) (hg : Gl X x := by rfl) (hdb : (x == ("__debug__" : Str)) = false := by decide) : DE X Y (.Name x pos) (mC (.int n)) :=
  ⟨_, pe_glob (v := .int n) hg hm ⟨t, rfl⟩ hdb, fun σ δ H A c s Q w => w _ H (Same.refl H) (.int n)⟩
end
theorem int_mid : ∀ n : Nat, n ≤ 1000 → (toString (n : Int) : Str).length ≤ 20 ∧ ((n : Int).natAbs.log2 < 1920) := by decide +kernel
theorem fmtJ_at {δ : DS} {m : DS → R D} {n : Nat} (h : m δ = .ok (.int n)) (hn : n ≤ 1000) : mFmt m δ = .ok (.str (toString (n : Int))) := by
  unfold mFmt; rw [h]
  show R.when (decide ((n : Int).natAbs.log2 < 1920)) _ = _
  rw [decide_eq_true (int_mid n hn).2]; rfl
end L2
namespace SL
open PySem PySem.Spec PyProof.Rows L2
/-! what is wrong first in a plan: 0 kind, 1 sources, 2 line, 3 delay, 4 size -/
def srcBad (lines s : Int) : Bool := decide (s < 0 ∨ lines ≤ s)
def gateErr (lines : Int) (g : Gate) : Option Nat :=
  match kindIx g.1 with
  | none => some 0
  | some i => if arOk i g.2.1.length = false then some 1 else if g.2.1.any (srcBad lines) = true then some 2 else if g.2.2 < 1 ∨ 60 < g.2.2 then some 3 else none
def planErr (mn : Int) (gs : List Gate) : Option Nat := if mn < 0 ∨ 60 < mn then some 4 else if 200 < gs.length then some 4 else gs.findSome? (gateErr (mn + gs.length))
/-- what can be told in a message -/
def gateTame (g : Gate) : Bool := fmtOk g.1 && decide (g.2.1.length ≤ 20)
def errR {α : Type} : Option Nat → R α → R α
  | some n, _ => .ex n
  | none, r => r
/-! loops that may raise -/
theorem loop_err {st : D → DS → R DS} {n : DS → R Out} (I : DS → Prop) (bad : D → Option Nat) : ∀ (xs : List D) (δ : DS), I δ →
    (∀ x ∈ xs, ∀ δ, I δ → ∃ δ1, st x δ = .ok δ1 ∧ ∃ δ2, (match bad x with | some e => n δ1 = .ok (.ex e δ2) | none => n δ1 = .ok (.nx δ2) ∧ I δ2)) →
    ∃ δ', (match xs.findSome? bad with | some e => loopM st n xs δ = .ok (.ex e δ') | none => loopM st n xs δ = .ok (.nx δ') ∧ I δ')
  | [], δ, h, _ => ⟨δ, loop_nil, h⟩
  | x :: xs, δ, h, s => by
    obtain ⟨δ1, h1, δ2, h2⟩ := s x List.mem_cons_self δ h
    rw [List.findSome?_cons]
    cases q : bad x with
    | some e =>
      rw [q] at h2
      refine ⟨δ2, ?_⟩
      show loopM st n (x :: xs) δ = _
      unfold loopM
      rw [h1]
      dsimp only
      rw [h2]
    | none =>
      rw [q] at h2
      obtain ⟨h3, h4⟩ := h2
      obtain ⟨δ', r⟩ := loop_err I bad xs δ2 h4 fun y hy => s y (List.mem_cons_of_mem _ hy)
      refine ⟨δ', ?_⟩
      dsimp only
      cases q2 : xs.findSome? bad with
      | some e =>
        rw [q2] at r
        show loopM st n (x :: xs) δ = _
        rw [loop_nx h1 h3]; exact r
      | none =>
        rw [q2] at r
        exact ⟨by rw [loop_nx h1 h3]; exact r.1, r.2⟩
theorem cutEx {m n : DS → R Out} {δ δ' : DS} {k : Nat} (h : m δ = .ok (.ex k δ')) : fin (mSeq m n δ) = .ex k := by
  rw [q_seq, h]; rfl
theorem cutExR {m n : DS → R Out} {δ δ' : DS} {k : Nat} (h : m δ = .ok (.ex k δ')) : mSeq m n δ = .ok (.ex k δ') := by
  rw [q_seq, h]; rfl
theorem find_map {α β γ : Type} (f : α → β) (g : β → Option γ) : ∀ xs : List α, (xs.map f).findSome? g = xs.findSome? (g ∘ f)
  | [] => rfl
  | x :: xs => by
    rw [List.map_cons, List.findSome?_cons, List.findSome?_cons, find_map f g xs]; rfl
/-! contracts -/
def g_wants : List D → R D
  | [.str z] => match kindIx z with
    | some i => .ok (.tuple [.int (lo i), .int (SL.hi i)])
    | none => R.when (fmtOk z) (.ex 0)
  | _ => .bad
def g_check : List D → R D
  | [.str z, .int n] => match kindIx z with
    | some i => if lo i ≤ n ∧ n ≤ SL.hi i then .ok .none else R.when (decide (0 ≤ n ∧ n ≤ 20)) (.ex 1)
    | none => R.when (fmtOk z) (.ex 0)
  | _ => .bad
def g_checkline : List D → R D
  | [.int s, .int n] => if s < 0 ∨ n ≤ s then R.when (decide (0 ≤ n ∧ n ≤ 1000)) (.ex 2) else .ok .none
  | _ => .bad
def g_checkgate : List D → R D
  | [d, .int n] => match toGate d with
    | some g => R.when (gateTame g && decide (0 ≤ n ∧ n ≤ 1000)) (errR (gateErr n g) (.ok .none))
    | none => .bad
  | _ => .bad
def toPlan : D → Option (Int × List Gate)
  | .tuple [.int mn, .list xs] => (gatesOf xs).map fun gs => (mn, gs)
  | _ => none
theorem toPlan_inv {d : D} {p : Int × List Gate} (h : toPlan d = some p) : d = planD p.1 p.2 := by
  unfold toPlan at h
  split at h
  · rename_i mn xs
    cases q : gatesOf xs with
    | none => rw [q] at h; cases h
    | some gs =>
      rw [q] at h
      cases h
      rw [gatesOf_inv q]; rfl
  · cases h
theorem toPlan_of (mn : Int) (gs : List Gate) : toPlan (planD mn gs) = some (mn, gs) := by
  show (gatesOf (gatesD gs)).map _ = _
  rw [gatesOf_of]; rfl
def planTame (mn : Int) (gs : List Gate) : Bool := decide (gs.length ≤ 1000) && gs.all gateTame
def g_checked : List D → R D
  | [d] => match toPlan d with
    | some (mn, gs) => R.when (planTame mn gs) (errR (planErr mn gs) (.ok (.int (mn + gs.length))))
    | none => .bad
  | _ => .bad
/-- what is refused, is refused so -/
def g_wrong : List D → R D
  | d :: _ => match toPlan d with
    | some (mn, gs) => R.when (planTame mn gs) (errR (planErr mn gs) .bad)
    | none => .bad
  | _ => .bad
theorem checked_ev {mn : Int} {gs : List Gate} (h : planTame mn gs = true) : g_checked [planD mn gs] = errR (planErr mn gs) (.ok (.int (mn + gs.length))) := by
  unfold g_checked
  dsimp only
  rw [toPlan_of]
  dsimp only
  rw [h]; rfl
/-! right plans -/
theorem gateOk_err {lines : Int} {g : Gate} (h : GateOk lines 60 g) : gateErr lines g = none := by
  obtain ⟨i, hi, hk, ha⟩ := h.kind
  unfold gateErr
  rw [hk, kd_ix i hi]
  dsimp only
  rw [if_neg (by rw [ha]; decide), if_neg, if_neg (by have := h.delay; omega)]
  intro q
  obtain ⟨s, hs, e⟩ := List.any_eq_true.mp q
  have := of_decide_eq_true e
  have := h.src s hs
  omega
theorem gateOk_tame {b most : Int} {g : Gate} (h : GateOk b most g) : gateTame g = true := by
  obtain ⟨i, hi, hk, ha⟩ := h.kind
  unfold gateTame
  rw [hk, kd_fmt i hi, decide_eq_true (by have := gate_small h; omega)]; rfl
theorem planOk_tame {mn most : Int} {gs : List Gate} (hl : gs.length ≤ 200) (h : PlanOk mn most gs) : planTame mn gs = true := by
  unfold planTame
  rw [decide_eq_true (by omega), Bool.true_and, List.all_eq_true]
  intro g hg
  obtain ⟨k, hk, e⟩ := List.mem_iff_getElem.mp hg
  exact gateOk_tame (h k g (by rw [← e]; exact List.getElem?_eq_getElem hk))
theorem planOk_err {mn : Int} {gs : List Gate} (h0 : 0 ≤ mn ∧ mn ≤ 60) (hl : gs.length ≤ 200) (h : PlanOk mn 60 gs) : planErr mn gs = none := by
  unfold planErr
  rw [if_neg (by omega), if_neg (by omega), List.findSome?_eq_none_iff]
  intro g hg
  obtain ⟨k, hk, e⟩ := List.mem_iff_getElem.mp hg
  exact gateOk_err (h k g (by rw [← e]; exact List.getElem?_eq_getElem hk))
/-! plans are equal to themselves -/
theorem lay_ints (ns : List Int) : PyData.canLayAll0 (intsOf ns) = true ∧ PyData.depthAll (intsOf ns) = 0 ∧ PyData.eqvAll (intsOf ns) (intsOf ns) = true := by
  induction ns with
  | nil => exact ⟨by simp only [intsOf, List.map_nil, PyData.canLayAll0], by simp only [intsOf, List.map_nil, PyData.depthAll], by simp only [intsOf, List.map_nil, PyData.eqvAll]⟩
  | cons b bs ih =>
    unfold intsOf at ih ⊢
    rw [List.map_cons]
    refine ⟨?_, ?_, ?_⟩
    · rw [PyData.canLayAll0, ih.1, PyData.canLay0]; rfl
    · rw [PyData.depthAll, ih.2.1, PyData.depth]; rfl
    · rw [PyData.eqvAll, ih.2.2, PyData.eqv]; simp
theorem lay_gate (g : Gate) (h : PyData.strOk g.1 = true) : PyData.canLay0 (gateD g) = true ∧ PyData.depth (gateD g) = 2 ∧ PyData.eqv (gateD g) (gateD g) = true := by
  have l := lay_ints g.2.1
  unfold gateD
  refine ⟨?_, ?_, ?_⟩
  · simp only [PyData.canLay0, PyData.canLayAll0, l.1, h, Bool.and_true]
  · simp only [PyData.depth, PyData.depthAll, l.2.1]; rfl
  · simp only [PyData.eqv, PyData.eqvAll, l.2.2]; simp
theorem lay_gates (gs : List Gate) (h : ∀ g ∈ gs, PyData.strOk g.1 = true) : PyData.canLayAll0 (gatesD gs) = true ∧ PyData.depthAll (gatesD gs) ≤ 2 ∧ PyData.eqvAll (gatesD gs) (gatesD gs) = true := by
  induction gs with
  | nil => exact ⟨by simp only [gatesD, List.map_nil, PyData.canLayAll0], by simp only [gatesD, List.map_nil, PyData.depthAll]; omega, by simp only [gatesD, List.map_nil, PyData.eqvAll]⟩
  | cons g gs ih =>
    have i := ih fun x hx => h x (List.mem_cons_of_mem _ hx)
    have l := lay_gate g (h g List.mem_cons_self)
    unfold gatesD at i ⊢
    rw [List.map_cons]
    refine ⟨?_, ?_, ?_⟩
    · rw [PyData.canLayAll0, i.1, l.1]; rfl
    · rw [PyData.depthAll, l.2.1]; omega
    · rw [PyData.eqvAll, i.2.2, l.2.2]; rfl
theorem lay_plan (mn : Int) (gs : List Gate) (h : ∀ g ∈ gs, PyData.strOk g.1 = true) : shp (planD mn gs) = true ∧ PyData.eqv (planD mn gs) (planD mn gs) = true := by
  have l := lay_gates gs h
  unfold planD
  refine ⟨?_, ?_⟩
  · unfold shp SeqAt.shaped
    simp only [PyData.canLay0, PyData.canLayAll0, PyData.depth, PyData.depthAll, l.1, Bool.and_true]
    have := l.2.1
    simp
    omega
  · simp only [PyData.eqv, PyData.eqvAll, l.2.2]; simp
theorem eq_plan (mn : Int) (gs : List Gate) (h : ∀ g ∈ gs, PyData.strOk g.1 = true) : gEq (planD mn gs) (planD mn gs) = .ok (.bool true) := by
  have l := lay_plan mn gs h
  unfold gEq
  rw [l.1, l.2]; rfl
theorem ne_plan (mn : Int) (gs : List Gate) (h : ∀ g ∈ gs, PyData.strOk g.1 = true) : gNe (planD mn gs) (planD mn gs) = .ok (.bool false) := by
  have l := lay_plan mn gs h
  unfold gNe
  rw [l.1, l.2]; rfl
theorem tame_str {g : Gate} (h : gateTame g = true) : PyData.strOk g.1 = true := by
  unfold gateTame at h
  rw [Bool.and_eq_true] at h
  have h1 := h.1
  unfold fmtOk at h1
  rw [Bool.and_eq_true] at h1
  exact h1.1
/-! the pieces of a check -/
theorem check_none {z : Str} {n : Int} (h : kindIx z = none) (hz : fmtOk z = true) : g_check [.str z, .int n] = .ex 0 := by
  unfold g_check; dsimp only; rw [h]; dsimp only; rw [hz]; rfl
theorem check_bad {z : Str} {i k : Nat} (h : kindIx z = some i) (ha : arOk i k = false) (hk : k ≤ 20) : g_check [.str z, .int (k : Int)] = .ex 1 := by
  unfold g_check; dsimp only; rw [h]; dsimp only
  rw [if_neg (of_decide_eq_false ha), decide_eq_true (by omega)]; rfl
theorem check_ok {z : Str} {i k : Nat} (h : kindIx z = some i) (ha : arOk i k = true) : g_check [.str z, .int (k : Int)] = .ok .none := by
  unfold g_check; dsimp only; rw [h]; dsimp only
  rw [if_pos (of_decide_eq_true ha)]
def lineBad (n : Int) : D → Option Nat
  | .int s => if srcBad n s = true then some 2 else none
  | _ => none
theorem line_ok {s n : Int} (h : srcBad n s = false) : g_checkline [.int s, .int n] = .ok .none := by
  unfold g_checkline; dsimp only; rw [if_neg (of_decide_eq_false h)]
theorem line_ex {s n : Int} (h : srcBad n s = true) (hn : 0 ≤ n ∧ n ≤ 1000) : g_checkline [.int s, .int n] = .ex 2 := by
  unfold g_checkline; dsimp only; rw [if_pos (of_decide_eq_true h), decide_eq_true hn]; rfl
theorem find_src (n : Int) : ∀ ss : List Int, (intsOf ss).findSome? (lineBad n) = if ss.any (srcBad n) = true then some 2 else none
  | [] => rfl
  | s :: ss => by
    have ih := find_src n ss
    unfold intsOf at ih ⊢
    rw [List.map_cons, List.findSome?_cons, ih, List.any_cons]
    rw [show lineBad n (.int s) = if srcBad n s = true then some 2 else none from rfl]
    cases srcBad n s <;> rfl
theorem mem_ints {x : D} {ss : List Int} (h : x ∈ intsOf ss) : ∃ s, s ∈ ss ∧ x = .int s := by
  obtain ⟨s, hs, rfl⟩ := List.mem_map.mp h
  exact ⟨s, hs, rfl⟩
def gateBad (n : Int) (d : D) : Option Nat := (toGate d).bind (gateErr n)
theorem find_gate (n : Int) : ∀ gs : List Gate, (gatesD gs).findSome? (gateBad n) = gs.findSome? (gateErr n)
  | [] => rfl
  | g :: gs => by
    have ih := find_gate n gs
    unfold gatesD at ih ⊢
    rw [List.map_cons, List.findSome?_cons, List.findSome?_cons, ih]
    have e : gateBad n (gateD g) = gateErr n g := by unfold gateBad; rw [toGate_of]; rfl
    rw [e]
theorem mem_gates {x : D} {gs : List Gate} (h : x ∈ gatesD gs) : ∃ g, g ∈ gs ∧ x = gateD g := by
  obtain ⟨s, hs, rfl⟩ := List.mem_map.mp h
  exact ⟨s, hs, rfl⟩
theorem gate_ev {n : Int} {g : Gate} (h : gateTame g = true) (hn : 0 ≤ n ∧ n ≤ 1000) : g_checkgate [gateD g, .int n] = errR (gateErr n g) (.ok .none) := by
  unfold g_checkgate
  dsimp only
  rw [toGate_of]
  dsimp only
  rw [h, decide_eq_true hn]; rfl
end SL
namespace SL
open PySem PySem.Spec PyProof.Rows L2
/-! errors' words -/
def tabE : Nat → Option Str := fun k => (["kind", "sources", "line", "delay", "size", "values", "ring", "deed", "text"] : List Str)[k]?
def pAll : Nat → Option Bool := fun k => if k < 9 then some true else none
theorem pAll_t {k : Nat} (h : k < 9) : pAll k = some true := if_pos h
theorem planErr_lt {mn : Int} {gs : List Gate} {e : Nat} (h : planErr mn gs = some e) : e < 5 := by
  unfold planErr at h
  split at h
  · cases h; decide
  · split at h
    · cases h; decide
    · obtain ⟨g, _, hg⟩ := List.exists_of_findSome?_eq_some h
      unfold gateErr at hg
      split at hg
      · cases hg; decide
      · split at hg
        · cases hg; decide
        · split at hg
          · cases hg; decide
          · split at hg
            · cases hg; decide
            · cases hg
/-! spoilt gates -/
def lft (i s : Nat) : Str := cutS (kd i) none (some (s : Int))
def rgt (i a : Nat) : Str := cutS (kd i) (some (a : Int)) none
def sgn (k : Nat) : Str := (["A", "Z", "q"] : List Str).getD k "A"
def oddK (k : Nat) : Str := (["", "and", "Not", "by"] : List Str).getD k ""
theorem kd_len : ∀ i, i < 9 → 0 < (kd i).length ∧ (kd i).length ≤ 6 := by decide +kernel
theorem lft_len : ∀ i, i < 9 → ∀ s, s < 6 → (lft i s).length ≤ 6 := by decide +kernel
theorem rgt_len : ∀ i, i < 9 → ∀ s, s < 7 → (rgt i s).length ≤ 6 := by decide +kernel
theorem sgn_len : ∀ k, k < 3 → (sgn k).length = 1 := by decide +kernel
theorem odd_bad : ∀ k, k < 4 → kindIx (oddK k) = none ∧ fmtOk (oddK k) = true := by decide +kernel
theorem mut_bad : ∀ i, i < 9 → ∀ s, s < (kd i).length → ∀ k, k < 3 → ∀ a, a < 2 → kindIx (lft i s ++ sgn k ++ rgt i (s + a)) = none ∧ fmtOk (lft i s ++ sgn k ++ rgt i (s + a)) = true := by decide +kernel
def kindW (i : Nat) (c : Int) : Str := if c / 4 % 2 = 1 then lft i (c / 8 % ((kd i).length : Int)).toNat ++ sgn (c % 3).toNat ++ rgt i ((c / 8 % ((kd i).length : Int)).toNat + (c / 8 % 2).toNat) else oddK (c % 4).toNat
theorem kindW_bad {i : Nat} (hi : i < 9) (c : Int) : kindIx (kindW i c) = none ∧ fmtOk (kindW i c) = true := by
  unfold kindW
  split
  · have hl := kd_len i hi
    have h3 : 0 ≤ c / 8 % ((kd i).length : Int) ∧ c / 8 % ((kd i).length : Int) < ((kd i).length : Int) := ⟨Int.emod_nonneg _ (by omega), Int.emod_lt_of_pos _ (by omega)⟩
    exact mut_bad i hi _ (by omega) _ (by omega) _ (by omega)
  · exact odd_bad _ (by omega)
def numW (i : Nat) (c : Int) : Int := if lo i ≤ c % 13 ∧ c % 13 ≤ SL.hi i then SL.hi i + 1 else c % 13
theorem numW_in {i : Nat} (c : Int) : 0 ≤ numW i c ∧ numW i c ≤ 12 ∧ arOk i (numW i c).toNat = false := by
  have h1 := hi_le i
  have h2 := lo_pos i
  have h3 := lo_hi i
  unfold numW
  split
  · exact ⟨by omega, by omega, decide_eq_false (by omega)⟩
  · rename_i h
    exact ⟨by omega, by omega, decide_eq_false (by omega)⟩
def farW (lines c : Int) : Int := if c % 4 = 0 then lines else if c % 4 = 1 then lines + 10 ^ 9 else if c % 4 = 2 then -1 else -1 - c % 10 ^ 9
theorem farW_bad {lines : Int} (h : 0 ≤ lines) (c : Int) : srcBad lines (farW lines c) = true := by
  unfold srcBad farW
  refine decide_eq_true ?_
  have : 0 ≤ c % 10 ^ 9 := Int.emod_nonneg _ (by decide)
  split
  · omega
  · split
    · omega
    · split <;> omega
def delW (c : Int) : Int := if c % 4 = 0 then 0 else if c % 4 = 1 then 61 else if c % 4 = 2 then -5 else 61 + c % 10 ^ 20
theorem delW_bad (c : Int) : delW c < 1 ∨ 60 < delW c := by
  unfold delW
  have : 0 ≤ c % 10 ^ 20 := Int.emod_nonneg _ (by decide)
  split
  · omega
  · split
    · omega
    · split <;> omega
def keepIf (g : Gate) : Gate := if g.2.1.length = 0 then ("keep", [0], g.2.2) else g
def spoilt (i : Nat) (g : Gate) (lines w c : Int) : Gate :=
  if w = 0 then (kindW i c, g.2.1, g.2.2)
  else if w = 1 then (g.1, (g.2.1 ++ List.replicate 13 0).take (numW i c).toNat, g.2.2)
  else if w = 2 then ((keepIf g).1, (keepIf g).2.1.take (c / 4 % ((keepIf g).2.1.length : Int)).toNat ++ [farW lines c] ++ (keepIf g).2.1.drop ((c / 4 % ((keepIf g).2.1.length : Int)).toNat + 1), g.2.2)
  else (g.1, g.2.1, delW c)
def worse (g : Gate) (lines w c : Int) : Gate :=
  if w < 3 ∧ c % 3 = 1 then (g.1, g.2.1, if c / 3 % 2 = 0 then 0 else 61)
  else if (w < 2 ∧ c % 3 = 2) ∧ 0 < g.2.1.length then (g.1, lines :: g.2.1.drop 1, g.2.2)
  else g
theorem err_kind {lines : Int} {g : Gate} (h : kindIx g.1 = none) : gateErr lines g = some 0 := by unfold gateErr; rw [h]
theorem err_num {lines : Int} {g : Gate} {i : Nat} (h : kindIx g.1 = some i) (ha : arOk i g.2.1.length = false) : gateErr lines g = some 1 := by unfold gateErr; rw [h]; dsimp only; rw [if_pos ha]
theorem err_line {lines : Int} {g : Gate} {i : Nat} (h : kindIx g.1 = some i) (ha : arOk i g.2.1.length = true) (hs : g.2.1.any (srcBad lines) = true) : gateErr lines g = some 2 := by
  unfold gateErr; rw [h]; dsimp only; rw [if_neg (by rw [ha]; decide), if_pos hs]
theorem err_delay {lines : Int} {g : Gate} {i : Nat} (h : kindIx g.1 = some i) (ha : arOk i g.2.1.length = true) (hs : g.2.1.any (srcBad lines) = false) (hd : g.2.2 < 1 ∨ 60 < g.2.2) : gateErr lines g = some 3 := by
  unfold gateErr; rw [h]; dsimp only; rw [if_neg (by rw [ha]; decide), if_neg (by rw [hs]; decide), if_pos hd]
theorem worse_one (g : Gate) (lines w c : Int) : (worse g lines w c).1 = g.1 ∧ (worse g lines w c).2.1.length = g.2.1.length ∧ (2 ≤ w → (worse g lines w c).2.1 = g.2.1) ∧ (3 ≤ w → worse g lines w c = g) := by
  unfold worse
  split
  · exact ⟨rfl, rfl, fun _ => rfl, fun h => by omega⟩
  · split
    · refine ⟨rfl, ?_, fun h => by omega, fun h => by omega⟩
      show (lines :: g.2.1.drop 1).length = _
      rw [List.length_cons, List.length_drop]; omega
    · exact ⟨rfl, rfl, fun _ => rfl, fun _ => rfl⟩
theorem spoilt_err {lines : Int} {g : Gate} {i : Nat} {w c e : Int} (hl : 0 ≤ lines) (hi : i < 9) (hk : g.1 = kd i) (ha : arOk i g.2.1.length = true) (hs : ∀ s ∈ g.2.1, 0 ≤ s ∧ s < lines) (hw : 0 ≤ w ∧ w ≤ 3) :
    gateErr lines (worse (spoilt i g lines w c) lines w e) = some w.toNat := by
  obtain ⟨w1, w2, w3, w4⟩ := worse_one (spoilt i g lines w c) lines w e
  have hki : kindIx g.1 = some i := by rw [hk]; exact kd_ix i hi
  rcases (by omega : w = 0 ∨ w = 1 ∨ w = 2 ∨ w = 3) with rfl | rfl | rfl | rfl
  · refine err_kind ?_
    rw [w1]
    show kindIx (kindW i c) = none
    exact (kindW_bad hi c).1
  · refine err_num (i := i) (by rw [w1]; exact hki) ?_
    rw [w2]
    obtain ⟨n1, n2, n3⟩ := numW_in (i := i) c
    show arOk i ((g.2.1 ++ List.replicate 13 0).take (numW i c).toNat).length = false
    rw [List.length_take, List.length_append, List.length_replicate, Nat.min_eq_left (by omega)]
    exact n3
  · have w3 := w3 (by decide)
    have hkeep : ∃ j, kindIx (keepIf g).1 = some j ∧ arOk j (keepIf g).2.1.length = true ∧ 0 < (keepIf g).2.1.length := by
      unfold keepIf
      by_cases h0 : g.2.1.length = 0
      · rw [if_pos h0]; exact ⟨2, (by decide +kernel : kindIx "keep" = some 2), (by decide +kernel : arOk 2 1 = true), Nat.one_pos⟩
      · rw [if_neg h0]; exact ⟨i, hki, ha, by omega⟩
    obtain ⟨j, j1, j2, j3⟩ := hkeep
    have hat : 0 ≤ c / 4 % ((keepIf g).2.1.length : Int) ∧ c / 4 % ((keepIf g).2.1.length : Int) < ((keepIf g).2.1.length : Int) := ⟨Int.emod_nonneg _ (by omega), Int.emod_lt_of_pos _ (by omega)⟩
    have el : (spoilt i g lines 2 c).2.1.length = (keepIf g).2.1.length := by
      show ((keepIf g).2.1.take (c / 4 % ((keepIf g).2.1.length : Int)).toNat ++ [farW lines c] ++ (keepIf g).2.1.drop ((c / 4 % ((keepIf g).2.1.length : Int)).toNat + 1)).length = _
      rw [List.length_append, List.length_append, List.length_take, List.length_drop, List.length_singleton]; omega
    refine err_line (i := j) (by rw [w1]; exact j1) (by rw [w2, el]; exact j2) ?_
    rw [w3]
    refine List.any_eq_true.mpr ⟨farW lines c, ?_, farW_bad hl c⟩
    show _ ∈ ((keepIf g).2.1.take (c / 4 % ((keepIf g).2.1.length : Int)).toNat ++ [farW lines c] ++ (keepIf g).2.1.drop ((c / 4 % ((keepIf g).2.1.length : Int)).toNat + 1))
    exact List.mem_append_left _ (List.mem_append_right _ (List.mem_singleton.mpr rfl))
  · have w4 := w4 (by decide)
    rw [w4]
    refine err_delay (i := i) hki ha ?_ (delW_bad c)
    rw [List.any_eq_false]
    intro s hs' q
    have := of_decide_eq_true q
    have := hs s hs'
    omega
theorem spoilt_tame {lines : Int} {g : Gate} {i : Nat} {w c e : Int} (hi : i < 9) (hk : g.1 = kd i) (ha : g.2.1.length ≤ 9) : gateTame (worse (spoilt i g lines w c) lines w e) = true := by
  obtain ⟨w1, w2, _⟩ := worse_one (spoilt i g lines w c) lines w e
  unfold gateTame
  rw [w1, w2, Bool.and_eq_true, decide_eq_true_eq]
  unfold spoilt
  split
  · exact ⟨(kindW_bad hi c).2, by show g.2.1.length ≤ 20; omega⟩
  · split
    · refine ⟨by show fmtOk g.1 = true; rw [hk]; exact kd_fmt i hi, ?_⟩
      show ((g.2.1 ++ List.replicate 13 0).take (numW i c).toNat).length ≤ 20
      have nw := (numW_in (i := i) c).2.1
      rw [List.length_take, List.length_append, List.length_replicate]; omega
    · split
      · have hkeep : fmtOk (keepIf g).1 = true ∧ (keepIf g).2.1.length ≤ 9 := by
          unfold keepIf
          split
          · exact ⟨(by decide +kernel : fmtOk "keep" = true), by show 1 ≤ 9; decide⟩
          · exact ⟨by rw [hk]; exact kd_fmt i hi, ha⟩
        refine ⟨hkeep.1, ?_⟩
        show ((keepIf g).2.1.take (c / 4 % ((keepIf g).2.1.length : Int)).toNat ++ [farW lines c] ++ (keepIf g).2.1.drop ((c / 4 % ((keepIf g).2.1.length : Int)).toNat + 1)).length ≤ 20
        rw [List.length_append, List.length_append, List.length_take, List.length_drop, List.length_singleton]; omega
      · exact ⟨by rw [show (g.1, g.2.1, delW c).1 = g.1 from rfl, hk]; exact kd_fmt i hi, by show g.2.1.length ≤ 20; omega⟩
theorem find_at {α β : Type} {f : α → Option β} {b : β} : ∀ (xs : List α) (k : Nat), (∀ j, j < k → ∀ x, xs[j]? = some x → f x = none) → (∃ x, xs[k]? = some x ∧ f x = some b) → xs.findSome? f = some b
  | [], _, _, h => by obtain ⟨x, e, _⟩ := h; cases e
  | x :: xs, 0, _, h => by
    obtain ⟨y, e, q⟩ := h
    cases e
    rw [List.findSome?_cons, q]
  | x :: xs, k + 1, h0, h => by
    rw [List.findSome?_cons, h0 0 (by omega) x rfl]
    exact find_at xs k (fun j hj y hy => h0 (j + 1) (by omega) y hy) h
end SL
namespace L2
open PySem PySem.Spec PyProof.Rows
/-! ## x in e: a list, a tuple, a sign in a text -/
def gInS (neg : Bool) : D → D → R D := fun x y => match x, y with
  | .str a, .str z => match a.cps.toList with
    | [c] => .ok (.bool (if neg = true then !decide (c ∈ z.cps.toList) else decide (c ∈ z.cps.toList)))
    | _ => .bad
  | _, _ => .bad
def gInA (neg : Bool) : D → D → R D := alt (gIn neg) (gInS neg)
def rInS2 (neg : Bool) : R2 := fun x y H Q => ∃ (c : Nat) (z : Str), x = .str ⟨#[c]⟩ ∧ y = .str z ∧ Q (.bl (if neg = true then !decide (c ∈ z.cps.toList) else decide (c ∈ z.cps.toList))) H
section
variable {X : Cx}
theorem op_inA : OpR X (compareOp .In) (rOr (rIn X.K false) (rInS2 false)) := op_in_seq.or op_in_sign
theorem op_notInA : OpR X (compareOp .NotIn) (rOr (rIn X.K true) (rInS2 true)) := op_notIn_seq.or op_notIn_sign
theorem dop_inS2 {neg : Bool} : DOp X (rInS2 neg) (gInS neg) := fun Y A H x y dx dy c hx hy Q w => by
  unfold gInS at w
  split at w
  · rename_i a z
    cases hx
    cases hy
    split at w
    · rename_i c e
      refine ⟨c, z, ?_, rfl, WpE.here (d := .bool _) w (.bl _)⟩
      have : a = ⟨#[c]⟩ := by
        cases a with
        | mk xs =>
          have e2 : xs = #[c] := by
            cases xs with
            | mk l => cases e; rfl
          rw [e2]
      rw [this]
    · exact w.elim
  · exact w.elim
theorem dop_inA {neg : Bool} : DOp X (rOr (rIn X.K neg) (rInS2 neg)) (gInA neg) := dop_in.or dop_inS2
end
theorem q_inA {neg : Bool} {x : D} {ds : List D} : gInA neg x (.list ds) = R.when (flatD x && ds.all flatD) (.ok (.bool (if neg then !ds.any fun y => PyData.eqv y x else ds.any fun y => PyData.eqv y x))) := by
  unfold gInA alt
  rw [show gIn neg x (.list ds) = R.when (flatD x && ds.all flatD) (.ok (.bool (if neg then !ds.any fun y => PyData.eqv y x else ds.any fun y => PyData.eqv y x))) from rfl]
  cases flatD x && ds.all flatD
  · cases x <;> rfl
  · rfl
theorem q_inAT {neg : Bool} {x : D} {ds : List D} : gInA neg x (.tuple ds) = R.when (flatD x && ds.all flatD) (.ok (.bool (if neg then !ds.any fun y => PyData.eqv y x else ds.any fun y => PyData.eqv y x))) := by
  unfold gInA alt
  rw [show gIn neg x (.tuple ds) = R.when (flatD x && ds.all flatD) (.ok (.bool (if neg then !ds.any fun y => PyData.eqv y x else ds.any fun y => PyData.eqv y x))) from rfl]
  cases flatD x && ds.all flatD
  · cases x <;> rfl
  · rfl
theorem any_str (z : Str) : ∀ zs : List Str, (zs.map PyData.str).any (fun y => PyData.eqv y (.str z)) = decide (z ∈ zs)
  | [] => rfl
  | y :: zs => by
    rw [List.map_cons, List.any_cons, any_str z zs, eqv_str]
    by_cases h : y = z
    · subst h; simp
    · have : ¬ z = y := fun q => h q.symm
      simp [h, this]
theorem all_flat_str : ∀ zs : List Str, (zs.map PyData.str).all flatD = true
  | [] => rfl
  | y :: zs => by rw [List.map_cons, List.all_cons, all_flat_str zs]; rfl
theorem in_strs (z : Str) (zs : List Str) : gInA false (.str z) (.list (zs.map PyData.str)) = .ok (.bool (decide (z ∈ zs))) := by
  rw [q_inA, all_flat_str, any_str]; rfl
theorem any_int (z : Int) : ∀ zs : List Int, (zs.map PyData.int).any (fun y => PyData.eqv y (.int z)) = decide (z ∈ zs)
  | [] => rfl
  | y :: zs => by
    rw [List.map_cons, List.any_cons, any_int z zs, eqv_int]
    by_cases h : y = z
    · subst h; simp
    · have : ¬ z = y := fun q => h q.symm
      simp [h, this]
theorem all_flat_int : ∀ zs : List Int, (zs.map PyData.int).all flatD = true
  | [] => rfl
  | y :: zs => by rw [List.map_cons, List.all_cons, all_flat_int zs]; rfl
theorem in_ints (z : Int) (zs : List Int) : gInA false (.int z) (.list (zs.map PyData.int)) = .ok (.bool (decide (z ∈ zs))) := by
  rw [q_inA, all_flat_int, any_int]; rfl
theorem notin_ints (z : Int) (zs : List Int) : gInA true (.int z) (.list (zs.map PyData.int)) = .ok (.bool (!decide (z ∈ zs))) := by
  rw [q_inA, all_flat_int, any_int]; rfl
theorem in_intsT (z : Int) (zs : List Int) : gInA false (.int z) (.tuple (zs.map PyData.int)) = .ok (.bool (decide (z ∈ zs))) := by
  rw [q_inAT, all_flat_int, any_int]; rfl
theorem notin_intsT (z : Int) (zs : List Int) : gInA true (.int z) (.tuple (zs.map PyData.int)) = .ok (.bool (!decide (z ∈ zs))) := by
  rw [q_inAT, all_flat_int, any_int]; rfl
/-! ## tuple * number -/
def gRepT : D → D → R D := fun x y => match x, y with
  | .tuple ds, .int k => R.when (!ds.isEmpty && decide (2 ≤ k ∧ k ≤ 1000 ∧ ds.length ≤ 1000)) (.ok (.tuple (List.replicate k.toNat ds).flatten))
  | _, _ => .bad
theorem dop_repT {X : Cx} : DOp X (rRepT X.K) gRepT := fun Y A H x y dx dy c hx hy Q w => by
  unfold gRepT at w
  split at w
  · rename_i ds k
    obtain ⟨hb, w⟩ := WpE.when w
    rw [Bool.and_eq_true] at hb
    obtain ⟨h0, hb⟩ := hb
    obtain ⟨b1, b2, b3⟩ := of_decide_eq_true hb
    obtain ⟨p, vs, rfl, h1, h2⟩ := dp_tup hx
    cases hy
    refine ⟨p, k, vs, rfl, rfl, sqT_same mask_le h1, fun e => ?_, b1, b2, by rw [h2.len]; exact b3, w.newT c (h2.flatRep k.toNat)⟩
    subst e
    cases h2
    cases h0
  · exact w.elim
theorem q_repT {ds : List D} {k : Int} : gRepT (.tuple ds) (.int k) = R.when (!ds.isEmpty && decide (2 ≤ k ∧ k ≤ 1000 ∧ ds.length ≤ 1000)) (.ok (.tuple (List.replicate k.toNat ds).flatten)) := (rfl)
theorem g_powI {i j : Int} : gPow (.int i) (.int j) = R.when (powOk i j) (.ok (.int (i ^ j.toNat))) := (rfl)
theorem at3_0 {α : Type} {x y z : α} : atI [x, y, z] 0 = some x := (rfl)
theorem at3_1 {α : Type} {x y z : α} : atI [x, y, z] 1 = some y := (rfl)
theorem at3_2 {α : Type} {x y z : α} : atI [x, y, z] 2 = some z := (rfl)
theorem at2_0 {α : Type} {x y : α} : atI [x, y] 0 = some x := (rfl)
theorem at2_1 {α : Type} {x y : α} : atI [x, y] 1 = some y := (rfl)
end L2
namespace SL
open PySem PySem.Spec PyProof.Rows L2
/-- nine entries with the kinds as keys, in their order -/
def Nine (es : List DictEntry) (v : Nat → Value) : Prop := es.length = 9 ∧ ∀ i, i < 9 → ∃ h t, es[i]? = some ⟨h, .str (kd i) t, v i⟩
theorem nine_at {K : PySem.W.Frag} {d : Addr} {es : Array DictEntry} {n : Nat} {v : Nat → Value} (l : K.lookup d = some ⟨.type "dict", none, .dict es n, #[]⟩) (e : Nine es.toList v) (z : Str) : PySem.W.nsIn K d z = some ((kindIx z).map v) := by
  obtain ⟨hl, e⟩ := e
  unfold PySem.W.nsIn
  rw [l]
  dsimp only
  have all : ∀ x ∈ es.toList, ∃ i h t, i < 9 ∧ x = ⟨h, .str (kd i) t, v i⟩ := fun x hx => by
    obtain ⟨i, hi, rfl⟩ := List.mem_iff_getElem.mp hx
    obtain ⟨h, t, q⟩ := e i (by omega)
    rw [List.getElem?_eq_getElem hi] at q
    exact ⟨i, h, t, by omega, Option.some.inj q⟩
  cases q : kindIx z with
  | some i =>
    have hi := ix_lt q
    obtain ⟨h, t, e1⟩ := e i hi
    cases f : es.toList.find? (·.key.isStr z) with
    | none =>
      have m := List.find?_eq_none.mp f ⟨h, .str (kd i) t, v i⟩ (List.mem_of_getElem? e1)
      exact absurd (show (kd i == z) = true from beq_iff_eq.mpr (kd_find q)) m
    | some x =>
      obtain ⟨j, h', t', hj, rfl⟩ := all x (List.mem_of_find?_eq_some f)
      have m := List.find?_some f
      have m2 : kd j = z := beq_iff_eq.mp (show (kd j == z) = true from m)
      have e2 : j = i := by
        have a := kd_ix j hj
        rw [m2, q] at a
        exact (Option.some.inj a).symm
      subst e2
      rfl
  | none =>
    have f : es.toList.find? (·.key.isStr z) = none := List.find?_eq_none.mpr fun x hx => by
      obtain ⟨j, h', t', hj, rfl⟩ := all x hx
      intro m
      exact kd_miss q j hj (beq_iff_eq.mp (show (kd j == z) = true from m))
    rw [f]
    dsimp only
    have r : es.toList.any (·.refKey) = false := by
      rw [List.any_eq_false]
      intro x hx
      obtain ⟨j, h', t', hj, rfl⟩ := all x hx
      intro m
      cases m
    rw [r]; rfl
def TwoAt (K : PySem.W.Frag) (p : Addr) (a b : Int) : Prop := ∃ (o : Obj) (t t' : Tok) (n : Nat), K.lookup p = some o ∧ o.cls = .type "tuple" ∧ o.data = .seq #[.int a t, .int b t'] n
theorem two_dp {K : PySem.W.Frag} {p : Addr} {a b : Int} (h : TwoAt K p a b) (H : Hp) : Dp K H (.ref p) (.tuple [.int a, .int b]) := by
  obtain ⟨o, t, t', n, h1, h2, h3⟩ := h
  exact .tup (xs := [.int a, .int b]) (.inr ⟨o, _, n, h1, h2, h3, Nat.le_trans (show 2 ≤ 1000 by decide) (Nat.le_of_lt (small1000 (Nat.le_refl _))), .cons (show RelV (.int a) (.int a t) from ⟨t, rfl⟩) (.cons (show RelV (.int b) (.int b t') from ⟨t', rfl⟩) .nil)⟩) (.cons (.int a) (.cons (.int b) .nil))
def spLaw (K : PySem.W.Frag) : Sp := fun vs H Q _ => ∃ (a : Addr) (ns : List Int), vs = [.ref a] ∧ SqL K H a (ns.map V.int) ∧ ns.length ≤ 63 ∧ ∀ H', Q (.bl true) H'
theorem dp_ints {K : PySem.W.Frag} {H : Hp} (ns : List Int) : DpAll K H (ns.map V.int) (ns.map PyData.int) := by
  induction ns with
  | nil => exact .nil
  | cons n ns ih => exact .cons (.int n) ih
theorem law_ok {P : Program} {w : World} {K : PySem.W.Frag} {mg : Str → Option Value} {base : Heap} {cv : Nat → Value} {k : Nat} {g : List D → R D} {f : Addr} {fd : FuncData} (F : FnOk P w K mg base (L2.CX P w) k f fd ["_law_script"] (SpD K cv g)) (hg : ∀ ns : List Int, ns.length ≤ 63 → g [.list (ns.map PyData.int)] = .ok (.bool true)) :
    FnOk P w K mg base (L2.CX P w) k f fd ["_law_script"] (spLaw K) := by
  refine F.imp fun vs H Q E ⟨a, ns, e, hs, hl, q⟩ => ⟨fun _ => False, [.list (ns.map PyData.int)], fun _ h => h.elim, ?_, ?_⟩
  · rw [e]
    exact .cons (.lst (by
      rcases hs with (hs | ⟨o, hs⟩) | hs
      · exact .inl (.inl (mask_some.mpr ⟨id, hs⟩))
      · exact .inl (.inr ⟨o, mask_some.mpr ⟨id, hs⟩⟩)
      · exact .inr hs) (dp_ints ns)) .nil
  · rw [hg ns hl]
    intro v H' s r
    cases r
    exact q H'

/-! the tables of kinds, as they stand -/
theorem tab_numbers {K : PySem.W.Frag} {w : World} {mg : Str → Option Value} {dN : Addr} {eN : Array DictEntry} {nN : Nat} {ps : Nat → Addr} (hm : mg "NUMBERS" = some (.ref dN)) (lN : K.lookup dN = some ⟨.type "dict", none, .dict eN nN, #[]⟩) (sN : (dN == sysModules) = false)
    (tN : PySem.W.KeysLit w.params eN.toList) (vN : Nine eN.toList (fun i => .ref (ps i))) (q : ∀ i, i < 9 → TwoAt K (ps i) (lo i) (SL.hi i)) : TabD K w mg "NUMBERS" tbN := by
  have nN := nine_at lN vN
  refine ⟨dN, eN, _, hm, ⟨lN, tN, sN⟩, fun z hz => ?_, fun z y hy => ?_⟩
  · unfold tbN at hz
    rw [nN z]
    cases q : kindIx z with
    | none => rfl
    | some i => rw [q] at hz; cases hz
  · unfold tbN at hy
    rw [nN z]
    cases q2 : kindIx z with
    | none => rw [q2] at hy; cases hy
    | some i =>
      rw [q2] at hy
      cases hy
      exact ⟨_, .ref (ps i), rfl, rfl, two_dp (q i (ix_lt q2))⟩
theorem tab_rules {P : Program} {w : World} {K : PySem.W.Frag} {mg : Str → Option Value} {base : Heap} {cv : Nat → Value} {dR : Addr} {eR : Array DictEntry} {nR : Nat} {ps : Nat → Addr} (hm : mg "RULES" = some (.ref dR)) (lR : K.lookup dR = some ⟨.type "dict", none, .dict eR nR, #[]⟩) (sR : (dR == sysModules) = false)
    (tR : PySem.W.KeysLit w.params eR.toList) (vR : Nine eR.toList (fun i => .ref (ps i))) (q : ∀ i, i < 9 → ∃ x, Has P w K mg base cv x ["given"] 1 (g_rule i) ∧ mg x = some (.ref (ps i))) : TabF P w K mg base cv "RULES" 1 tbR := by
  have nR := nine_at lR vR
  refine ⟨dR, eR, _, hm, ⟨lR, tR, sR⟩, fun z g hz => ?_⟩
  unfold tbR at hz
  rw [nR z]
  cases q2 : kindIx z with
  | none => rw [q2] at hz; cases hz
  | some i =>
    rw [q2] at hz
    cases hz
    obtain ⟨x, hh, hx⟩ := q i (ix_lt q2)
    obtain ⟨f', fd, F, m, kp, b⟩ := hh.ex
    rw [hx] at m
    cases m
    exact ⟨_, fd, _, rfl, F, kp, b⟩
end SL
namespace L2
open PySem PySem.Spec PyProof.Rows
/-! ## enumerate(list, start=k) -/
/-- nothing is left -/
theorem num_end {prog : Program} {w : World} {A : Around} {E : Value → Shared → Prop} {s : Shared} {e it l : Addr} {c : Int} {n : Nat} {zs : Array Value} {old : Value} {Q : Option Value → Shared → Prop} (hn : A.handled = none) (he : IsEnum s.heap e it c old)
    (hit : s.heap.IsListIter it l n) (hl : s.heap.IsList l zs) (hx : zs[n]? = none) (hQ : ∀ g, Heap.ExtBut it s.heap g → Q none { s with heap := g }) : wpAny (model prog w) A (pyNext (.ref e)) Q E s := by
  unfold pyNext
  have hT : s.TypeIs (.ref e) "enumerate" := ⟨_, he, rfl⟩
  refine wpAny_bind (wpAny_attempt (wpAny_callSpecial?_slot (name := Str.ofString "__next__") hT F.slot_enumerate_next (wpAny_call_entry F.slot_enumerate_next hT F.entry_enumerate_next ?_ (F.args_enumerate_next_1 _))))
  show wpAny _ _ (field (.ref e) 2 >>= _) _ _ s
  refine wpAny_bind (wpAny_field he rfl (x := .ref it) rfl (wpAny_bind (wpAny_nextOf_list_end hn hit hl hx fun g x q1 q2 => ?_)))
  obtain ⟨o2, ho2, hc2⟩ := q2
  exact wpAny_bind (wpAny_isInstance (T := "StopIteration") (b := true) ⟨o2, ho2, hc2⟩ isSubtype_stop (wpAny_pure (hQ _ q1)))
/-- the list at a as it stands, each item behind its number from k on, in a new pair -/
def ItN (K : PySem.W.Frag) (a : Addr) (k : Int) : It :=
  ⟨fun i H => ∃ (xs : List V) (x : V), SqL K H a xs ∧ xs[i]? = some x, fun i H v H' => ∃ T x, v = .ref T ∧ H T = none ∧ H' = upd H T (.tup [.int (k + (i : Nat)), x]) ∧ ∀ xs, SqL K H a xs → xs[i]? = some x, fun i H => ∃ xs : List V, SqL K H a xs ∧ xs.length ≤ i⟩
theorem turn_num {P : Program} {w : World} {K : PySem.W.Frag} {elts : List Expr} {kk : Nat} {tpos : Pos} (a e it : Addr) (k : Int) :
    Turn P w K (.Tuple elts kk tpos) (ItN K a k) [e, it] e (fun i h => (∃ old, IsEnum h e it (k + ((i : Nat) : Int)) old) ∧ h.IsListIter it a i ∧ e ≠ it) where
  mem := by simp
  obj := fun i h st b hb => by
    obtain ⟨⟨old, he⟩, ⟨o, ho, hc, hd⟩, _⟩ := st
    have two : b = e ∨ b = it := by simpa using hb
    rcases two with z | z
    · rw [z]; exact ⟨_, he, fun v q => nomatch q⟩
    · rw [z]; exact ⟨o, ho, fun v q => by rw [hd] at q; cases q⟩
  keep := fun i h h' st kp => let ⟨⟨old, he⟩, hi, hne⟩ := st; ⟨⟨old, kp e (by simp) _ he⟩, hi.at fun o q => kp it (by simp) o q, hne⟩
  item := by
    intro X hP hw hK hc i pins s σ H E I hf st hg
    subst hP hw hK
    obtain ⟨⟨old, he⟩, hit, hne⟩ := st
    obtain ⟨xs, x, hq, hx⟩ := hg
    obtain ⟨its, rv, p, hz⟩ := I.list hq
    obtain ⟨u, hu, ru⟩ := rv.get hx
    have hel : e < s.heap.objs.size := Heap.lt_size he
    have hil : it < s.heap.objs.size := by obtain ⟨_, q, _⟩ := hit; exact Heap.lt_size q
    have hat : a ≠ it := fun z => by
      obtain ⟨o, ho, hcl, _⟩ := hit
      obtain ⟨o2, ho2, hcl2, _⟩ := p.isList
      rw [z] at ho2
      rw [ho] at ho2
      cases ho2
      rw [hcl] at hcl2
      simp at hcl2
    have hae : e ≠ a := fun z => by
      obtain ⟨o2, ho2, hcl2, _⟩ := p.isList
      have he2 := he
      unfold IsEnum at he2
      rw [z, ho2] at he2
      cases he2
      simp at hcl2
    have hef : e ∉ [it, a] := by simp [hne, hae]
    have D := Draws.list (prog := X.prog) (w := X.w) (A := X.A.in1) (I.ok.hd hc) it a hat its.toArray
    have hlt : i < its.toArray.size := by
      have := (List.getElem?_eq_some_iff.mp hu).1
      simpa using this
    refine wpAny_pyNext_enum_itemC D he ⟨hit, p.isList⟩ hlt hne hef fun x' h' tk hPx ho hst' hT hsz hk => ?_
    have ex : x' = u := by
      have h1 : its.toArray[i]? = some u := by simpa using hu
      have h2 : its.toArray[i]? = some x' := hPx
      rw [h1] at h2
      exact (Option.some.inj h2).symm
    subst ex
    refine ⟨_, rfl, wpAny_letOwnedTupleGo_enum (s := { s with heap := h', toks := tk + 1 }) ho fun h'' he' sb => ?_⟩
    have hT2 : h''.get? s.heap.objs.size = some { cls := .type "tuple", data := .seq #[.int (k + ((i : Nat) : Int)) tk, x'] } := (sb.2 _ (Nat.ne_of_gt hel)).trans hT
    have new : ObjOk X.prog X.w (upd H s.heap.objs.size (.tup [.int (k + (i : Nat)), x])) h'' s.heap.objs.size (.tup [.int (k + (i : Nat)), x]) :=
      ⟨by show 2 ≤ sizeLine; decide, [.int (k + ((i : Nat) : Int)) tk, x'], .cons ⟨_, rfl⟩ (.cons ru .nil), ⟨_, hT2, rfl, _, rfl⟩⟩
    have I1 : Inv X pins σ (upd H s.heap.objs.size (.tup [.int (k + (i : Nat)), x])) { s with heap := h'', toks := tk + 1 } :=
      I.turnedNew (ch := [e, it]) (fun b ob hb q => (sb.2 b (fun z => hb (by simp [z]))).trans (hk b ob (fun z => hb (by simp [z])) (fun z => hb (by simp [z])) q)) hf (Nat.le_refl _) new
    refine ⟨.ref s.heap.objs.size, _, I1, rfl, ⟨_, x, rfl, I.hok.fresh (Nat.le_refl _), rfl, fun ys hy => by rw [I.list_inj hy hq]; exact hx⟩, ⟨⟨x', ?_⟩, hst'.1.at fun o q => (sb.2 it (Ne.symm hne)).trans q, hne⟩, fun b hb => ?_⟩
    · have e1 : k + ((i + 1 : Nat) : Int) = k + (i : Int) + 1 := by omega
      rw [e1]; exact he'
    · have hb' : b < s.heap.objs.size := by
        have two : b = e ∨ b = it := by simpa using hb
        rcases two with z | z
        · rw [z]; exact hel
        · rw [z]; exact hil
      rw [upd_ne (Nat.ne_of_lt hb')]
      exact (hf b hb).1
  done := by
    intro X hP hw hK hc i pins s σ H E I hf st hg
    subst hP hw hK
    obtain ⟨⟨old, he⟩, hit, hne⟩ := st
    obtain ⟨xs, hq, hx⟩ := hg
    obtain ⟨its, rv, p, hz⟩ := I.list hq
    obtain ⟨f0, f1, f2, f3, f4, f5⟩ := hf it (by simp)
    have hl := rv.length
    exact num_end (I.ok.hd hc) he hit p.isList (by simp; omega) fun h' eb => ⟨rfl, I.turned (t' := s.toks) (fun b o hb q => eb b o hb q) f0 f1 f3 f4 f5⟩
  self := fun A i s Q E st h => let ⟨⟨_, he⟩, _⟩ := st; wpAny_pyIter_enum he h
def iNum (K : PySem.W.Frag) (ta tk : TE) : TI := fun σ H R => tCons ta tNil σ H fun vs H1 => tCons tk tNil σ H1 fun us H2 => ∃ a xs k, vs = [.ref a] ∧ us = [.int k] ∧ SqL K H2 a xs ∧ -(2 ^ 62) ≤ k ∧ k < 2 ^ 62 ∧ R (ItN K a k) H2
def iNum0 (K : PySem.W.Frag) (ta : TE) : TI := fun σ H R => tCons ta tNil σ H fun vs H1 => ∃ a xs, vs = [.ref a] ∧ SqL K H1 a xs ∧ R (ItN K a 0) H1
section
variable {X : Cx} {e k : Expr} {ta tk : TE} {p pos kpos tpos : Pos} {elts : List Expr} {kk : Nat}
/-- two cells are laid: the list's iterator, the counter -/
theorem num_begun {pins : List (Addr × Obj)} {σ : St} {H1 : Hp} {s1 : Shared} {R : It → Hp → Prop} {a : Addr} {c : Int} {h' : Heap} (I1 : Inv X pins σ H1 s1) (he : IsEnum h' (s1.heap.objs.size + 1) s1.heap.objs.size c .none) (hit : h'.IsListIter s1.heap.objs.size a 0)
    (hk : ∀ b o, s1.heap.get? b = some o → h'.get? b = some o) (q : R (ItN X.K a c) H1) : wpAny (model X.prog X.w) X.A (pyIter (.ref (s1.heap.objs.size + 1))) (PIE X pins σ (.Tuple elts kk tpos) R) X.xe { s1 with heap := h' } := by
  refine wpAny_pyIter_enum he ?_
  have I2 : Inv X pins σ H1 { s1 with heap := h' } := I1.kept (t' := s1.toks) hk
  have he0 : IsEnum h' (s1.heap.objs.size + 1) s1.heap.objs.size (c + ((0 : Nat) : Int)) .none := by
    rw [show c + ((0 : Nat) : Int) = c by omega]; exact he
  refine ⟨s1.heap.objs.size + 1, [s1.heap.objs.size + 1, s1.heap.objs.size], _, _, H1, rfl, I2, turn_num a (s1.heap.objs.size + 1) s1.heap.objs.size c, ⟨⟨.none, he0⟩, hit, Nat.succ_ne_self _⟩, fun b hb => ?_, q⟩
  have two : b = s1.heap.objs.size + 1 ∨ b = s1.heap.objs.size := by simpa using hb
  have hle : s1.heap.objs.size ≤ b := by
    rcases two with z | z
    · rw [z]; exact Nat.le_add_right _ _
    · rw [z]; exact Nat.le_refl _
  exact I1.fpOk hle (I1.hok.fresh hle)
theorem pi_numS (hg : Gl X "enumerate") (hm : X.mg "enumerate" = none) (ha : PE X e ta) (hk : PE X k tk) (hs : starEach [e] X.env = [(false, eval e X.env)] := by rfl) :
    PI X (.Tuple elts kk tpos) (.Call (.Name "enumerate" p) [e] [⟨some "start", k, kpos⟩] pos) (iNum X.K ta tk) := by
  refine ⟨fun pins s σ H R I h => ?_⟩
  refine wpAny_Call_Name_kw (ld_blt I hg hm PyProof.Rows.boot_enumerate ?_)
  refine PySem.W.callWith_of (P := fun _ => True) (by rw [hs]; rfl) (fun h _ => ⟨.machine, .inr (.inl rfl), fun A Q E s _ q => wpAny_pure q⟩) (evalArgs_kw2 (by rfl) (thn ((pa_cons ha pa_nil hs).run pos pins s σ H _ I h) fun us s1 ⟨vs, H1, I1, r1, q1⟩ => ?_) hs)
  refine thn ((pk_cons hk pk_nil).run pos pins s1 σ H1 _ I1 q1) fun ks s2 ⟨zs, H2, I2, r2, q2⟩ => ⟨trivial, ?_⟩
  obtain ⟨a, xs, c, rfl, rfl, hq, b1, b2, q⟩ := q2
  cases r1 with
  | cons r rr =>
    cases rr
    cases r
    cases r2 with
    | cons r' rr' =>
      cases rr'
      obtain ⟨t, rfl⟩ := r'
      obtain ⟨its, rv, p', hz⟩ := I2.list hq
      exact enum_begins_start (begins_list a its.toArray) p'.isList (by omega) (by omega) fun h' he ho hsz hk => num_begun I2 he ⟨_, ho, rfl, rfl⟩ hk q
theorem pi_num0 (hg : Gl X "enumerate") (hm : X.mg "enumerate" = none) (ha : PE X e ta) (hs : starEach [e] X.env = [(false, eval e X.env)] := by rfl) : PI X (.Tuple elts kk tpos) (.Call (.Name "enumerate" p) [e] [] pos) (iNum0 X.K ta) := by
  refine ⟨fun pins s σ H R I h => ?_⟩
  refine Call_ (ld_blt I hg hm PyProof.Rows.boot_enumerate (PyProof.Rows.callWith_type1 (thn ((pa_cons ha pa_nil hs).run pos pins s σ H _ I h) fun us s1 ⟨vs, H1, I1, r1, a, xs, ex, hq, q⟩ => ?_) hs rfl))
  subst ex
  cases r1 with
  | cons r rr =>
    cases rr
    cases r
    obtain ⟨its, rv, p', hz⟩ := I1.list hq
    exact call_enumerate_list p'.isList fun h' he hit hsz hk => num_begun (c := 0) I1 he hit hk q
theorem for_num {K : PySem.W.Frag} {a : Addr} {c : Int} {xs : List V} {g : TG} {tb : TS} {D : Ends} {σ : St} {H : Hp} (Pv : Nat → St → Hp → Prop) (h0 : Pv 0 σ H) (hl : ∀ i σ H, i ≤ xs.length → Pv i σ H → SqL K H a xs)
    (hs : ∀ i x σ H p, xs[i]? = some x → Pv i σ H → H p = none → g (.ref p) σ (upd H p (.tup [.int (c + (i : Nat)), x])) fun σ2 H2 => tb { D with nx := Pv (i + 1), ct := Pv (i + 1), bk := D.nx } σ2 H2) (hd : ∀ σ H, Pv xs.length σ H → D.nx σ H) :
    ∃ W : Nat → Nat → St → Hp → Prop, (∃ m, W 0 m σ H) ∧ ∀ i m σ H, W i m σ H →
      ((ItN K a c).stop i H ∧ D.nx σ H) ∨ ((ItN K a c).go i H ∧ ∃ N : St → Hp → Prop, (∀ σ' H', N σ' H' → ∃ m', m' < m ∧ W (i + 1) m' σ' H') ∧ ∀ x H', (ItN K a c).yld i H x H' → g x σ H' fun σ2 H2 => tb { D with nx := N, ct := N, bk := D.nx } σ2 H2) := by
  refine ⟨fun i m σ H => m = xs.length - i ∧ i ≤ xs.length ∧ Pv i σ H, ⟨xs.length, rfl, Nat.zero_le _, h0⟩, ?_⟩
  rintro i m σ H ⟨rfl, hi, p⟩
  have q := hl i σ H hi p
  by_cases hlt : i < xs.length
  · refine .inr ⟨⟨xs, xs[i], q, List.getElem?_eq_getElem hlt⟩, Pv (i + 1), fun σ' H' p' => ⟨xs.length - (i + 1), by omega, rfl, hlt, p'⟩, fun v H' y => ?_⟩
    obtain ⟨T, x, rfl, hT, rfl, hx⟩ := y
    exact hs i x σ H T (hx xs q) p hT
  · have e : i = xs.length := by omega
    subst e
    exact .inl ⟨⟨xs, q, Nat.le_refl _⟩, hd σ H p⟩
end
end L2
namespace PySem
namespace F
theorem hq_kind_pop : builtinKind "_heapq.heappop" = none := by decide +kernel
theorem hq_kind_push : builtinKind "_heapq.heappush" = none := by decide +kernel
theorem hq_plain_pop : plainId "_heapq.heappop" = true := by decide +kernel
theorem hq_plain_push : plainId "_heapq.heappush" = true := by decide +kernel
theorem hq_plain_sift : plainId "_heapq.heapify.sift" = true := by decide +kernel
theorem hq_entry_pop : entryFor table "_heapq.heappop" = some Builtin.«_heapq.heappop» := entryFor_of_fast (by kernel_rfl)
theorem hq_entry_push : entryFor table "_heapq.heappush" = some Builtin.«_heapq.heappush» := entryFor_of_fast (by kernel_rfl)
theorem hq_entry_sift : entryFor table "_heapq.heapify.sift" = some Builtin.«_heapq.heapify.sift» := entryFor_of_fast (by kernel_rfl)
theorem hq_args_pop (a : Value) : argsOk "_heapq.heappop" ⟨[a], []⟩ := by unfold argsOk; kernel_rfl
theorem hq_args_push (a b : Value) : argsOk "_heapq.heappush" ⟨[a, b], []⟩ := by unfold argsOk; kernel_rfl
end F
def swp (xs : List Int) (i j : Nat) : List Int := (xs.set i (xs.getD j 0)).set j (xs.getD i 0)
def hqSift : Nat → Bool → Nat → Nat → List Int → Option (List Int)
  | 0, _, _, _, _ => none
  | n + 1, true, p, top, xs => if p < xs.length / 2 then (if 2 * p + 1 + 1 < xs.length ∧ ¬ xs.getD (2 * p + 1) 0 < xs.getD (2 * p + 1 + 1) 0 then hqSift n true (2 * p + 1 + 1) top (swp xs (2 * p + 1 + 1) p) else hqSift n true (2 * p + 1) top (swp xs (2 * p + 1) p)) else hqSift n false p top xs
  | n + 1, false, p, top, xs => if top < p then (if xs.getD p 0 < xs.getD ((p - 1) / 2) 0 then hqSift n false ((p - 1) / 2) top (swp xs ((p - 1) / 2) p) else some xs) else some xs
structure IA (xs : List Int) (its : Array Value) : Prop where
  len : its.size = xs.length
  at_ : ∀ (i : Nat) (x : Int), xs[i]? = some x → ∃ t, its[i]? = some (Value.int x t)
theorem IA.set {xs : List Int} {its : Array Value} (h : IA xs its) (i : Nat) (x : Int) (t : Tok) : IA (xs.set i x) (its.setIfInBounds i (Value.int x t)) := by
  refine ⟨by rw [Array.size_setIfInBounds, List.length_set]; exact h.len, fun j y e => ?_⟩
  rw [Array.getElem?_setIfInBounds]
  by_cases hj : i = j
  · subst hj
    have hl : i < xs.length := by
      have := (List.getElem?_eq_some_iff.mp e).1
      rw [List.length_set] at this; exact this
    rw [List.getElem?_set_self hl] at e
    cases e
    rw [if_pos rfl, if_pos (by rw [h.len]; exact hl)]
    exact ⟨t, rfl⟩
  · rw [List.getElem?_set_ne hj] at e
    rw [if_neg hj]
    exact h.at_ j y e
theorem IA.get {xs : List Int} {its : Array Value} (h : IA xs its) {i : Nat} (hi : i < xs.length) : ∃ t, its[i]? = some (Value.int (xs.getD i 0) t) := by
  refine h.at_ i _ ?_
  rw [List.getD_eq_getElem?_getD, List.getElem?_eq_getElem hi]; rfl
theorem swp_len (xs : List Int) (i j : Nat) : (swp xs i j).length = xs.length := by unfold swp; rw [List.length_set, List.length_set]
section
variable {M : Model} {A : Around} {E : Value → Shared → Prop} {s : Shared}
theorem hq_at {its : Array Value} {k : Nat} {v : Value} {m : String} (e : its[k]? = some v) {Q : Value → Shared → Prop} (q : Q v s) : wpAny M A (match its[k]? with
    | some v => pure v
    | none => unsupported m) Q E s := by
  rw [e]; exact wpAny_pure q
end
section
variable {prog : Program} {w : World} {A : Around} {R : Result → Shared → Prop}
/-- two items change places -/
theorem swap_run {M : Model} {A : Around} {E : Value → Shared → Prop} {s : Shared} {a : Addr} {xs : List Int} {its : Array Value} {c i j : Nat} (hi : IA xs its) (hz : xs.length ≤ 1000) (h1 : i < xs.length) (h2 : j < xs.length)
    (hs : s.heap.get? a = some { cls := .type "list", dict := none, data := .seq its c, slots := #[] }) {Q : Unit → Shared → Prop}
    (h : ∀ its' c' h', IA (swp xs i j) its' → h'.get? a = some { cls := .type "list", dict := none, data := .seq its' c', slots := #[] } → (∀ b o, b ≠ a → s.heap.get? b = some o → h'.get? b = some o) → Q () { s with heap := h' })
    {t1 t2 : Tok} : wpAny M A (updateSeq a fun zs => (zs.setIfInBounds i (Value.int (xs.getD j 0) t2)).setIfInBounds j (Value.int (xs.getD i 0) t1)) Q E s := by
  have hsz : its.size = xs.length := hi.len
  have big : (1000 : Nat) ≤ sizeLine := by decide
  refine wpAny_updateSeq hs rfl (h _ _ _ ((hi.set i _ t2).set j _ t1) (Heap.get?_update_self _ hs rfl) fun b o hb e => (Heap.get?_update_other _ _ (Ne.symm hb)).trans e) (by omega) ?_
  rw [Array.size_setIfInBounds, Array.size_setIfInBounds]
  omega
theorem sift_run (a : Addr) (res : Value) : ∀ (n : Nat) (down : Bool) (p top : Nat) (xs ys : List Int) (its : Array Value) (c : Nat) (s : Shared), hqSift n down p top xs = some ys → xs.length ≤ 1000 → p < xs.length → IA xs its →
    s.heap.get? a = some { cls := .type "list", dict := none, data := .seq its c, slots := #[] } →
    (∀ its' c' h' tk, IA ys its' → h'.get? a = some { cls := .type "list", dict := none, data := .seq its' c', slots := #[] } → (∀ b o, b ≠ a → s.heap.get? b = some o → h'.get? b = some o) → R (.ok (.ret res)) { s with heap := h', toks := tk }) →
    codeAny (model prog w) A (.builtin "_heapq.heapify.sift" ⟨[.ref a, .bool false, .bool down, rawInt p, rawInt top, res, rawInt (-1)], []⟩) R s := by
  intro n
  induction n with
  | zero => intro down p top xs ys its c s h; cases h
  | succ n ih =>
    intro down p top xs ys its c s h hz hp hi hs hR
    refine codeAny_builtin F.hq_entry_sift ?_
    rw [Around.under_plainId F.hq_plain_sift _]
    show wpAny _ A.in1 (seqItems? (.ref a) >>= _ >>= _) _ _ s
    refine wpAny_bind (wpAny_bind (wpAny_seqItems hs rfl ?_))
    refine wpAny_pure ?_
    simp only [Int.toNat_natCast]
    have hsz : its.size = xs.length := hi.len
    cases down with
    | false =>
      simp only [Bool.false_eq_true, if_false]
      unfold hqSift at h
      by_cases h1 : top < p
      · rw [if_pos h1] at h
        rw [if_pos (show p > top from h1)]
        obtain ⟨t1, e1⟩ := hi.get hp
        obtain ⟨t2, e2⟩ := hi.get (i := (p - 1) / 2) (by omega)
        refine wpAny_bind (hq_at e1 (wpAny_bind (hq_at e2 (wpAny_bind ?_))))
        show wpAny _ _ (holding [Value.int (xs.getD p 0) t1, Value.int (xs.getD ((p - 1) / 2) 0) t2] (richCompare .Lt (Value.int (xs.getD p 0) t1) (Value.int (xs.getD ((p - 1) / 2) 0) t2) >>= truthOfDropped) >>= _) _ _ s
        refine wpAny_bind (wpAny_holding (wpAny_bind (HT.rcLt_int A.in1 s _ t1 _ t2 prog w _ _ ?_)))
        show wpAny _ _ (truthy (Value.bool (decide (xs.getD p 0 < xs.getD ((p - 1) / 2) 0)))) _ _ s
        refine wpAny_truthy_bool ?_
        refine wpAny_bind (wpAny_bind (wpAny_seqItems hs rfl ?_))
        refine wpAny_pure ?_
        have e0 : (its.size != its.size) = false := by simp
        simp only [e0, Bool.false_eq_true, if_false]
        refine wpAny_pure ?_
        by_cases h2 : xs.getD p 0 < xs.getD ((p - 1) / 2) 0
        · rw [if_pos h2] at h
          rw [decide_eq_true h2, if_pos rfl]
          refine wpAny_bind ?_
          show wpAny _ _ ((seqItems? (.ref a) >>= _) >>= _) _ _ s
          refine wpAny_bind (wpAny_bind (wpAny_seqItems hs rfl (wpAny_pure ?_)))
          refine wpAny_bind (hq_at e2 (wpAny_bind (hq_at e1 ?_)))
          refine swap_run hi hz (i := (p - 1) / 2) (j := p) (by omega) hp hs fun its' c' h' i' g' k' => ?_
          refine wpAny_pure ⟨plainId_quiet F.hq_plain_sift _, ih false ((p - 1) / 2) top _ ys its' c' _ h (by rw [swp_len]; exact hz) (by rw [swp_len]; omega) i' g' fun its2 c2 h2 tk i2 g2 k2 => ?_⟩
          exact hR its2 c2 h2 tk i2 g2 fun b o hb e => k2 b o hb (k' b o hb e)
        · rw [if_neg h2] at h
          rw [decide_eq_false h2, if_neg Bool.false_ne_true]
          cases h
          show wpAny _ _ (ret res) _ _ s
          exact wpAny_pure (hR its c s.heap s.toks hi hs fun _ _ _ e => e)
      · rw [if_neg h1] at h
        rw [if_neg (show ¬ p > top from h1)]
        cases h
        show wpAny _ _ (ret res) _ _ s
        exact wpAny_pure (hR its c s.heap s.toks hi hs fun _ _ _ e => e)
    | true =>
      simp only [if_true]
      unfold hqSift at h
      by_cases h1 : p < xs.length / 2
      · rw [if_pos h1] at h
        rw [if_pos (show p < its.size / 2 by rw [hsz]; exact h1)]
        by_cases h2 : 2 * p + 1 + 1 < xs.length
        · rw [if_pos (show 2 * p + 1 + 1 < its.size by rw [hsz]; exact h2)]
          obtain ⟨t1, e1⟩ := hi.get (i := 2 * p + 1) (by omega)
          obtain ⟨t2, e2⟩ := hi.get (i := 2 * p + 1 + 1) h2
          refine wpAny_bind (hq_at e1 (wpAny_bind (hq_at e2 ?_)))
          rw [if_neg Bool.false_ne_true]
          refine wpAny_bind ?_
          show wpAny _ _ (holding [Value.int (xs.getD (2 * p + 1) 0) t1, Value.int (xs.getD (2 * p + 1 + 1) 0) t2] (richCompare .Lt (Value.int (xs.getD (2 * p + 1) 0) t1) (Value.int (xs.getD (2 * p + 1 + 1) 0) t2) >>= truthOfDropped) >>= _) _ _ s
          refine wpAny_bind (wpAny_holding (wpAny_bind (HT.rcLt_int A.in1 s _ t1 _ t2 prog w _ _ ?_)))
          show wpAny _ _ (truthy (Value.bool (decide (xs.getD (2 * p + 1) 0 < xs.getD (2 * p + 1 + 1) 0)))) _ _ s
          refine wpAny_truthy_bool ?_
          refine wpAny_bind (wpAny_bind (wpAny_seqItems hs rfl ?_))
          refine wpAny_pure ?_
          have e0 : (its.size != its.size) = false := by simp
          simp only [e0, Bool.false_eq_true, if_false]
          refine wpAny_pure ?_
          by_cases h3 : xs.getD (2 * p + 1) 0 < xs.getD (2 * p + 1 + 1) 0
          · rw [if_neg (fun z => z.2 h3)] at h
            rw [decide_eq_true h3, if_neg (by decide)]
            refine wpAny_bind ?_
            show wpAny _ _ ((seqItems? (.ref a) >>= _) >>= _) _ _ s
            refine wpAny_bind (wpAny_bind (wpAny_seqItems hs rfl (wpAny_pure ?_)))
            obtain ⟨tc, ec⟩ := hi.get (i := 2 * p + 1) (by omega)
            obtain ⟨tp, ep⟩ := hi.get hp
            refine wpAny_bind (hq_at ec (wpAny_bind (hq_at ep ?_)))
            refine swap_run hi hz (i := 2 * p + 1) (j := p) (by omega) hp hs fun its' c' h' i' g' k' => ?_
            refine wpAny_pure ⟨plainId_quiet F.hq_plain_sift _, ih true (2 * p + 1) top _ ys its' c' _ h (by rw [swp_len]; exact hz) (by rw [swp_len]; omega) i' g' fun its2 c2 h2 tk i2 g2 k2 => ?_⟩
            exact hR its2 c2 h2 tk i2 g2 fun b o hb e => k2 b o hb (k' b o hb e)
          · rw [if_pos ⟨h2, h3⟩] at h
            rw [decide_eq_false h3, if_pos (by decide)]
            refine wpAny_bind ?_
            show wpAny _ _ ((seqItems? (.ref a) >>= _) >>= _) _ _ s
            refine wpAny_bind (wpAny_bind (wpAny_seqItems hs rfl (wpAny_pure ?_)))
            obtain ⟨tc, ec⟩ := hi.get (i := 2 * p + 1 + 1) (by omega)
            obtain ⟨tp, ep⟩ := hi.get hp
            refine wpAny_bind (hq_at ec (wpAny_bind (hq_at ep ?_)))
            refine swap_run hi hz (i := 2 * p + 1 + 1) (j := p) (by omega) hp hs fun its' c' h' i' g' k' => ?_
            refine wpAny_pure ⟨plainId_quiet F.hq_plain_sift _, ih true (2 * p + 1 + 1) top _ ys its' c' _ h (by rw [swp_len]; exact hz) (by rw [swp_len]; omega) i' g' fun its2 c2 h2 tk i2 g2 k2 => ?_⟩
            exact hR its2 c2 h2 tk i2 g2 fun b o hb e => k2 b o hb (k' b o hb e)
        · rw [if_neg (show ¬ 2 * p + 1 + 1 < its.size by rw [hsz]; exact h2)]
          rw [if_neg (fun z => h2 z.1)] at h
          refine wpAny_bind ?_
          show wpAny _ _ ((seqItems? (.ref a) >>= _) >>= _) _ _ s
          refine wpAny_bind (wpAny_bind (wpAny_seqItems hs rfl (wpAny_pure ?_)))
          obtain ⟨tc, ec⟩ := hi.get (i := 2 * p + 1) (by omega)
          obtain ⟨tp, ep⟩ := hi.get hp
          refine wpAny_bind (hq_at ec (wpAny_bind (hq_at ep ?_)))
          refine swap_run hi hz (i := 2 * p + 1) (j := p) (by omega) hp hs fun its' c' h' i' g' k' => ?_
          refine wpAny_pure ⟨plainId_quiet F.hq_plain_sift _, ih true (2 * p + 1) top _ ys its' c' _ h (by rw [swp_len]; exact hz) (by rw [swp_len]; omega) i' g' fun its2 c2 h2 tk i2 g2 k2 => ?_⟩
          exact hR its2 c2 h2 tk i2 g2 fun b o hb e => k2 b o hb (k' b o hb e)
      · rw [if_neg h1] at h
        rw [if_neg (show ¬ p < its.size / 2 by rw [hsz]; exact h1)]
        exact wpAny_pure ⟨plainId_quiet F.hq_plain_sift _, ih false p top xs ys its c s h hz hp hi hs hR⟩
theorem IA.pop {xs : List Int} {its : Array Value} (h : IA xs its) : IA xs.dropLast its.pop := by
  refine ⟨by rw [Array.size_pop, List.length_dropLast, h.len], fun i x e => ?_⟩
  have hl := (List.getElem?_eq_some_iff.mp e).1
  rw [List.length_dropLast] at hl
  rw [List.getElem?_dropLast, if_pos hl] at e
  obtain ⟨t, q⟩ := h.at_ i x e
  exact ⟨t, by rw [Array.getElem?_pop, if_pos (by rw [h.len]; exact hl)]; exact q⟩
theorem IA.push {xs : List Int} {its : Array Value} (h : IA xs its) (x : Int) (t : Tok) : IA (xs ++ [x]) (its.push (Value.int x t)) := by
  refine ⟨by rw [Array.size_push, List.length_append, h.len]; rfl, fun i y e => ?_⟩
  rw [Array.getElem?_push, h.len]
  by_cases hi : i = xs.length
  · subst hi
    rw [List.getElem?_append_right (Nat.le_refl _), Nat.sub_self] at e
    cases e
    rw [if_pos rfl]
    exact ⟨t, rfl⟩
  · rw [if_neg hi]
    have hl := (List.getElem?_eq_some_iff.mp e).1
    rw [List.length_append, List.length_singleton] at hl
    rw [List.getElem?_append_left (by omega)] at e
    exact h.at_ i y e
def hqPop (xs : List Int) : Option (Int × List Int) :=
  if xs.length = 0 then none else if xs.length = 1 then some (xs.getD 0 0, []) else (hqSift (2 * xs.length + 5) true 0 0 (xs.dropLast.set 0 (xs.getD (xs.length - 1) 0))).map fun ys => (xs.getD 0 0, ys)
def hqPush (xs : List Int) (x : Int) : Option (List Int) := hqSift (2 * xs.length + 5) false xs.length 0 (xs ++ [x])
theorem pop_run {Q : Value → Shared → Prop} {E : Value → Shared → Prop} {s : Shared} {a : Addr} {xs ys : List Int} {x : Int} {its : Array Value} {c : Nat} (h : hqPop xs = some (x, ys)) (hz : xs.length ≤ 1000) (hi : IA xs its)
    (hs : s.heap.get? a = some { cls := .type "list", dict := none, data := .seq its c, slots := #[] })
    (hQ : ∀ t its' c' h' tk, IA ys its' → h'.get? a = some { cls := .type "list", dict := none, data := .seq its' c', slots := #[] } → (∀ b o, b ≠ a → s.heap.get? b = some o → h'.get? b = some o) → Q (Value.int x t) { s with heap := h', toks := tk }) :
    wpAny (model prog w) A (call (.builtin "_heapq.heappop") [.ref a]) Q E s := by
  have hsz : its.size = xs.length := hi.len
  have big : (1000 : Nat) ≤ sizeLine := by decide
  unfold hqPop at h
  by_cases h0 : xs.length = 0
  · rw [if_pos h0] at h; cases h
  rw [if_neg h0] at h
  obtain ⟨t0, e0⟩ := hi.get (i := 0) (by omega)
  obtain ⟨tl, el⟩ := hi.get (i := xs.length - 1) (by omega)
  refine call_function_tree F.hq_kind_pop F.hq_plain_pop F.hq_entry_pop (F.hq_args_pop _) ?_
  show wpAny _ _ ((pure (Value.ref a) >>= _) >>= _) _ _ s
  refine wpAny_bind (wpAny_bind (wpAny_pure ?_))
  refine wpAny_bind ?_
  show wpAny _ _ (isInstance (.ref a) (.type "list") >>= _) _ _ s
  refine wpAny_bind (wpAny_isInstance (T := "list") (b := true) ⟨_, hs, rfl⟩ AutoSeq1.sub_list_list ?_)
  simp only [if_true]
  refine wpAny_pure (wpAny_pure ?_)
  show wpAny _ _ ((seqItems? (.ref a) >>= _) >>= _) _ _ s
  refine wpAny_bind (wpAny_bind (wpAny_seqItems hs rfl (wpAny_pure ?_)))
  have hb : its.back? = some (Value.int (xs.getD (xs.length - 1) 0) tl) := by
    rw [Array.back?_eq_getElem?, hsz]; exact el
  rw [hb]
  show wpAny _ _ (updateSeq a (fun z => z.pop) >>= _) _ _ s
  refine wpAny_bind (wpAny_updateSeq hs rfl ?_ (by omega) (by rw [Array.size_pop]; omega))
  by_cases h1 : xs.length = 1
  · rw [if_pos h1] at h
    cases h
    have e1 : (its.size == 1) = true := by rw [hsz, h1]; rfl
    rw [e1]
    simp only [if_true]
    refine wpAny_pure ?_
    have hd : xs.dropLast = [] := List.length_eq_zero_iff.mp (by rw [List.length_dropLast]; omega)
    have e2 : xs.getD (xs.length - 1) 0 = xs.getD 0 0 := by rw [h1]
    rw [e2]
    exact hQ tl _ _ _ _ (hd ▸ hi.pop) (Heap.get?_update_self _ hs rfl) fun b o hb e => (Heap.get?_update_other _ _ (Ne.symm hb)).trans e
  · rw [if_neg h1] at h
    have e1 : (its.size == 1) = false := by rw [hsz]; exact beq_eq_false_iff_ne.mpr h1
    rw [e1]
    simp only [Bool.false_eq_true, if_false]
    refine wpAny_bind (hq_at e0 ?_)
    have hs2 := Heap.get?_update_self (Obj.mapSeq fun z => z.pop) hs rfl
    refine wpAny_bind (wpAny_updateSeq hs2 rfl ?_ (by rw [Array.size_pop]; omega) (by rw [Array.size_setIfInBounds, Array.size_pop]; omega))
    cases q : hqSift (2 * xs.length + 5) true 0 0 (xs.dropLast.set 0 (xs.getD (xs.length - 1) 0)) with
    | none => rw [q] at h; cases h
    | some zs =>
      rw [q] at h
      cases h
      have hl2 : (xs.dropLast.set 0 (xs.getD (xs.length - 1) 0)).length = xs.length - 1 := by rw [List.length_set, List.length_dropLast]
      refine wpAny_pure ⟨plainId_quiet F.hq_plain_sift _, sift_run a _ _ true 0 0 _ _ _ _ _ q (by rw [hl2]; omega) (by rw [hl2]; omega) (hi.pop.set 0 _ tl) (Heap.get?_update_self _ hs2 rfl) fun its' c' h' tk i' g' k' => ?_⟩
      exact hQ t0 its' c' h' tk i' g' fun b o hb e => k' b o hb ((Heap.get?_update_other _ _ (Ne.symm hb)).trans ((Heap.get?_update_other _ _ (Ne.symm hb)).trans e))
theorem push_run {Q : Value → Shared → Prop} {E : Value → Shared → Prop} {s : Shared} {a : Addr} {xs ys : List Int} {x : Int} {t : Tok} {its : Array Value} {c : Nat} (h : hqPush xs x = some ys) (hz : xs.length < 1000) (hi : IA xs its)
    (hs : s.heap.get? a = some { cls := .type "list", dict := none, data := .seq its c, slots := #[] })
    (hQ : ∀ its' c' h' tk, IA ys its' → h'.get? a = some { cls := .type "list", dict := none, data := .seq its' c', slots := #[] } → (∀ b o, b ≠ a → s.heap.get? b = some o → h'.get? b = some o) → Q .none { s with heap := h', toks := tk }) :
    wpAny (model prog w) A (call (.builtin "_heapq.heappush") [.ref a, Value.int x t]) Q E s := by
  have hsz : its.size = xs.length := hi.len
  have big : (1000 : Nat) ≤ sizeLine := by decide
  refine call_function_tree F.hq_kind_push F.hq_plain_push F.hq_entry_push (F.hq_args_push _ _) ?_
  show wpAny _ _ ((pure () >>= _) >>= _) _ _ s
  refine wpAny_bind (wpAny_bind (wpAny_pure ?_))
  refine wpAny_bind (wpAny_of_eq (show checkCount "heappush" 2 2 2 = pure () from rfl) ?_)
  refine wpAny_bind ?_
  show wpAny _ _ (isInstance (.ref a) (.type "list") >>= _) _ _ s
  refine wpAny_bind (wpAny_isInstance (T := "list") (b := true) ⟨_, hs, rfl⟩ AutoSeq1.sub_list_list ?_)
  simp only [if_true]
  refine wpAny_pure (wpAny_pure ?_)
  show wpAny _ _ (updateSeq a (fun z => z.push (Value.int x t)) >>= _) _ _ s
  refine wpAny_bind (wpAny_updateSeq hs rfl ?_ (by omega) (by rw [Array.size_push]; omega))
  have hs2 := Heap.get?_update_self (Obj.mapSeq fun z => z.push (Value.int x t)) hs rfl
  show wpAny _ _ ((seqItems? (.ref a) >>= _) >>= _) _ _ _
  refine wpAny_bind (wpAny_bind (wpAny_seqItems hs2 rfl (wpAny_pure ?_)))
  have e1 : (its.push (Value.int x t)).size - 1 = xs.length := by rw [Array.size_push, hsz]; rfl
  rw [e1]
  have hl2 : (xs ++ [x]).length = xs.length + 1 := by rw [List.length_append]; rfl
  refine wpAny_pure ⟨plainId_quiet F.hq_plain_sift _, sift_run a _ _ false xs.length 0 _ ys _ _ _ h (by rw [hl2]; omega) (by rw [hl2]; omega) (hi.push x t) hs2 fun its' c' h' tk i' g' k' => ?_⟩
  exact hQ its' c' h' tk i' g' fun b o hb e => k' b o hb ((Heap.get?_update_other _ _ (Ne.symm hb)).trans e)
end
end PySem
namespace PySem
/-! heaps of ints -/
def IsHeap (xs : List Int) : Prop := ∀ i, 0 < i → i < xs.length → xs.getD ((i - 1) / 2) 0 ≤ xs.getD i 0
theorem swp_get (xs : List Int) {i j : Nat} (hi : i < xs.length) (hj : j < xs.length) (k : Nat) : (swp xs i j).getD k 0 = if k = j then xs.getD i 0 else if k = i then xs.getD j 0 else xs.getD k 0 := by
  unfold swp
  rw [List.getD_eq_getElem?_getD, List.getElem?_set, List.length_set]
  by_cases h1 : j = k
  · rw [if_pos h1, if_pos hj, if_pos h1.symm]; rfl
  · rw [if_neg h1, if_neg (fun z => h1 z.symm), List.getElem?_set]
    by_cases h2 : i = k
    · rw [if_pos h2, if_pos hi, if_pos h2.symm]; rfl
    · rw [if_neg h2, if_neg (fun z => h2 z.symm), List.getD_eq_getElem?_getD]
theorem swp_perm (xs : List Int) {i j : Nat} (hi : i < xs.length) (hj : j < xs.length) : (swp xs i j).Perm xs := by
  have e : swp xs i j = (xs.set i xs[j]).set j xs[i] := by
    unfold swp
    rw [List.getD_eq_getElem?_getD, List.getD_eq_getElem?_getD, List.getElem?_eq_getElem hi, List.getElem?_eq_getElem hj]; rfl
  rw [e]
  exact List.set_set_perm hi hj
def UpOk (p : Nat) (xs : List Int) : Prop := (∀ i, 0 < i → i < xs.length → i ≠ p → xs.getD ((i - 1) / 2) 0 ≤ xs.getD i 0) ∧ (0 < p → ∀ c, 0 < c → c < xs.length → (c - 1) / 2 = p → xs.getD ((p - 1) / 2) 0 ≤ xs.getD c 0)
def DnOk (p : Nat) (xs : List Int) : Prop := (∀ i, 0 < i → i < xs.length → i ≠ p → (i - 1) / 2 ≠ p → xs.getD ((i - 1) / 2) 0 ≤ xs.getD i 0) ∧ (0 < p → ∀ c, 0 < c → c < xs.length → (c - 1) / 2 = p → xs.getD ((p - 1) / 2) 0 ≤ xs.getD c 0)
theorem up_ok : ∀ (n p : Nat) (xs : List Int), p < n → p < xs.length → UpOk p xs → ∃ ys, hqSift n false p 0 xs = some ys ∧ IsHeap ys ∧ ys.Perm xs
  | 0, p, xs, h, _, _ => absurd h (Nat.not_lt_zero _)
  | n + 1, p, xs, hn, hp, ⟨u1, u2⟩ => by
    unfold hqSift
    by_cases h0 : 0 < p
    · rw [if_pos h0]
      by_cases h1 : xs.getD p 0 < xs.getD ((p - 1) / 2) 0
      · rw [if_pos h1]
        have hq : (p - 1) / 2 < xs.length := by omega
        have g := swp_get xs hq hp
        obtain ⟨ys, e1, e2, e3⟩ := up_ok n ((p - 1) / 2) (swp xs ((p - 1) / 2) p) (by omega) (by rw [swp_len]; exact hq) ⟨fun i i0 il ip => by
          rw [swp_len] at il
          rw [g, g]
          by_cases a : i = p
          · subst a
            rw [if_pos rfl, if_neg (by omega), if_pos rfl]; omega
          · rw [if_neg a, if_neg ip]
            by_cases b : (i - 1) / 2 = p
            · rw [if_pos b]
              have := u2 h0 i i0 il b
              omega
            · rw [if_neg b]
              by_cases c : (i - 1) / 2 = (p - 1) / 2
              · rw [if_pos c]
                have := u1 i i0 il a
                rw [c] at this
                omega
              · rw [if_neg c]; exact u1 i i0 il a, fun q0 c c0 cl cp => by
          rw [swp_len] at cl
          rw [g, g, if_neg (by omega), if_neg (by omega)]
          have up := u1 ((p - 1) / 2) q0 hq (by omega)
          by_cases a : c = p
          · rw [if_pos a]; exact up
          · rw [if_neg a, if_neg (by omega)]
            have := u1 c c0 cl a
            rw [cp] at this
            omega⟩
        exact ⟨ys, e1, e2, e3.trans (swp_perm xs hq hp)⟩
      · rw [if_neg h1]
        refine ⟨xs, rfl, fun i i0 il => ?_, .refl _⟩
        by_cases a : i = p
        · subst a; omega
        · exact u1 i i0 il a
    · rw [if_neg h0]
      refine ⟨xs, rfl, fun i i0 il => u1 i i0 il (by omega), .refl _⟩
theorem dn_ok : ∀ (n p : Nat) (xs : List Int), (xs.length - p) + xs.length + 2 ≤ n → p < xs.length → DnOk p xs → ∃ ys, hqSift n true p 0 xs = some ys ∧ IsHeap ys ∧ ys.Perm xs
  | 0, p, xs, h, _, _ => absurd h (by omega)
  | n + 1, p, xs, hn, hp, ⟨u1, u2⟩ => by
    unfold hqSift
    by_cases h1 : p < xs.length / 2
    · rw [if_pos h1]
      have step : ∀ ch, ch < xs.length → 0 < ch → (ch - 1) / 2 = p → (∀ i, 0 < i → i < xs.length → (i - 1) / 2 = p → xs.getD ch 0 ≤ xs.getD i 0) → ∃ ys, hqSift n true ch 0 (swp xs ch p) = some ys ∧ IsHeap ys ∧ ys.Perm xs := fun ch hc c0 cp small => by
        have g := swp_get xs hc hp
        obtain ⟨ys, e1, e2, e3⟩ := dn_ok n ch (swp xs ch p) (by rw [swp_len]; omega) (by rw [swp_len]; exact hc) ⟨fun i i0 il ic ipc => by
          rw [swp_len] at il
          rw [g, g]
          by_cases a : i = p
          · subst a
            rw [if_neg (by omega), if_neg (by omega), if_pos rfl]
            exact u2 i0 ch c0 hc cp
          · rw [if_neg (c := i = p) a, if_neg (c := i = ch) ic]
            by_cases b : (i - 1) / 2 = p
            · rw [if_pos b]; exact small i i0 il b
            · rw [if_neg b, if_neg ipc]
              exact u1 i i0 il a b, fun _ d d0 dl dc => by
          rw [swp_len] at dl
          rw [g, g, if_pos cp, if_neg (by omega), if_neg (by omega)]
          have := u1 d d0 dl (by omega) (by omega)
          rw [dc] at this
          exact this⟩
        exact ⟨ys, e1, e2, e3.trans (swp_perm xs hc hp)⟩
      by_cases h2 : 2 * p + 1 + 1 < xs.length ∧ ¬ xs.getD (2 * p + 1) 0 < xs.getD (2 * p + 1 + 1) 0
      · rw [if_pos h2]
        refine step (2 * p + 1 + 1) h2.1 (by omega) (by omega) fun i i0 il ip => ?_
        rcases (by omega : i = 2 * p + 1 ∨ i = 2 * p + 1 + 1) with e | e <;> subst e
        · omega
        · exact Int.le_refl _
      · rw [if_neg h2]
        refine step (2 * p + 1) (by omega) (by omega) (by omega) fun i i0 il ip => ?_
        rcases (by omega : i = 2 * p + 1 ∨ i = 2 * p + 1 + 1) with e | e <;> subst e
        · exact Int.le_refl _
        · by_cases z : xs.getD (2 * p + 1) 0 < xs.getD (2 * p + 1 + 1) 0
          · omega
          · exact absurd ⟨il, z⟩ h2
    · rw [if_neg h1]
      exact up_ok n p xs (by omega) hp ⟨fun i i0 il ip => u1 i i0 il ip (by omega), u2⟩
theorem heap_push {xs : List Int} (h : IsHeap xs) (x : Int) : ∃ ys, hqPush xs x = some ys ∧ IsHeap ys ∧ ys.Perm (x :: xs) := by
  have hl : (xs ++ [x]).length = xs.length + 1 := by rw [List.length_append]; rfl
  have g : ∀ i, i < xs.length → (xs ++ [x]).getD i 0 = xs.getD i 0 := fun i hi => by rw [List.getD_eq_getElem?_getD, List.getElem?_append_left hi, List.getD_eq_getElem?_getD]
  obtain ⟨ys, e1, e2, e3⟩ := up_ok (2 * xs.length + 5) xs.length (xs ++ [x]) (by omega) (by omega) ⟨fun i i0 il ip => by
    rw [hl] at il
    rw [g i (by omega), g _ (by omega)]
    exact h i i0 (by omega), fun _ c c0 cl cp => by rw [hl] at cl; omega⟩
  exact ⟨ys, e1, e2, e3.trans (List.perm_append_singleton x xs)⟩
theorem heap_least {xs : List Int} (h : IsHeap xs) : ∀ i, i < xs.length → xs.getD 0 0 ≤ xs.getD i 0 := fun i => by
  induction i using Nat.strongRecOn with
  | ind i ih =>
    intro hi
    by_cases h0 : i = 0
    · subst h0; exact Int.le_refl _
    · have a := h i (by omega) hi
      have b := ih ((i - 1) / 2) (by omega) (by omega)
      omega
theorem heap_pop {xs : List Int} (h : IsHeap xs) (h0 : xs ≠ []) : ∃ x ys, hqPop xs = some (x, ys) ∧ IsHeap ys ∧ xs.Perm (x :: ys) ∧ (∀ y ∈ xs, x ≤ y) ∧ ys.length + 1 = xs.length := by
  have hl : 0 < xs.length := List.length_pos_iff.mpr h0
  have least : ∀ y ∈ xs, xs.getD 0 0 ≤ y := fun y hy => by
    obtain ⟨i, hi, e⟩ := List.mem_iff_getElem.mp hy
    have := heap_least h i hi
    rw [List.getD_eq_getElem?_getD (i := i), List.getElem?_eq_getElem hi] at this
    rw [← e]; exact this
  unfold hqPop
  rw [if_neg (by omega)]
  by_cases h1 : xs.length = 1
  · rw [if_pos h1]
    obtain ⟨a, ha⟩ := List.length_eq_one_iff.mp h1
    subst ha
    exact ⟨a, [], rfl, fun i _ il => absurd il (Nat.not_lt_zero _), .refl _, least, rfl⟩
  · rw [if_neg h1]
    obtain ⟨a, zs, rfl⟩ : ∃ a zs, xs = a :: zs := by cases xs with | nil => exact absurd rfl h0 | cons a zs => exact ⟨a, zs, rfl⟩
    have hz : zs ≠ [] := fun e => h1 (by rw [e]; rfl)
    have hzl : 0 < zs.length := List.length_pos_iff.mpr hz
    have ed : (a :: zs).dropLast = a :: zs.dropLast := List.dropLast_cons_of_ne_nil hz
    have el : (a :: zs).getD ((a :: zs).length - 1) 0 = zs.getLast hz := by
      rw [List.getD_eq_getElem?_getD, List.length_cons, Nat.add_sub_cancel]
      rw [show zs.length = (zs.length - 1) + 1 by omega, List.getElem?_cons_succ, List.getLast_eq_getElem, List.getElem?_eq_getElem (by omega)]; rfl
    rw [ed, el, List.set_cons_zero]
    have hl2 : (zs.getLast hz :: zs.dropLast).length = zs.length := by rw [List.length_cons, List.length_dropLast]; omega
    have g : ∀ i, 0 < i → i < zs.length → (zs.getLast hz :: zs.dropLast).getD i 0 = (a :: zs).getD i 0 := fun i i0 il => by
      obtain ⟨k, rfl⟩ : ∃ k, i = k + 1 := ⟨i - 1, by omega⟩
      rw [List.getD_eq_getElem?_getD, List.getD_eq_getElem?_getD, List.getElem?_cons_succ, List.getElem?_cons_succ, List.getElem?_dropLast, if_pos (by omega)]
    obtain ⟨ys, e1, e2, e3⟩ := dn_ok (2 * (a :: zs).length + 5) 0 (zs.getLast hz :: zs.dropLast) (by rw [hl2, List.length_cons]; omega) (by rw [hl2]; exact hzl) ⟨fun i i0 il ip ip2 => by
      rw [hl2] at il
      rw [g i i0 il, g _ (by omega) (by omega)]
      exact h i i0 (by rw [List.length_cons]; omega), fun z => absurd z (by omega)⟩
    rw [e1]
    refine ⟨a, ys, rfl, e2, ?_, least, by rw [e3.length_eq, hl2]; rfl⟩
    refine List.Perm.cons a ?_
    have p1 : (zs.dropLast ++ [zs.getLast hz]).Perm (zs.getLast hz :: zs.dropLast) := List.perm_append_singleton _ _
    rw [List.dropLast_concat_getLast] at p1
    exact p1.trans e3.symm
end PySem
namespace L2
open PySem PySem.Spec PyProof.Rows
def enumD : Int → List D → List D
  | _, [] => []
  | c, d :: ds => .tuple [.int c, d] :: enumD (c + 1) ds
theorem enum_get : ∀ (ds : List D) (c : Int) (i : Nat), (enumD c ds)[i]? = (ds[i]?).map fun d => .tuple [.int (c + (i : Nat)), d]
  | [], c, i => by simp [enumD]
  | d :: ds, c, 0 => by simp [enumD]
  | d :: ds, c, i + 1 => by
    rw [enumD, List.getElem?_cons_succ, List.getElem?_cons_succ, enum_get ds (c + 1) i]
    rw [show c + 1 + (i : Int) = c + ((i + 1 : Nat) : Int) by omega]
theorem enum_len : ∀ (ds : List D) (c : Int), (enumD c ds).length = ds.length
  | [], _ => rfl
  | d :: ds, c => by rw [enumD, List.length_cons, List.length_cons, enum_len ds]
theorem SS.fewer {K : PySem.W.Frag} {A0 : Addr → Prop} {O : List Nat} {T T' : List Tm} {H0 H : Hp} {σ : St} {δ : DS} (s : SS K A0 O T H0 σ δ H) (h : ∀ p ∈ T', p ∈ T) : SS K A0 O T' H0 σ δ H := by
  obtain ⟨w, h1, h2, h3, h4⟩ := s.ex
  exact ⟨⟨w, h1, h2, h3, fun p hp => h4 p (h p hp)⟩, s.len, s.same, s.cov⟩
def tmP (K : PySem.W.Frag) (p : Addr) (xs : List V) : Tm := ⟨fun H => SqT K H p xs, fun s h => sqT_same s h⟩
def forNK (st : D → DS → R DS) (m : DS → R Out) (δ : DS) (d u : D) : R Out := match d, u with
  | .list ds, .int c => R.when (decide (-(2 ^ 62) ≤ c ∧ c < 2 ^ 62)) (loopM st m (enumD c ds) δ)
  | _, _ => .bad
/-- for .. in enumerate(e, start=k) -/
def mForN (O : List Nat) (me mk : DS → R D) (st : D → DS → R DS) (m : DS → R Out) : DS → R Out := fun δ => (me (hideD O δ)).run δ fun d => (mk (hideD O δ)).run δ fun u => forNK st m δ d u
section
variable {X : Cx} {Y : Wy} {O : List Nat}
/-- the turns over a list whose items are told with their numbers -/
theorem loop_num {g : TG} {st : D → DS → R DS} {tb : TS} {m : DS → R Out} (qg : GSem X O g st) (qb : TSem X Y O tb m) {A0 : Addr → Prop} {T : List Tm} {H0 H1 : Hp} {σ : St} {δ : DS} {Dn : Ends} {a : Addr} {c : Int} {us : List V} {ds : List D}
    (s1 : SS X.K A0 O (tmL X.K a us ds :: T) H0 σ δ H1) (w : WpS X.K Y A0 O T H0 (loopM st m (enumD c ds) δ) Dn) (hl : us.length = ds.length) :
    ∃ W : Nat → Nat → St → Hp → Prop, (∃ m, W 0 m σ H1) ∧ ∀ i m σ H, W i m σ H →
      ((ItN X.K a c).stop i H ∧ Dn.nx σ H) ∨ ((ItN X.K a c).go i H ∧ ∃ N : St → Hp → Prop, (∀ σ' H', N σ' H' → ∃ m', m' < m ∧ W (i + 1) m' σ' H') ∧ ∀ x H', (ItN X.K a c).yld i H x H' → g x σ H' fun σ2 H2 => tb { Dn with nx := N, ct := N, bk := Dn.nx } σ2 H2) := by
  refine for_num (K := X.K) (a := a) (c := c) (xs := us) (fun i σ' H' => ∃ δ', SS X.K A0 O (tmL X.K a us ds :: T) H0 σ' δ' H' ∧ WpS X.K Y A0 O (tmL X.K a us ds :: T) H0 (loopM st m ((enumD c ds).drop i) δ') Dn)
    ⟨δ, s1, WpS.push _ w⟩ (fun i σ' H' _ ⟨δ', s', _⟩ => s'.tm.1) (fun i x σ' H' p hi ⟨δ', s', w'⟩ hp => ?_) (fun σ' H' ⟨δ', s', w'⟩ => ?_)
  · have hil : i < us.length := (List.getElem?_eq_some_iff.mp hi).1
    obtain ⟨d, hd⟩ : ∃ d, ds[i]? = some d := ⟨ds[i]'(by omega), List.getElem?_eq_getElem (by omega)⟩
    have he : (enumD c ds)[i]? = some (.tuple [.int (c + (i : Nat)), d]) := by rw [enum_get, hd]; rfl
    rw [take_next he] at w'
    obtain ⟨w0, cv, sr, up, kp, tm, _⟩ := s'.share
    have s2 := tm (tmP X.K p [.int (c + (i : Nat)), x]) (upd H' p (.tup [.int (c + (i : Nat)), x])) (same_upd hp) (SqT.of (mask_some.mpr ⟨cv.new hp, upd_same⟩))
    have s3 : SS X.K A0 O (tmD X.K (.ref p) (.tuple [.int (c + (i : Nat)), d]) :: tmL X.K a us ds :: T) H0 σ' δ' (upd H' p (.tup [.int (c + (i : Nat)), x])) := by
      refine (s2.temp (tmD X.K (.ref p) (.tuple [.int (c + (i : Nat)), d])) fun G hG => ?_).fewer fun q hq => ?_
      · have g1 : SqT X.K G p [.int (c + (i : Nat)), x] := hG _ List.mem_cons_self
        have g2 : SqL X.K G a us ∧ DpAll X.K G us ds := hG (tmL X.K a us ds) (List.mem_cons_of_mem _ List.mem_cons_self)
        obtain ⟨d', hd', hr⟩ := g2.2.get2 hi
        rw [hd] at hd'
        cases hd'
        exact .tup g1 (.cons (.int _) (.cons hr .nil))
      · rcases List.mem_cons.mp hq with rfl | hq
        · exact List.mem_cons_self
        · exact List.mem_cons_of_mem _ (List.mem_cons_of_mem _ hq)
    exact loop_turn (T := tmL X.K a us ds :: T) (Y := Y) (Dn := Dn) (xs := (enumD c ds).drop (i + 1)) (d := .tuple [.int (c + (i : Nat)), d]) qg qb s3 w' (fun σ' H' δ' s w => ⟨δ', s, w⟩) (fun σ' H' δ' s w => w _ _ s)
  · rw [show us.length = (enumD c ds).length by rw [enum_len, hl], List.drop_length] at w'
    exact w' _ _ s'
theorem ds_forN {e k : Expr} {elts : List Expr} {kk : Nat} {body : List Stmt} {me mk : DS → R D} {st : D → DS → R DS} {m : DS → R Out} {p kpos pos pos' tpos : Pos} (hp : PassesOwn (model X.prog X.w) X.A X.env X.xe) (hc : X.calm = true) (hgl : Gl X "enumerate") (hm : X.mg "enumerate" = none) (he : DE X Y e me) (hk : DE X Y k mk) (hg : DG X O (.Tuple elts kk tpos) st) (hb : DSs X Y O body m)
    (hs1 : starEach [e] X.env = [(false, eval e X.env)] := by rfl) (hs : ∀ x, foldedSetIterable (.Call (.Name "enumerate" p) [e] [⟨some "start", k, kpos⟩] pos') X.env x = pure x := by intro _; rfl) :
    DSt X Y O (.For (.Tuple elts kk tpos) (.Call (.Name "enumerate" p) [e] [⟨some "start", k, kpos⟩] pos') body [] pos) (mForN O me mk st m) := by
  obtain ⟨te, pe, qe⟩ := he
  obtain ⟨tk, pk, qk⟩ := hk
  obtain ⟨g, pg, qg⟩ := hg
  obtain ⟨tb, pb, qb⟩ := hb
  refine ⟨_, ps_for hp hc (pi_numS hgl hm pe pk hs1) pg pb hs, fun A0 T H0 σ δ H Dn s w => ?_⟩
  obtain ⟨w0, cv, sr, up, kp, tm, _⟩ := s.share
  refine qe σ (hideD O δ) H _ cv sr _ ?_
  unfold mForN at w
  cases e1 : me (hideD O δ) with
  | bad => rw [e1] at w; exact w
  | ex n => rw [e1] at w; exact fun H' t => w σ H' (s.keep t)
  | ok d =>
    rw [e1] at w
    refine fun v H1 t1 r1 => qk σ (hideD O δ) H1 _ (cv.mono t1) (sr.mono t1) _ ?_
    replace w : WpS X.K Y A0 O T H0 ((mk (hideD O δ)).run δ fun u => forNK st m δ d u) Dn := w
    cases e2 : mk (hideD O δ) with
    | bad => rw [e2] at w; exact w
    | ex n => rw [e2] at w; exact fun H' t => w σ H' (s.keep (t1.trans t))
    | ok u =>
      rw [e2] at w
      refine fun z H2 t2 r2 => ?_
      replace w : WpS X.K Y A0 O T H0 (forNK st m δ d u) Dn := w
      unfold forNK at w
      split at w
      · rename_i ds c
        obtain ⟨hb, w⟩ := R.when_ok (fun r => WpS X.K Y A0 O T H0 r Dn) w id
        obtain ⟨b1, b2⟩ := of_decide_eq_true hb
        obtain ⟨a, us, rfl, h1, h2⟩ := dp_list (Dp.same (Same.mask t2) r1)
        cases r2
        exact ⟨a, us, c, rfl, rfl, sqL_same mask_le h1, b1, b2, loop_num qg qb (tm (tmL X.K a us ds) H2 (t1.trans t2) ⟨h1, h2⟩) w h2.len⟩
      · exact w.elim
def forEK (st : D → DS → R DS) (m : DS → R Out) (δ : DS) (d : D) : R Out := match d with
  | .list ds => loopM st m (enumD 0 ds) δ
  | _ => .bad
def mForE (O : List Nat) (me : DS → R D) (st : D → DS → R DS) (m : DS → R Out) : DS → R Out := fun δ => (me (hideD O δ)).run δ (forEK st m δ)
theorem ds_forE {e : Expr} {elts : List Expr} {kk : Nat} {body : List Stmt} {me : DS → R D} {st : D → DS → R DS} {m : DS → R Out} {p pos pos' tpos : Pos} (hp : PassesOwn (model X.prog X.w) X.A X.env X.xe) (hc : X.calm = true) (hgl : Gl X "enumerate") (hm : X.mg "enumerate" = none) (he : DE X Y e me) (hg : DG X O (.Tuple elts kk tpos) st) (hb : DSs X Y O body m)
    (hs1 : starEach [e] X.env = [(false, eval e X.env)] := by rfl) (hs : ∀ x, foldedSetIterable (.Call (.Name "enumerate" p) [e] [] pos') X.env x = pure x := by intro _; rfl) :
    DSt X Y O (.For (.Tuple elts kk tpos) (.Call (.Name "enumerate" p) [e] [] pos') body [] pos) (mForE O me st m) := by
  obtain ⟨te, pe, qe⟩ := he
  obtain ⟨g, pg, qg⟩ := hg
  obtain ⟨tb, pb, qb⟩ := hb
  refine ⟨_, ps_for hp hc (pi_num0 hgl hm pe hs1) pg pb hs, fun A0 T H0 σ δ H Dn s w => ?_⟩
  obtain ⟨w0, cv, sr, up, kp, tm, _⟩ := s.share
  refine qe σ (hideD O δ) H _ cv sr _ ?_
  unfold mForE at w
  cases e1 : me (hideD O δ) with
  | bad => rw [e1] at w; exact w
  | ex n => rw [e1] at w; exact fun H' t => w σ H' (s.keep t)
  | ok d =>
    rw [e1] at w
    refine fun v H1 t1 r1 => ?_
    replace w : WpS X.K Y A0 O T H0 (forEK st m δ d) Dn := w
    unfold forEK at w
    split at w
    · rename_i ds
      obtain ⟨a, us, rfl, h1, h2⟩ := dp_list r1
      exact ⟨a, us, rfl, sqL_same mask_le h1, loop_num qg qb (tm (tmL X.K a us ds) H1 t1 ⟨h1, h2⟩) w h2.len⟩
    · exact w.elim
end
end L2
namespace L2
open PySem PySem.Spec PyProof.Rows
/-! ## [.. for a, b in enumerate(e) if ..] -/
def set2 (ja jb : Nat) (c : Int) (x : D) (δ : DS) : DS := (δ.set ja (some (.int c))).set jb (some x)
def turnR (mt : DS → R Bool) (me : DS → R D) (rest : R (List D)) (δ2 : DS) : R (List D) := match mt δ2 with
  | .ok true => match me δ2 with
    | .ok y => rest.map fun ys => y :: ys
    | _ => .bad
  | .ok false => rest
  | _ => .bad
def compE (ja jb : Nat) (mt : DS → R Bool) (me : DS → R D) (δ : DS) : Int → List D → R (List D)
  | _, [] => .ok []
  | c, x :: xs => turnR mt me (compE ja jb mt me δ (c + 1) xs) (set2 ja jb c x δ)
structure CSE (K : PySem.W.Frag) (A : Addr → Prop) (σ : St) (δ : DS) (H1 : Hp) (Dl : Addr) (rest : R (List D)) (tot : List D) (i : Nat) (H : Hp) : Prop where
  ex : ∃ acc pre, H Dl = some (.lst acc) ∧ DpAll K (mask (fun a => A a ∨ a = Dl) H) acc pre ∧ pre.length ≤ i ∧ ∃ ys, rest = .ok ys ∧ tot = pre ++ ys
  same : Same H1 H
theorem CSE.sr {K : PySem.W.Frag} {A : Addr → Prop} {σ : St} {δ : DS} {H1 H : Hp} {Dl : Addr} {i : Nat} {rest : R (List D)} {tot : List D} (cs : CSE K A σ δ H1 Dl rest tot i H) (hn : H1 Dl = none) (s : SR K A σ δ H1) : SR K (fun a => A a ∨ a = Dl) σ δ H := by
  refine ⟨fun i d e => ?_, s.2⟩
  obtain ⟨v, q1, q2⟩ := s.1 i d e
  refine ⟨v, q1, Dp.same (fun b o q => ?_) q2⟩
  rw [mask_some] at q ⊢
  refine ⟨fun z => z.elim q.1 fun z => ?_, cs.same _ _ q.2⟩
  rw [z, hn] at q; cases q.2
/-- one turn, the slots set -/
theorem comp_turnE {K : PySem.W.Frag} {Y : Wy} {mt : DS → R Bool} {me : DS → R D} {δ2 : DS} {σ2 : St} {A : Addr → Prop} {H : Hp} {Dl : Addr} {rest : R (List D)} {tot pre : List D} {acc : List V} {Pv : Hp → Prop}
    (c : Cov A H) (s : SR K (fun a => A a ∨ a = Dl) σ2 δ2 H) (hD : H Dl = some (.lst acc)) (ha : DpAll K (mask (fun a => A a ∨ a = Dl) H) acc pre) (hz : pre.length < sizeLine) (e : ∃ ys, turnR mt me rest δ2 = .ok ys ∧ tot = pre ++ ys)
    (k : ∀ (acc' : List V) (pre' : List D) (H' : Hp), (∀ b o, b ≠ Dl → H b = some o → H' b = some o) → H' Dl = some (.lst acc') → pre'.length ≤ pre.length + 1 → DpAll K (mask (fun a => A a ∨ a = Dl) H') acc' pre' → (∃ ys, rest = .ok ys ∧ tot = pre' ++ ys) → Pv H') :
    canT K (noX Y) mt σ2 H fun b H3 => if b = true then canE K (noX Y) me σ2 H3 fun y H4 => ∃ acc, H4 Dl = some (.lst acc) ∧ acc.length < sizeLine ∧ Pv (upd H4 Dl (.lst (acc ++ [y]))) else Pv H3 := by
  obtain ⟨ys, e, et⟩ := e
  have c' : Cov (fun a => A a ∨ a = Dl) H := c.add hD
  refine ⟨_, _, c', s, ?_⟩
  unfold turnR at e
  cases e1 : mt δ2 with
  | bad => rw [e1] at e; cases e
  | ex n => rw [e1] at e; cases e
  | ok b =>
    rw [e1] at e
    refine fun H3 t3 => ?_
    cases b with
    | false => exact k acc pre H3 (fun b o _ q => t3 _ _ q) (t3 _ _ hD) (Nat.le_succ _) (DpAll.same (Same.mask t3) ha) ⟨ys, e, et⟩
    | true =>
      rw [if_pos rfl]
      refine ⟨_, _, c'.mono t3, s.mono t3, ?_⟩
      dsimp only at e
      cases e2 : me δ2 with
      | bad => rw [e2] at e; cases e
      | ex n => rw [e2] at e; cases e
      | ok y =>
        rw [e2] at e
        refine fun u H4 t4 r4 => ⟨acc, t4 _ _ (t3 _ _ hD), by rw [ha.len]; exact hz, ?_⟩
        dsimp only at e
        cases e3 : rest with
        | bad => rw [e3] at e; cases e
        | ex n => rw [e3] at e; cases e
        | ok zs =>
          rw [e3] at e
          cases e
          have mk : Same (mask (fun a => A a ∨ a = Dl) H4) (mask (fun a => A a ∨ a = Dl) (upd H4 Dl (.lst (acc ++ [u])))) := fun b o q => by
            rw [mask_some] at q ⊢
            refine ⟨q.1, ?_⟩
            rw [upd_ne fun z => q.1 (.inr z)]
            exact q.2
          refine k (acc ++ [u]) (pre ++ [y]) _ (fun b o nb q => ?_) upd_same (by rw [List.length_append]; exact Nat.le_refl _) ?_ ⟨zs, e3, by rw [List.append_assoc]; exact et⟩
          · rw [upd_ne nb]
            exact t4 _ _ (t3 _ _ q)
          · exact (DpAll.same ((Same.mask (t3.trans t4)).trans mk) ha).app (.cons (Dp.same mk r4) .nil)
theorem lc_num {K : PySem.W.Frag} {a : Addr} {c : Int} {xs : List V} {g : TG} {tt : TT} {te : TE} {vs : List Nat} {σ : St} {H1 : Hp} {D : Addr} {Qd : Hp → Prop} (Pv : Nat → Hp → Prop) (h0 : Pv 0 (upd H1 D (.lst []))) (hl : ∀ i H, i ≤ xs.length → Pv i H → SqL K H a xs)
    (hs : ∀ i x H p, xs[i]? = some x → Pv i H → H p = none → g (.ref p) (wipe σ vs) (upd H p (.tup [.int (c + (i : Nat)), x])) fun σ2 H2 => wipe σ2 vs = wipe σ vs ∧ tt σ2 H2 fun b H3 =>
      if b = true then te σ2 H3 fun y H4 => ∃ acc, H4 D = some (.lst acc) ∧ acc.length < sizeLine ∧ Pv (i + 1) (upd H4 D (.lst (acc ++ [y]))) else Pv (i + 1) H3) (hd : ∀ H, Pv xs.length H → Qd H) :
    ∃ W : Nat → Nat → Hp → Prop, (∃ m, W 0 m (upd H1 D (.lst []))) ∧ ∀ i m H, W i m H →
      ((ItN K a c).stop i H ∧ Qd H) ∨ ((ItN K a c).go i H ∧ ∃ Nx : Hp → Prop, (∀ H', Nx H' → ∃ m', m' < m ∧ W (i + 1) m' H') ∧ ∀ x H', (ItN K a c).yld i H x H' → g x (wipe σ vs) H' fun σ2 H2 => wipe σ2 vs = wipe σ vs ∧ tt σ2 H2 fun b H3 =>
        if b = true then te σ2 H3 fun y H4 => ∃ acc, H4 D = some (.lst acc) ∧ acc.length < sizeLine ∧ Nx (upd H4 D (.lst (acc ++ [y]))) else Nx H3) := by
  refine ⟨fun i m H => m = xs.length - i ∧ i ≤ xs.length ∧ Pv i H, ⟨xs.length, rfl, Nat.zero_le _, h0⟩, ?_⟩
  rintro i m H ⟨rfl, hi, p⟩
  have q := hl i H hi p
  by_cases hlt : i < xs.length
  · refine .inr ⟨⟨xs, xs[i], q, List.getElem?_eq_getElem hlt⟩, Pv (i + 1), fun H' p' => ⟨xs.length - (i + 1), by omega, rfl, hlt, p'⟩, fun v H' y => ?_⟩
    obtain ⟨T, x, rfl, hT, rfl, hx⟩ := y
    exact hs i x H T (hx xs q) p hT
  · have e : i = xs.length := by omega
    subst e
    exact .inl ⟨⟨xs, q, Nat.le_refl _⟩, hd H p⟩
def compEK (vs : List Nat) (ja jb : Nat) (mt : DS → R Bool) (me : DS → R D) (δ : DS) : D → R (List D) := fun d => match d with
  | .list ds => R.when (ltOk ds.length) (compE ja jb mt me (wipeD δ vs) 0 ds)
  | _ => .bad
def mCompE (vs : List Nat) (ja jb : Nat) (mi : DS → R D) (mt : DS → R Bool) (me : DS → R D) : DS → R (List D) := fun δ => (mi δ).bind (compEK vs ja jb mt me δ)
theorem compE_nox {ja jb : Nat} {mt : DS → R Bool} {me : DS → R D} {δ : DS} : ∀ (xs : List D) (c : Int) (n : Nat), compE ja jb mt me δ c xs ≠ .ex n
  | [], _, _ => fun q => by cases q
  | x :: xs, c, n => fun q => by
    have ih := compE_nox (ja := ja) (jb := jb) (mt := mt) (me := me) (δ := δ) xs (c + 1)
    unfold compE turnR at q
    split at q
    · split at q
      · rename_i y _
        cases e3 : compE ja jb mt me δ (c + 1) xs with
        | bad => rw [e3] at q; cases q
        | ex k => exact ih k e3
        | ok z => rw [e3] at q; cases q
      · cases q
    · exact ih n q
    · cases q
section
variable {X : Cx} {Y : Wy}
theorem compE_sem {vs0 : List Nat} {ja jb : Nat} {mi me : DS → R D} {mt : DS → R Bool} {ti : TE} (qi : ∀ (σ : St) (δ : DS) (H : Hp) (A : Addr → Prop), Cov A H → SR X.K A σ δ H → ∀ Q : VK, WpE X.K (Y.at σ) A H (mi δ) Q → ti σ H Q)
    (hw : ∀ σ x y, wipe (((wipe σ vs0).set ja (some x)).set jb (some y)) vs0 = wipe σ vs0) : NSem X Y (tLc (iNum0 X.K ti) (gTup X.K 2 (fun vs σ H Q => ∃ x y, vs = [x, y] ∧ Q ((σ.set ja (some x)).set jb (some y)) H)) (canT X.K (noX Y) mt) (canE X.K (noX Y) me) vs0) (mCompE vs0 ja jb mi mt me) := fun σ δ H A c s Q w => by
  unfold mCompE at w
  refine qi σ δ H A c s _ ?_
  cases e : mi δ with
  | bad => rw [e] at w; exact w.elim
  | ex k => rw [e] at w; exact w
  | ok d =>
    rw [e] at w
    dsimp only [R.bind] at w
    refine fun v H1 t1 r1 => ?_
    unfold compEK at w
    split at w
    · rename_i ds
      obtain ⟨hz, w⟩ := WpL.when w
      have hz := of_decide_eq_true hz
      obtain ⟨a, us, rfl, h1, h2⟩ := dp_list r1
      have ha := h2.len
      obtain ⟨tot, e2, w⟩ : ∃ tot, compE ja jb mt me (wipeD δ vs0) 0 ds = .ok tot ∧ WpL X.K (Y.at σ) A H (.ok tot) Q := by
        cases e2 : compE ja jb mt me (wipeD δ vs0) 0 ds with
        | bad => rw [e2] at w; exact w.elim
        | ex k => exact absurd e2 (compE_nox ds 0 k)
        | ok tot => rw [e2] at w; exact ⟨tot, rfl, w⟩
      refine ⟨a, us, rfl, sqL_same mask_le h1, fun Dl hD => ?_⟩
      have c1 := c.mono t1
      refine lc_num (K := X.K) (a := a) (c := 0) (xs := us) (fun i H' => CSE X.K A (wipe σ vs0) (wipeD δ vs0) H1 Dl (compE ja jb mt me (wipeD δ vs0) (0 + (i : Nat)) (ds.drop i)) tot i H') ⟨⟨[], [], upd_same, .nil, Nat.zero_le _, tot, by rw [List.drop_zero]; exact e2, rfl⟩, same_upd hD⟩ (fun i H' _ cs => sqL_same cs.same (sqL_same mask_le h1)) (fun i x H' p hx cs hp => ?_) (fun H' cs => ?_)
      · obtain ⟨dx, hd, r⟩ := h2.get2 hx
        have hi : i < ds.length := (List.getElem?_eq_some_iff.mp hd).1
        refine ⟨p, [.int (0 + (i : Nat)), x], rfl, .inl (.inl upd_same), rfl, _, _, rfl, hw σ _ _, ?_⟩
        obtain ⟨⟨acc, pre, q1, q2, q3, q4⟩, q5⟩ := id cs
        have hpD : p ≠ Dl := fun z => by rw [z, q1] at hp; cases hp
        have su : Same H' (upd H' p (.tup [.int (0 + (i : Nat)), x])) := same_upd hp
        have cs2 : CSE X.K A (wipe σ vs0) (wipeD δ vs0) H1 Dl (compE ja jb mt me (wipeD δ vs0) (0 + (i : Nat)) (ds.drop i)) tot i (upd H' p (.tup [.int (0 + (i : Nat)), x])) := ⟨⟨acc, pre, su _ _ q1, DpAll.same (Same.mask su) q2, q3, q4⟩, q5.trans su⟩
        have rx : Dp X.K (mask (fun a => A a ∨ a = Dl) (upd H' p (.tup [.int (0 + (i : Nat)), x]))) x dx := Dp.same (fun b o q => by
          rw [mask_some] at q ⊢
          refine ⟨fun z => z.elim q.1 fun z => ?_, su _ _ (q5 _ _ q.2)⟩
          rw [z, hD] at q; cases q.2) r
        rw [take_next hd] at q4
        refine comp_turnE (Y := Y) (A := A) (pre := pre) (acc := acc) (tot := tot) (rest := compE ja jb mt me (wipeD δ vs0) (0 + (i : Nat) + 1) (ds.drop (i + 1))) (c1.mono (q5.trans su)) (((cs2.sr hD ((s.mono t1).wipe vs0)).set (.int _)).set rx) (su _ _ q1) (DpAll.same (Same.mask su) q2) (by omega) q4 fun acc' pre' H2 st hD2 hp2 ha2 he => ⟨⟨acc', pre', hD2, ha2, by omega, ?_⟩, fun b o q => ?_⟩
        · rw [show (0 : Int) + ((i + 1 : Nat) : Int) = 0 + (i : Nat) + 1 by omega]; exact he
        · have nb : b ≠ Dl := fun z => by rw [z, hD] at q; cases q
          exact st b o nb (su _ _ (q5 _ _ q))
      · obtain ⟨⟨acc, pre, q1, q2, q3, ys, q4, q6⟩, q5⟩ := cs
        have e0 : ds.drop us.length = [] := by rw [ha, List.drop_length]
        rw [e0] at q4
        unfold compE at q4
        cases q4
        rw [List.append_nil] at q6
        subst q6
        exact w Dl acc H' (t1.trans q5) (Same.free t1 hD) q1 q2
    · exact w.elim
section
variable {elt it : Expr} {ifs : List Expr} {scope : Scope} {a b : Str} {ja jb : Nat} {p pa pb pos pos' tpos : Pos} {kk : Nat} {mi me : DS → R D} {mt : DS → R Bool}
theorem pg_two {X : Cx} (hc : X.calm = true) (hN : X.N.Nodup) (hi : X.N[ja]? = some a) (hj : X.N[jb]? = some b) (ha : Loc X.env.scope a) (hb : Loc X.env.scope b) (hfa : X.fn a = true ∨ X.env.scope.names.lookup a = some .local) (hfb : X.fn b = true ∨ X.env.scope.names.lookup b = some .local) :
    PG X (.Tuple [.Name a pa, .Name b pb] kk tpos) (gTup X.K 2 (fun vs σ H Q => ∃ x y, vs = [x, y] ∧ Q ((σ.set ja (some x)).set jb (some y)) H)) := by
  have h := pg_tup (pos := tpos) (k := kk) hc (pgs_cons (pg_name (pos := pa) hN hi ha hfa) (pgs_cons (pg_name (pos := pb) hN hj hb hfb) pgs_nil))
  refine ⟨fun pins s σ H v u Q I r hw => h.run pins s σ H v u Q I r ?_⟩
  obtain ⟨q, xs, e1, hq, hl, x, y, e2, hQ⟩ := hw
  subst e2
  exact ⟨q, [x, y], e1, hq, hl, x, [y], rfl, y, [], rfl, rfl, hQ⟩
theorem dn_compE (hc : X.calm = true) (hN : X.N.Nodup) (hgl : Gl X "enumerate") (hm : X.mg "enumerate" = none) (hi : DE X Y it mi) (ok : BlkOk X.N X.env.scope scope [(a, ja), (b, jb)])
    (hg : ∀ (s : Shared) (H : Hp) (C : Addr) (cl : List (Str × Addr)) (fp : List Addr), PG (X.blk s H scope (compEnvC scope cl C X.env) fp) (.Tuple [.Name a pa, .Name b pb] kk tpos) (gTup X.K 2 (fun vs σ H Q => ∃ x y, vs = [x, y] ∧ Q ((σ.set ja (some x)).set jb (some y)) H))) (ht : tBlk X Y scope ifs mt) (he : dBlk X Y scope elt me)
    (hw : ∀ σ x y, wipe (((wipe σ [ja, jb]).set ja (some x)).set jb (some y)) [ja, jb] = wipe σ [ja, jb]) (hs1 : starEach [it] X.env = [(false, eval it X.env)] := by rfl) (hs : ∀ x, foldedSetIterable (.Call (.Name "enumerate" p) [it] [] pos') X.env x = pure x := by intro _; rfl) :
    DN X Y (.ListComp elt [⟨.Tuple [.Name a pa, .Name b pb] kk tpos, .Call (.Name "enumerate" p) [it] [] pos', ifs, 0⟩] scope pos) (mCompE [ja, jb] ja jb mi mt me) := by
  obtain ⟨ti, pi, qi⟩ := hi
  exact ⟨_, pe_lc (own := [(a, ja), (b, jb)]) (tt := canT X.K (noX Y) mt) (te := canE X.K (noX Y) me) hc hN (pi_num0 hgl hm pi hs1) ok hg (fun s H C cl fp => (ht s H C cl fp).can) (fun s H C cl fp => (he s H C cl fp).can) hs, compE_sem qi hw⟩
theorem dn_compES {i : Nat} {y : Str} {py spos : Pos} (hy : X.N[i]? = some y) (hyl : X.env.scope.names.lookup y = some .local) (hsw : swapsWith (.ListComp elt [⟨.Tuple [.Name a pa, .Name b pb] kk tpos, .Call (.Name "enumerate" p) [it] [] pos', ifs, 0⟩] scope pos) (some (.Name y py)) spos.line X.env = pure true)
    (hc : X.calm = true) (hN : X.N.Nodup) (hgl : Gl X "enumerate") (hm : X.mg "enumerate" = none) (hi : DE X Y it mi) (ok : BlkOk X.N X.env.scope scope [(a, ja), (b, jb)])
    (hg : ∀ (s : Shared) (H : Hp) (C : Addr) (cl : List (Str × Addr)) (fp : List Addr), PG (X.blk s H scope (compEnvC scope cl C X.env) fp) (.Tuple [.Name a pa, .Name b pb] kk tpos) (gTup X.K 2 (fun vs σ H Q => ∃ x y, vs = [x, y] ∧ Q ((σ.set ja (some x)).set jb (some y)) H))) (ht : tBlk X Y scope ifs mt) (he : dBlk X Y scope elt me)
    (hw : ∀ σ x y, wipe (((wipe σ [ja, jb]).set ja (some x)).set jb (some y)) [ja, jb] = wipe σ [ja, jb]) (hs1 : starEach [it] X.env = [(false, eval it X.env)] := by rfl) (hs : ∀ x, foldedSetIterable (.Call (.Name "enumerate" p) [it] [] pos') X.env x = pure x := by intro _; rfl) :
    ∃ t, PS X (.Assign [.Name y py] (.ListComp elt [⟨.Tuple [.Name a pa, .Name b pb] kk tpos, .Call (.Name "enumerate" p) [it] [] pos', ifs, 0⟩] scope pos) spos) (tAsg t (gName i)) ∧ NSem X Y t (mCompE [ja, jb] ja jb mi mt me) := by
  obtain ⟨ti, pi, qi⟩ := hi
  exact ⟨_, ps_setLc (own := [(a, ja), (b, jb)]) (tt := canT X.K (noX Y) mt) (te := canE X.K (noX Y) me) hc hN hy hyl hsw (pi_num0 hgl hm pi hs1) ok hg (fun s H C cl fp => (ht s H C cl fp).can) (fun s H C cl fp => (he s H C cl fp).can) hs, compE_sem qi hw⟩
end
end
theorem wipe_two {σ : St} {i j : Nat} (h : i ≠ j) {x y : V} : wipe (((wipe σ [i, j]).set i (some x)).set j (some y)) [i, j] = wipe σ [i, j] := by
  show (((((σ.set j none).set i none).set i (some x)).set j (some y)).set j none).set i none = (σ.set j none).set i none
  rw [List.set_set, List.set_set]
  rw [List.set_comm _ _ h, List.set_set, List.set_set]
end L2
namespace L2
open PySem PySem.Spec PyProof.Rows
/-! ## heaps in the state -/
theorem vals_ia : ∀ {xs : List Int} {its : List Value}, Vals (xs.map V.int) its → PySem.IA xs its.toArray := fun {xs its} h => by
  have hl := h.length
  rw [List.length_map] at hl
  refine ⟨by rw [List.size_toArray]; exact hl.symm, fun i x e => ?_⟩
  obtain ⟨u, hu, t, ru⟩ := h.get (i := i) (x := V.int x) (by rw [List.getElem?_map, e]; rfl)
  exact ⟨t, by rw [List.getElem?_toArray, hu, ru]⟩
theorem ia_vals {xs : List Int} {its : Array Value} (h : PySem.IA xs its) : Vals (xs.map V.int) its.toList := by
  obtain ⟨l⟩ := its
  show Vals (xs.map V.int) l
  have hl : l.length = xs.length := h.len
  have at_ : ∀ (i : Nat) (x : Int), xs[i]? = some x → ∃ t, l[i]? = some (Value.int x t) := fun i x e => by
    obtain ⟨t, q⟩ := h.at_ i x e
    exact ⟨t, by rw [← q, List.getElem?_toArray]⟩
  clear h
  induction xs generalizing l with
  | nil =>
    cases l with
    | nil => exact .nil
    | cons v l => cases hl
  | cons x xs ih =>
    cases l with
    | nil => cases hl
    | cons v l =>
      obtain ⟨t, q⟩ := at_ 0 x rfl
      cases q
      exact .cons ⟨t, rfl⟩ (ih l (by simpa using hl) fun i y e => at_ (i + 1) y e)
def rHpop : List V → Hp → VK → Prop := fun vs H Q => ∃ (l : Addr) (xs ys : List Int) (x : Int), vs = [.ref l] ∧ H l = some (.lst (xs.map V.int)) ∧ PySem.hqPop xs = some (x, ys) ∧ xs.length ≤ 1000 ∧ ys.length ≤ 1000 ∧ Q (.int x) (upd H l (.lst (ys.map V.int)))
def rHpush : List V → Hp → VK → Prop := fun vs H Q => ∃ (l : Addr) (xs ys : List Int) (x : Int), vs = [.ref l, .int x] ∧ H l = some (.lst (xs.map V.int)) ∧ PySem.hqPush xs x = some ys ∧ xs.length < 1000 ∧ ys.length ≤ 1000 ∧ Q .non (upd H l (.lst (ys.map V.int)))
section
variable {X : Cx}
theorem call_hpop : CallR X (.builtin "_heapq.heappop") rHpop := by
  intro pins s σ H vs us Q I r h
  obtain ⟨l, xs, ys, x, rfl, hH, hp, hz, hz2, q⟩ := h
  rw [Vals.ref1 r]
  obtain ⟨_, its, n, rv, _, e⟩ := I.lstM hH
  refine PySem.pop_run hp hz (vals_ia rv) e fun t its' c' h' tk i' g' k' => ?_
  have big : (1000 : Nat) ≤ sizeLine := by decide
  refine ⟨.int x, _, I.write (x := l) (e := l) (o := .lst (ys.map V.int)) (h' := h') (t' := tk) (by rw [hH]; exact trivial) (.inl rfl) (fun b u hb hu => k' b u hb hu) ⟨_, g'⟩ ⟨by rw [List.length_map]; omega, its'.toList, c', ia_vals i', g'⟩, ⟨t, rfl⟩, q⟩
theorem call_hpush : CallR X (.builtin "_heapq.heappush") rHpush := by
  intro pins s σ H vs us Q I r h
  obtain ⟨l, xs, ys, x, rfl, hH, hp, hz, hz2, q⟩ := h
  obtain ⟨u, w', rfl, r1, ⟨t, rfl⟩⟩ := vals2 r
  cases r1
  obtain ⟨_, its, n, rv, _, e⟩ := I.lstM hH
  refine PySem.push_run hp hz (vals_ia rv) e fun its' c' h' tk i' g' k' => ?_
  have big : (1000 : Nat) ≤ sizeLine := by decide
  refine ⟨.non, _, I.write (x := l) (e := l) (o := .lst (ys.map V.int)) (h' := h') (t' := tk) (by rw [hH]; exact trivial) (.inl rfl) (fun b u hb hu => k' b u hb hu) ⟨_, g'⟩ ⟨by rw [List.length_map]; omega, its'.toList, c', ia_vals i', g'⟩, rfl, q⟩
/-- f(e, ..), f a builtin that stands at the top under this name -/
theorem pe_callI {id : String} {x : Str} {p pos : Pos} {e : Expr} {es : List Expr} {t : TA} {r : List V → Hp → VK → Prop} (hc : CallR X (.builtin id) r) (hg : Gl X x) (hm : X.mg x = some (.builtin id)) (ha : PA X (e :: es) t) (hdb : (x == ("__debug__" : Str)) = false := by decide)
    (he : starEach (e :: es) X.env = (false, eval e X.env) :: starEach es X.env := by rfl) (hpl : (backTo pos (starEach es X.env)).any (·.1) = false := by rfl) : PE X (.Call (.Name x p) (e :: es) [] pos) (tCB r t) := by
  refine ⟨fun pins s σ H Q I h => wpAny_Call_Name_kw (ld_glob I hg hm ?_ hdb)⟩
  exact PyProof.Rows.callWith_builtin1 (thn (ha.run pos pins s σ H _ I h) fun us s1 ⟨vs, H1, I1, r1, q1⟩ => hc pins s1 σ H1 vs us Q I1 r1 q1) he hpl
end
theorem dp_ints_inv {K : PySem.W.Frag} {H : Hp} : ∀ {xs : List Int} {vs : List V}, DpAll K H vs (xs.map PyData.int) → vs = xs.map V.int
  | [], _, .nil => rfl
  | x :: xs, _, .cons h1 h2 => by
    cases h1
    rw [dp_ints_inv h2]; rfl
theorem dpAll_ints {K : PySem.W.Frag} {H : Hp} : ∀ xs : List Int, DpAll K H (xs.map V.int) (xs.map PyData.int)
  | [] => .nil
  | x :: xs => .cons (.int x) (dpAll_ints xs)
def hpopK (i j : Nat) (δ : DS) (ds : List D) : R Out := match intsD ds with
  | some xs => match PySem.hqPop xs with
    | some (x, ys) => R.when (decide (xs.length ≤ 1000 ∧ ys.length ≤ 1000) && inB i δ) (.ok (.nx ((δ.set j (some (.list (ys.map PyData.int)))).set i (some (.int x)))))
    | none => .bad
  | none => .bad
/-- y = heappop(x), x an owned slot -/
def mHpop (i j : Nat) : DS → R Out := fun δ => (ownedL j δ).bind (hpopK i j δ)
def hpushK (j : Nat) (δ : DS) (ds : List D) (d : D) : R Out := match intsD ds, d with
  | some xs, .int x => match PySem.hqPush xs x with
    | some ys => R.when (decide (xs.length < 1000 ∧ ys.length ≤ 1000)) (.ok (.nx (δ.set j (some (.list (ys.map PyData.int))))))
    | none => .bad
  | _, _ => .bad
def mHpush (O : List Nat) (j : Nat) (m : DS → R D) : DS → R Out := fun δ => (ownedL j δ).bind fun ds => (m (hideD O δ)).run δ fun d => hpushK j δ ds d
section
variable {X : Cx} {Y : Wy} {O : List Nat}
theorem ds_hpop {i j : Nat} {x y fn : Str} {p px py pos spos : Pos} (hN : X.N.Nodup) (hi : X.N[i]? = some y) (hx : Loc X.env.scope y) (hj : X.N[j]? = some x) (hv : Vis X.env.scope x) (hg : Gl X fn) (hm : X.mg fn = some (.builtin "_heapq.heappop")) (ho : j ∈ O := by decide) (hoi : i ∉ O := by decide)
    (hdb : (fn == ("__debug__" : Str)) = false := by decide) (hd : (x == ("__debug__" : Str)) = false := by decide) (hcd : (x == ("__classdict__" : Str)) = false := by decide) (he : starEach [.Name x px] X.env = (false, eval (.Name x px) X.env) :: starEach [] X.env := by rfl) (hpl : (backTo pos (starEach [] X.env)).any (·.1) = false := by rfl)
    (hs : swapsWith (.Call (.Name fn p) [.Name x px] [] pos) (some (.Name y py)) spos.line X.env = pure false := by rfl) (hf : X.fn y = true ∨ X.env.scope.names.lookup y = some .local := by first | exact .inl rfl | exact .inr rfl | assumption) :
    DSt X Y O (.Assign [.Name y py] (.Call (.Name fn p) [.Name x px] [] pos) spos) (mHpop i j) := by
  refine ⟨_, ps_set hN hi hx (pe_callI call_hpop hg hm (pa_cons (pe_var hj hv hd hcd) pa_nil he) hdb he hpl) hs hf, fun A0 T H0 σ δ H Dn s w => ?_⟩
  unfold mHpop at w
  cases e0 : ownedL j δ with
  | bad => rw [e0] at w; exact w.elim
  | ex k => unfold ownedL at e0; split at e0 <;> cases e0
  | ok ds =>
    rw [e0] at w
    have ej := ownedL_ok e0
    replace w : WpS X.K Y A0 O T H0 (hpopK i j δ ds) Dn := w
    unfold hpopK at w
    cases e1 : intsD ds with
    | none => rw [e1] at w; exact w.elim
    | some xs =>
      rw [e1] at w
      have ed := ints_inv e1
      subst ed
      dsimp only at w
      cases e2 : PySem.hqPop xs with
      | none => rw [e2] at w; exact w.elim
      | some q =>
        obtain ⟨x', ys⟩ := q
        rw [e2] at w
        obtain ⟨hb, w⟩ := R.when_ok (fun r => WpS X.K Y A0 O T H0 r Dn) w id
        rw [Bool.and_eq_true] at hb
        obtain ⟨hz, hz2⟩ := of_decide_eq_true hb.1
        obtain ⟨w0, cv, sr, up, kp, tm, lst, own, mt⟩ := s.share
        obtain ⟨f1, ⟨vs, f2, f3⟩, fin⟩ := mt j (xs.map PyData.int) (ys.map PyData.int) (ys.map V.int) H ho ej (Same.refl H) (dpAll_ints ys)
        have ev := dp_ints_inv f3
        subst ev
        have hbi : inB i (δ.set j (some (.list (ys.map PyData.int)))) = true := by
          unfold inB at hb ⊢
          rw [List.length_set]; exact hb.2
        exact ⟨_, f1, w0 j, xs, ys, x', rfl, f2, e2, hz, hz2, w _ _ ((fin.temp (tmD X.K (.int x') (.int x')) fun _ _ => .int x').setT hoi hbi)⟩
theorem ds_hpush {j : Nat} {x fn : Str} {e : Expr} {m : DS → R D} {p px pos spos : Pos} (hj : X.N[j]? = some x) (hv : Vis X.env.scope x) (he : DE X Y e m) (hg : Gl X fn) (hm : X.mg fn = some (.builtin "_heapq.heappush")) (ho : j ∈ O := by decide)
    (hdb : (fn == ("__debug__" : Str)) = false := by decide) (hd : (x == ("__debug__" : Str)) = false := by decide) (hcd : (x == ("__classdict__" : Str)) = false := by decide) (hs1 : starEach [.Name x px, e] X.env = (false, eval (.Name x px) X.env) :: starEach [e] X.env := by rfl) (hs2 : starEach [e] X.env = (false, eval e X.env) :: starEach [] X.env := by rfl) (hpl : (backTo pos (starEach [e] X.env)).any (·.1) = false := by rfl)
    (hs : swapsWith (.Call (.Name fn p) [.Name x px, e] [] pos) none spos.line X.env = pure false := by rfl) : DSt X Y O (.Expr (.Call (.Name fn p) [.Name x px, e] [] pos) spos) (mHpush O j m) := by
  obtain ⟨t, pe, q⟩ := he
  refine ⟨_, ps_expr (pe_callI call_hpush hg hm (pa_cons (pe_var hj hv hd hcd) (pa_cons pe pa_nil hs2) hs1) hdb hs1 hpl) hs, fun A0 T H0 σ δ H Dn s w => ?_⟩
  unfold mHpush at w
  cases e0 : ownedL j δ with
  | bad => rw [e0] at w; exact w.elim
  | ex k => unfold ownedL at e0; split at e0 <;> cases e0
  | ok ds =>
    rw [e0] at w
    have ej := ownedL_ok e0
    obtain ⟨w0, cv, sr, up, kp, tm, lst, own, mt⟩ := s.share
    obtain ⟨f1, ⟨vs0, f2, f3⟩, _⟩ := mt j ds [] [] H ho ej (Same.refl H) .nil
    refine ⟨_, f1, q σ (hideD O δ) H _ cv sr _ ?_⟩
    replace w : WpS X.K Y A0 O T H0 ((m (hideD O δ)).run δ fun d => hpushK j δ ds d) Dn := w
    cases em : m (hideD O δ) with
    | bad => rw [em] at w; exact w
    | ex k => rw [em] at w; exact fun H' t => w σ H' (s.keep t)
    | ok d =>
      rw [em] at w
      replace w : WpS X.K Y A0 O T H0 (hpushK j δ ds d) Dn := w
      unfold hpushK at w
      split at w
      · rename_i xs x' e1
        have ed := ints_inv e1
        subst ed
        split at w
        · rename_i ys e2
          obtain ⟨hb, w⟩ := R.when_ok (fun r => WpS X.K Y A0 O T H0 r Dn) w id
          obtain ⟨hz, hz2⟩ := of_decide_eq_true hb
          refine fun v H1 t1 r1 => ?_
          cases r1
          obtain ⟨g1, ⟨vs, g2, g3⟩, fin⟩ := mt j (xs.map PyData.int) (ys.map PyData.int) (ys.map V.int) H1 ho ej t1 (dpAll_ints ys)
          have ev := dp_ints_inv g3
          subst ev
          exact ⟨w0 j, xs, ys, x', rfl, g2, e2, hz, hz2, w _ _ fin⟩
        · exact w.elim
      · exact w.elim
end
end L2
namespace PySem
open PySem.AutoSeq1
/-- l.extend(b), b a list -/
theorem ext_lst (l : Addr) (xs : Array Value) (n : Nat) (b : Addr) (ys : Array Value) (m : Nat) (sl : Array (Option Value)) (h0 : ¬(!xs.isEmpty && Builtin.List.listTooLong (xs.size + ys.size)) = true) (h1 : xs.size ≤ sizeLine) (h2 : (xs ++ ys).size ≤ sizeLine + 1) :
    Meets (Builtin.«list.extend» ⟨[.ref l, .ref b], []⟩) (fun _ R s => s.heap.get? l = some { cls := .type "list", dict := none, data := .seq xs n, slots := #[] } ∧ s.heap.get? b = some { cls := .type "list", dict := none, data := .seq ys m, slots := sl } ∧
      R (.ok (.ret Value.none)) { s with heap := s.heap.update l (Obj.mapSeq fun x => x ++ ys), toks := s.toks }) := .of_wp fun prog w A R s h => by
    obtain ⟨hp, g, d, tk, os⟩ := s; obtain ⟨hl, hb, h⟩ := h; have f1 := sub_tuple_tuple; have f2 := sub_list_list; have f3 := sub_tuple_list; have f4 := sub_list_tuple
    wp_walk using (wpAny_updateSeq hl rfl (hz := h1) (_hz' := h2)), wpAny_loadPart' hl, wpAny_loadPart' hb; exact ⟨_, rfl, h⟩
theorem ext_tup (l : Addr) (xs : Array Value) (n : Nat) (b : Addr) (ys : Array Value) (m : Nat) (dd : Option Addr) (sl : Array (Option Value)) (h0 : ¬(!xs.isEmpty && Builtin.List.listTooLong (xs.size + ys.size)) = true) (h1 : xs.size ≤ sizeLine) (h2 : (xs ++ ys).size ≤ sizeLine + 1) :
    Meets (Builtin.«list.extend» ⟨[.ref l, .ref b], []⟩) (fun _ R s => s.heap.get? l = some { cls := .type "list", dict := none, data := .seq xs n, slots := #[] } ∧ s.heap.get? b = some { cls := .type "tuple", dict := dd, data := .seq ys m, slots := sl } ∧
      R (.ok (.ret Value.none)) { s with heap := s.heap.update l (Obj.mapSeq fun x => x ++ ys), toks := s.toks }) := .of_wp fun prog w A R s h => by
    obtain ⟨hp, g, d, tk, os⟩ := s; obtain ⟨hl, hb, h⟩ := h; have f1 := sub_tuple_tuple; have f2 := sub_list_list; have f3 := sub_tuple_list; have f4 := sub_list_tuple
    wp_walk using (wpAny_updateSeq hl rfl (hz := h1) (_hz' := h2)), wpAny_loadPart' hl, wpAny_loadPart' hb; exact ⟨_, rfl, h⟩
end PySem
namespace L2
open PySem PySem.Spec PyProof.Rows
section
variable {X : Cx}
def rExtA (K : PySem.W.Frag) : V → List V → Hp → VK → Prop := fun x vs H Q => ∃ l b xs zs, x = .ref l ∧ vs = [.ref b] ∧ H l = some (.lst xs) ∧ (SqL K H b zs ∨ SqT K H b zs) ∧ xs.length + zs.length ≤ sizeLine ∧ Q .non (upd H l (.lst (xs ++ zs)))
theorem mt_extA : MtM X "list.extend" (rExtA X.K) := by
  intro pins s σ H x vs v us Q I rx rv h
  obtain ⟨l, b, xs, zs, rfl, rfl, hH, hB, hz, q⟩ := h
  cases rx
  obtain ⟨u, rfl, ru⟩ := rv.one
  cases ru
  obtain ⟨z, its, n, r, hl, e⟩ := I.lstM hH
  have key : ∀ its2 : List Value, Vals zs its2 → ¬ (!its.toArray.isEmpty && Builtin.List.listTooLong (its.toArray.size + its2.toArray.size)) = true ∧ its.toArray.size ≤ sizeLine ∧ (its.toArray ++ its2.toArray).size ≤ sizeLine + 1 := fun its2 r2 => by
    have h2 := r2.length
    refine ⟨?_, by rw [List.size_toArray]; omega, by rw [Array.size_append, List.size_toArray, List.size_toArray]; omega⟩
    rw [notLongL (by rw [List.size_toArray, List.size_toArray]; omega), Bool.and_false]
    exact Bool.false_ne_true
  rcases hB with hB | hB
  · obtain ⟨its2, r2, ⟨o, m, e2, c2, d2, s2⟩, z2⟩ := I.list hB
    obtain ⟨k0, k1, k2⟩ := key its2 r2
    obtain ⟨c, dd, dt, sl⟩ := o
    dsimp only at c2 d2 s2
    subst c2 d2 s2
    refine call_meets F.slot_list_extend ⟨_, e, rfl⟩ F.entry_list_extend (F.args_list_extend_2 _ _) (PySem.ext_lst l its.toArray n b its2.toArray m sl k0 k1 k2) ⟨e, e2, ?_⟩
    exact ⟨.non, _, I.lset (its' := its ++ its2) hH e (by simp) (r.append r2) (by rw [List.length_append]; omega), rfl, q⟩
  · obtain ⟨its2, r2, pt, z2⟩ := I.tuple hB
    obtain ⟨k0, k1, k2⟩ := key its2 r2
    obtain ⟨⟨c, dd, dt, sl⟩, e2, c2, m, d2⟩ := pt
    dsimp only at c2 d2
    subst c2 d2
    refine call_meets F.slot_list_extend ⟨_, e, rfl⟩ F.entry_list_extend (F.args_list_extend_2 _ _) (PySem.ext_tup l its.toArray n b its2.toArray m dd sl k0 k1 k2) ⟨e, e2, ?_⟩
    exact ⟨.non, _, I.lset (its' := its ++ its2) hH e (by simp) (r.append r2) (by rw [List.length_append]; omega), rfl, q⟩
end
end L2

namespace L2
open PySem PySem.Spec PyProof.Rows
section
variable {X : Cx} {Y : Wy} {O : List Nat}
/-! ## max -/
theorem reads_ints (h : Heap) : ∀ {xs : List Int} {its : List Value}, Vals (xs.map V.int) its → ReadsAll h its (xs.map PyData.int) []
  | [], _, .nil => .nil
  | x :: xs, _, .cons ⟨t, e⟩ r => by
    rw [e]
    exact .cons (as := []) (bs := []) (.int x t) (reads_ints h r)
theorem depth_ints : ∀ xs : List Int, PyData.depthAll (xs.map PyData.int) = 0
  | [] => by simp [PyData.depthAll]
  | x :: xs => by rw [List.map_cons, PyData.depthAll, depth_ints xs]; simp [PyData.depth]
theorem alike_ints (xs : List Int) : PySem.W.AlikeAll (xs.map PyData.int) := by
  refine ⟨fun x hx y hy => ?_, fun x hx => ?_⟩
  · obtain ⟨i, _, rfl⟩ := List.mem_map.mp hx
    obtain ⟨j, _, rfl⟩ := List.mem_map.mp hy
    rfl
  · obtain ⟨i, _, rfl⟩ := List.mem_map.mp hx
    exact fun z => nomatch z
def rMaxL (K : PySem.W.Frag) : List V → Hp → VK → Prop := fun vs H Q => ∃ (p : Addr) (n : Int) (ns : List Int), vs = [.ref p] ∧ SqL K H p ((n :: ns).map V.int) ∧ Q (.int (ns.foldl max n)) H
theorem cr_maxL (hc : X.calm = true) (hu : X.A.units + 65 < cLine) : CallR X (.builtin "max") (rMaxL X.K) := by
  intro pins s σ H vs us Q I r h
  obtain ⟨p, n, ns, rfl, hs, q⟩ := h
  obtain ⟨its, rv, hl, _⟩ := I.list hs
  rw [Vals.ref1 r]
  have hr : ReadsAll s.heap its.toArray.toList (.int n :: ns.map PyData.int) [] := reads_ints s.heap rv
  refine PySem.W.max_list_data (I.ok.hd hc) hl.isList hr (alike_ints (n :: ns)) ?_ fun i v h' tk bs _ rd k => ?_
  · have e := depth_ints (n :: ns)
    rw [List.map_cons] at e
    rw [e]; omega
  · rw [PySem.W.maxD_ints] at rd
    cases rd with
    | int i t => exact ⟨.int _, H, I.kept k, ⟨t, rfl⟩, q⟩
def gMaxL : List D → R D := fun ds => match ds with
  | [.list xs] => match intsD xs with
    | some (n :: ns) => .ok (.int (ns.foldl max n))
    | _ => .bad
  | _ => .bad
theorem dc_maxL : DCall X (rMaxL X.K) gMaxL := fun Y A H vs ds c hx Q w => by
  unfold gMaxL at w
  split at w
  · rename_i xs
    split at w
    · rename_i n ns e
      have ed := ints_inv e
      subst ed
      obtain ⟨v, rfl, h⟩ := dpAll1 hx
      obtain ⟨a, us, rfl, h1, h2⟩ := dp_list h
      have ev := dp_ints_inv h2
      subst ev
      exact ⟨a, n, ns, rfl, sqL_same mask_le h1, WpE.here (d := .int _) w (.int _)⟩
    · exact w.elim
  · exact w.elim
def rMax2 : List V → Hp → VK → Prop := fun xs H Q => ∃ i j, xs = [.int i, .int j] ∧ Q (.int (if j > i then j else i)) H
def gMax2 : List D → R D := fun ds => match ds with
  | [.int i, .int j] => .ok (.int (if j > i then j else i))
  | _ => .bad
theorem dc_max2 : DCall X rMax2 gMax2 := fun Y A H vs ds c hx Q w => by
  unfold gMax2 at w
  split at w
  · rename_i i j
    obtain ⟨v, u, rfl, h1, h2⟩ := dpAll2 hx
    cases h1
    cases h2
    exact ⟨i, j, rfl, WpE.here (d := .int _) w (.int _)⟩
  · exact w.elim
/-- max(e, default=c) -/
def rMaxD (K : PySem.W.Frag) (x y : V) (H : Hp) (Q : VK) : Prop := ∃ (p : Addr) (ns : List Int), x = .ref p ∧ SqL K H p (ns.map V.int) ∧ match ns with
  | [] => Q y H
  | n :: ns => Q (.int (ns.foldl max n)) H
theorem pe_maxD {e c : Expr} {te tc : TE} {p kp pos : Pos} (hc : X.calm = true) (hu : X.A.units + 65 < cLine) (hg : Gl X "max") (hm : X.mg "max" = none) (he : PE X e te) (hd : PE X c tc) (hs : starEach [e] X.env = [(false, eval e X.env)] := by rfl) :
    PE X (.Call (.Name "max" p) [e] [⟨some "default", c, kp⟩] pos) (fun σ H Q => tCons te tNil σ H fun vs H1 => tCons tc tNil σ H1 fun us H2 => ∃ x y, vs = [x] ∧ us = [y] ∧ rMaxD X.K x y H2 Q) := by
  refine ⟨fun pins s σ H Q I h => ?_⟩
  refine wpAny_Call_Name_kw (ld_blt I hg hm (show bootBuiltins "max" = some (.builtin "max") by decide +kernel) ?_)
  refine PySem.W.callWith_of (P := fun _ => True) (by rw [hs]; rfl) (fun h _ => ⟨.machine, .inr (.inl rfl), fun A Q E s _ q => wpAny_pure q⟩) (evalArgs_kw2 (by rfl) (thn ((pa_cons he pa_nil hs).run pos pins s σ H _ I h) fun us s1 ⟨vs, H1, I1, r1, q1⟩ => ?_) hs)
  refine thn ((pk_cons hd pk_nil).run pos pins s1 σ H1 _ I1 q1) fun ks s2 ⟨zs, H2, I2, r2, q2⟩ => ⟨trivial, ?_⟩
  obtain ⟨x, y, rfl, rfl, a, ns, rfl, hq, q⟩ := q2
  obtain ⟨w', rfl, ry⟩ := vals1 r2
  rw [Vals.ref1 r1]
  obtain ⟨its, rv, hl, _⟩ := I2.list hq
  have hr : ReadsAll s2.heap its.toArray.toList (ns.map PyData.int) [] := reads_ints s2.heap rv
  refine PySem.W.max_list_default (I2.ok.hd hc) hl.isList hr (alike_ints ns) (by rw [depth_ints]; omega) (fun e0 h' tk k => ?_) fun z zs i v h' tk bs e0 _ rd k => ?_
  · cases ns with
    | nil => exact ⟨y, H2, I2.kept k, ry, q⟩
    | cons n ns => cases e0
  · cases ns with
    | nil => cases e0
    | cons n ns =>
      cases e0
      rw [PySem.W.maxD_ints] at rd
      cases rd with
      | int i t => exact ⟨.int _, H2, I2.kept k, ⟨t, rfl⟩, q⟩
def maxDK (u : D) : D → R D := fun d => match d with
  | .list xs => match intsD xs with
    | some [] => .ok u
    | some (n :: ns) => .ok (.int (ns.foldl max n))
    | none => .bad
  | _ => .bad
def mMaxD (m mc : DS → R D) : DS → R D := fun δ => (m δ).bind fun d => (mc δ).bind fun u => maxDK u d
theorem de_maxD {e c : Expr} {m mc : DS → R D} {p kp pos : Pos} (hc : X.calm = true) (hu : X.A.units + 65 < cLine) (hg : Gl X "max") (hm : X.mg "max" = none) (he : DE X Y e m) (hd : DE X Y c mc) (hs : starEach [e] X.env = [(false, eval e X.env)] := by rfl) : DE X Y (.Call (.Name "max" p) [e] [⟨some "default", c, kp⟩] pos) (mMaxD m mc) := by
  obtain ⟨t, pe, q⟩ := he
  obtain ⟨tc, pc, qc⟩ := hd
  refine ⟨_, pe_maxD hc hu hg hm pe pc hs, fun σ δ H A c s Q w => de_seq (Y := Y) q c s w fun d v H1 t1 r1 w1 => de_seq (Y := Y) qc (c.mono t1) (s.mono t1) w1 fun u y H2 t2 r2 w2 => ?_⟩
  unfold maxDK at w2
  split at w2
  · rename_i xs
    obtain ⟨a, us, rfl, h1, h2⟩ := dp_list (Dp.same (Same.mask t2) r1)
    split at w2
    · rename_i e0
      have ed := ints_inv e0
      subst ed
      have ev := dp_ints_inv h2
      subst ev
      exact ⟨_, _, rfl, rfl, a, [], rfl, sqL_same mask_le h1, w2.here r2⟩
    · rename_i n ns e0
      have ed := ints_inv e0
      subst ed
      have ev := dp_ints_inv h2
      subst ev
      exact ⟨_, _, rfl, rfl, a, n :: ns, rfl, sqL_same mask_le h1, w2.here (.int _)⟩
    · exact w2.elim
  · exact w2.elim
/-! ## e[::-1] -/
def revK : D → R (List D) := fun d => match d with
  | .list ds => .ok ds.reverse
  | _ => .bad
theorem DpAll.rev {K : PySem.W.Frag} {H : Hp} : ∀ {ds : List D} {vs : List V}, DpAll K H vs ds → DpAll K H vs.reverse ds.reverse
  | _, _, .nil => .nil
  | _, _, .cons h1 h2 => by
    rw [List.reverse_cons, List.reverse_cons]
    exact h2.rev.app (.cons h1 .nil)
theorem dn_rev {e : Expr} {m : DS → R D} {k : Nat} {p1 p2 p3 pos : Pos} (he : DE X Y e m) : DN X Y (.Subscript e (.Slice none none (some (.UnaryOp .USub (.Constant (.int 1) k p1) p2)) p3) pos) (fun δ => (m δ).bind revK) := by
  obtain ⟨t, p, q⟩ := he
  refine ⟨_, pe_revL p, fun σ δ H A c s Q w => q σ δ H A c s _ ?_⟩
  replace w : WpL X.K (Y.at σ) A H ((m δ).bind revK) Q := w
  cases e1 : m δ with
  | bad => rw [e1] at w; exact w.elim
  | ex n => rw [e1] at w; exact w
  | ok d =>
    rw [e1] at w
    refine fun v H1 t1 r1 => ?_
    replace w : WpL X.K (Y.at σ) A H (revK d) Q := w
    unfold revK at w
    split at w
    · rename_i ds
      obtain ⟨a, us, rfl, h1, h2⟩ := dp_list r1
      exact ⟨a, us, rfl, sqL_same mask_le h1, (WpL.mono w t1).newly h2.rev⟩
    · exact w.elim
/-! ## a value's truth -/
theorem dt_truth {e : Expr} {m : DS → R D} (h : DE X Y e m) (he : ∀ whole, isTrue e X.env whole = (do let v ← whole; standAt e.pos; holding [v] (truthy v)) := by intro _; rfl) : DT X Y e (fun δ => (m δ).bind truD) := by
  obtain ⟨t, p, q⟩ := h
  refine ⟨_, pt_truth p he, fun σ δ H A c s Q w => dt_seq (Y := Y) q c s w fun d v H1 t1 r1 w1 => ?_⟩
  cases d with
  | none =>
    cases r1
    exact ⟨false, rfl, WpT.here w1⟩
  | bool b =>
    cases r1
    exact ⟨b, rfl, WpT.here w1⟩
  | int i =>
    cases r1
    exact ⟨_, rfl, WpT.here w1⟩
  | str z =>
    cases r1
    replace w1 : WpT (Y.at σ) H1 (R.when (szOk z.length) (.ok (z.length != 0))) Q := w1
    obtain ⟨hb, w1⟩ := R.when_ok (fun r => WpT (Y.at σ) H1 r Q) w1 id
    refine ⟨_, ⟨of_decide_eq_true hb, rfl⟩, ?_⟩
    have e : ((z.length : Int) != 0) = (z.length != 0) := by
      by_cases h : z.length = 0
      · rw [h]; rfl
      · rw [bne_iff_ne.mpr h, bne_iff_ne.mpr (by omega)]
    rw [e]
    exact WpT.here w1
  | list ds =>
    obtain ⟨a, us, rfl, h1, h2⟩ := dp_list r1
    refine ⟨!us.isEmpty, .inl ⟨us, sqL_same mask_le h1, rfl⟩, ?_⟩
    have e : us.isEmpty = ds.isEmpty := by cases h2 <;> rfl
    rw [e]
    exact WpT.here w1
  | tuple ds =>
    obtain ⟨a, us, rfl, h1, h2⟩ := dp_tup r1
    refine ⟨!us.isEmpty, .inr (.inl ⟨us, sqT_same mask_le h1, rfl⟩), ?_⟩
    have e : us.isEmpty = ds.isEmpty := by cases h2 <;> rfl
    rw [e]
    exact WpT.here w1
  | dict kvs => exact w1.elim
end
end L2
namespace L2
open PySem PySem.Spec PyProof.Rows
/-! ## x.extend(e), y = x.pop(), x[j] -= e: x an owned slot -/
def extK (i : Nat) (δ : DS) (ds : List D) (d : D) : R Out := match seqD d with
  | some es => R.when (szOk (ds.length + es.length)) (.ok (.nx (δ.set i (some (.list (ds ++ es))))))
  | none => .bad
def mExt (O : List Nat) (i : Nat) (m : DS → R D) : DS → R Out := fun δ => (ownedL i δ).bind fun ds => (m (hideD O δ)).run δ fun d => extK i δ ds d
def popK (i j : Nat) (δ : DS) (ds : List D) : R Out := match ds.getLast? with
  | some d => R.when (inB i δ) (.ok (.nx ((δ.set j (some (.list ds.dropLast))).set i (some d))))
  | none => .bad
def mPop (i j : Nat) : DS → R Out := fun δ => (ownedL j δ).bind (popK i j δ)
def augK (f : Int → Int → Int) (i : Nat) (δ : DS) (ds : List D) (k : D) (y : D) : R Out := match k, y with
  | .int k, .int b => match ixN ds.length k with
    | some n => match ds[n]? with
      | some (.int a) => .ok (.nx (δ.set i (some (.list (ds.set n (.int (f a b)))))))
      | _ => .bad
    | none => .bad
  | _, _ => .bad
/-- an answer that is no refusal -/
def calmR (r : R D) (f : D → R Out) : R Out := match r with
  | .ok y => f y
  | _ => .bad
def mAugI (f : Int → Int → Int) (O : List Nat) (i : Nat) (mk me : DS → R D) : DS → R Out := fun δ => (ownedL i δ).bind fun ds => (mk (hideD O δ)).run δ fun k => calmR (me (hideD O δ)) (augK f i δ ds k)
section
variable {X : Cx} {Y : Wy} {O : List Nat}
theorem ds_ext {i : Nat} {x : Str} {e : Expr} {m : DS → R D} {px apos cpos pos : Pos} (hi : X.N[i]? = some x) (hv : Vis X.env.scope x) (he : DE X Y e m) (ho : i ∈ O := by decide) (hd : (x == ("__debug__" : Str)) = false := by decide) (hcd : (x == ("__classdict__" : Str)) = false := by decide)
    (hbase : attributeBase (.Name x px) "extend" X.env (eval (.Name x px) X.env) = eval (.Name x px) X.env := by rfl)
    (hfew : ((backTo cpos (starEach [e] X.env)).all (fun x => !x.1) && (backToKw cpos (keywordEach [] X.env)).all (fun x => x.1.isSome) && decide (([e] : List Expr).length + ([] : List Keyword).length + (if ([] : List Keyword).isEmpty then 0 else 1) < 30)) = true := by rfl)
    (hline : (apos.endLine == cpos.line) = true := by rfl) (hs : starEach [e] X.env = (false, eval e X.env) :: starEach [] X.env := by rfl) (hsw : swapsWith (.Call (.Attribute (.Name x px) "extend" apos) [e] [] cpos) none pos.line X.env = pure false := by rfl) :
    DSt X Y O (.Expr (.Call (.Attribute (.Name x px) "extend" apos) [e] [] cpos) pos) (mExt O i m) := by
  obtain ⟨t, p, q⟩ := he
  refine ⟨_, ps_expr (pe_bm PySem.F.plainAttrs_list PySem.F.slot_list_extend PySem.F.type_list_extend mt_extA (pe_var hi hv hd hcd) (pa_cons p pa_nil hs) hbase hfew hline hs) hsw, fun A0 T H0 σ δ H Dn s w => ?_⟩
  unfold mExt at w
  cases e0 : ownedL i δ with
  | bad => rw [e0] at w; exact w.elim
  | ex k => unfold ownedL at e0; split at e0 <;> cases e0
  | ok ds =>
    rw [e0] at w
    have ei := ownedL_ok e0
    obtain ⟨w0, cv, sr, up, kp, tm, lst, own, mt⟩ := s.share
    obtain ⟨e1, ⟨vs0, e2, e3⟩, _⟩ := mt i ds [] [] H ho ei (Same.refl H) .nil
    refine ⟨_, e1, .inl ⟨rfl, vs0, .inl (.inl e2)⟩, ?_⟩
    refine q σ (hideD O δ) H _ cv sr _ ?_
    replace w : WpS X.K Y A0 O T H0 ((m (hideD O δ)).run δ fun d => extK i δ ds d) Dn := w
    cases em : m (hideD O δ) with
    | bad => rw [em] at w; exact w
    | ex k => rw [em] at w; exact fun H' t => w σ H' (s.keep t)
    | ok d =>
      rw [em] at w
      refine fun v H1 t1 r1 => ?_
      replace w : WpS X.K Y A0 O T H0 (extK i δ ds d) Dn := w
      unfold extK at w
      obtain ⟨_, ⟨vs, f2, f3⟩, _⟩ := mt i ds [] [] H1 ho ei t1 .nil
      cases d with
      | list es =>
        obtain ⟨hb, w⟩ := R.when_ok (fun r => WpS X.K Y A0 O T H0 r Dn) w id
        obtain ⟨a, us, rfl, h1, h2⟩ := dp_list r1
        obtain ⟨_, _, fin⟩ := mt i ds (ds ++ es) (vs ++ us) H1 ho ei t1 (f3.app h2)
        exact ⟨_, a, vs, us, rfl, rfl, f2, .inl (sqL_same mask_le h1), by rw [f3.len, h2.len]; exact of_decide_eq_true hb, w _ _ fin⟩
      | tuple es =>
        obtain ⟨hb, w⟩ := R.when_ok (fun r => WpS X.K Y A0 O T H0 r Dn) w id
        obtain ⟨a, us, rfl, h1, h2⟩ := dp_tup r1
        obtain ⟨_, _, fin⟩ := mt i ds (ds ++ es) (vs ++ us) H1 ho ei t1 (f3.app h2)
        exact ⟨_, a, vs, us, rfl, rfl, f2, .inr (sqT_same mask_le h1), by rw [f3.len, h2.len]; exact of_decide_eq_true hb, w _ _ fin⟩
      | _ => exact w.elim
theorem ds_pop {i j : Nat} {x y : Str} {px py apos cpos spos : Pos} (hN : X.N.Nodup) (hi : X.N[i]? = some y) (hx : Loc X.env.scope y) (hj : X.N[j]? = some x) (hv : Vis X.env.scope x) (ho : j ∈ O := by decide) (hoi : i ∉ O := by decide) (hd : (x == ("__debug__" : Str)) = false := by decide) (hcd : (x == ("__classdict__" : Str)) = false := by decide)
    (hbase : attributeBase (.Name x px) "pop" X.env (eval (.Name x px) X.env) = eval (.Name x px) X.env := by rfl) (hline : (apos.endLine == cpos.line) = true := by rfl)
    (hs : swapsWith (.Call (.Attribute (.Name x px) "pop" apos) [] [] cpos) (some (.Name y py)) spos.line X.env = pure false := by rfl) (hf : X.fn y = true ∨ X.env.scope.names.lookup y = some .local := by first | exact .inl rfl | exact .inr rfl | assumption) :
    DSt X Y O (.Assign [.Name y py] (.Call (.Attribute (.Name x px) "pop" apos) [] [] cpos) spos) (mPop i j) := by
  refine ⟨_, ps_set hN hi hx (pe_bm0 PySem.F.plainAttrs_list PySem.F.slot_list_pop PySem.F.type_list_pop mt_pop (pe_var hj hv hd hcd) hbase hline) hs hf, fun A0 T H0 σ δ H Dn s w => ?_⟩
  unfold mPop at w
  cases e0 : ownedL j δ with
  | bad => rw [e0] at w; exact w.elim
  | ex k => unfold ownedL at e0; split at e0 <;> cases e0
  | ok ds =>
    rw [e0] at w
    have ej := ownedL_ok e0
    replace w : WpS X.K Y A0 O T H0 (popK i j δ ds) Dn := w
    unfold popK at w
    cases e1 : ds.getLast? with
    | none => rw [e1] at w; exact w.elim
    | some d =>
      rw [e1] at w
      obtain ⟨hb, w⟩ := R.when_ok (fun r => WpS X.K Y A0 O T H0 r Dn) w id
      obtain ⟨w0, cv, sr, up, kp, tm, lst, own, mt⟩ := s.share
      obtain ⟨f1, ⟨vs, f2, f3⟩, _⟩ := mt j ds [] [] H ho ej (Same.refl H) .nil
      have hl : ds[ds.length - 1]? = some d := by rw [← List.getLast?_eq_getElem?]; exact e1
      obtain ⟨v, hv1, hv2⟩ := f3.get hl
      have s2 := tm (tmD X.K v d) H (Same.refl H) hv2
      obtain ⟨w1, cv1, sr1, up1, kp1, tm1, lst1, own1, mt1⟩ := s2.share
      obtain ⟨g1, ⟨vs', g2, g3⟩, _⟩ := mt1 j ds [] [] H ho ej (Same.refl H) .nil
      have ew : w1 j = w0 j := by
        rw [f1] at g1
        have z := Option.some.inj (Option.some.inj g1)
        injection z with z
        exact z.symm
      rw [ew, f2] at g2
      have ev : vs = vs' := by cases g2; rfl
      subst ev
      obtain ⟨_, _, fin⟩ := mt1 j ds ds.dropLast vs.dropLast H ho ej (Same.refl H) g3.dropLast
      rw [ew] at fin
      have hbi : inB i (δ.set j (some (.list ds.dropLast))) = true := by
        unfold inB at hb ⊢
        rw [List.length_set]; exact hb
      exact ⟨.ref (w0 j), f1, .inl ⟨rfl, vs, .inl (.inl f2)⟩, w0 j, vs, v, rfl, rfl, f2, by rw [f3.len]; exact hv1, w _ _ (fin.setT hoi hbi)⟩
def rGetL : V → V → Hp → VK → Prop := fun o i H Q => ∃ p xs k j v, o = .ref p ∧ i = .int k ∧ H p = some (.lst xs) ∧ ixN xs.length k = some j ∧ xs[j]? = some v ∧ Q v H
theorem get_own : PGet X rGetL := by
  intro pins s σ H o i ov iv Q I ro ri h
  obtain ⟨p, xs, k, j, v, rfl, rfl, hp, hj, hv, q⟩ := h
  cases ro
  obtain ⟨t, rfl⟩ := ri
  obtain ⟨z, its, n, rv, hl, e⟩ := I.lstM hp
  obtain ⟨u, hu, ru⟩ := rv.get hv
  have big : (sizeLine : Nat) < 2 ^ 62 := by decide
  have isl : s.heap.IsList p its.toArray := ⟨_, e, rfl, n, rfl⟩
  unfold ixN at hj
  by_cases h0 : 0 ≤ k
  · rw [if_pos h0] at hj
    by_cases h1 : k < xs.length
    · rw [if_pos h1] at hj
      have ej := Option.some.inj hj
      exact wpAny_getItem_list isl h0 (by omega) (by rw [ej, List.getElem?_toArray]; exact hu) ⟨v, H, I, ru, q⟩
    · rw [if_neg h1] at hj; cases hj
  · rw [if_neg h0] at hj
    by_cases h1 : -(xs.length : Int) ≤ k
    · rw [if_pos h1] at hj
      have ej := Option.some.inj hj
      refine wpAny_getItem_list_neg isl (by omega) (by rw [List.size_toArray]; omega) (by omega) ?_ ⟨v, H, I, ru, q⟩
      rw [List.size_toArray, ← hl, ej, List.getElem?_toArray]; exact hu
    · rw [if_neg h1] at hj; cases hj
theorem ds_aug {f : Int → Int → Int} {op : Operator} {i : Nat} {x : Str} {ek e : Expr} {mk me : DS → R D} {px tpos pos : Pos} (hop : PIp X op (ipI f)) (hi : X.N[i]? = some x) (hv : Vis X.env.scope x) (hk : DE X Y ek mk) (he : DE X Y e me) (ho : i ∈ O := by decide) (hd : (x == ("__debug__" : Str)) = false := by decide) (hcd : (x == ("__classdict__" : Str)) = false := by decide)
    (ha : ∀ ov iv new, augStore ek ov iv new = (do holding [new, ov, iv] (setItem ov iv new); release [new, ov, iv] []; pure .next) := by intros; rfl) : DSt X Y O (.AugAssign (.Subscript (.Name x px) ek tpos) op e pos) (mAugI f O i mk me) := by
  obtain ⟨tk, pk, qk⟩ := hk
  obtain ⟨te, pe, qe⟩ := he
  refine ⟨_, ps_augS (pe_var hi hv hd hcd) pk get_own pe hop set_list ha, fun A0 T H0 σ δ H Dn s w => ?_⟩
  unfold mAugI at w
  cases e0 : ownedL i δ with
  | bad => rw [e0] at w; exact w.elim
  | ex k => unfold ownedL at e0; split at e0 <;> cases e0
  | ok ds =>
    rw [e0] at w
    have ei := ownedL_ok e0
    obtain ⟨w0, cv, sr, up, kp, tm, lst, own, mt⟩ := s.share
    obtain ⟨f1, _, _⟩ := mt i ds [] [] H ho ei (Same.refl H) .nil
    refine ⟨_, f1, ?_⟩
    refine qk σ (hideD O δ) H _ cv sr _ ?_
    replace w : WpS X.K Y A0 O T H0 ((mk (hideD O δ)).run δ fun k => calmR (me (hideD O δ)) (augK f i δ ds k)) Dn := w
    cases e1 : mk (hideD O δ) with
    | bad => rw [e1] at w; exact w
    | ex n => rw [e1] at w; exact fun H' t => w σ H' (s.keep t)
    | ok k =>
      rw [e1] at w
      refine fun kv H1 t1 r1 => ?_
      replace w : WpS X.K Y A0 O T H0 (calmR (me (hideD O δ)) (augK f i δ ds k)) Dn := w
      obtain ⟨_, ⟨vs, f2, f3⟩, _⟩ := mt i ds [] [] H1 ho ei t1 .nil
      cases e2 : me (hideD O δ) with
      | bad => rw [e2] at w; exact w.elim
      | ex n => rw [e2] at w; exact w.elim
      | ok y =>
        rw [e2] at w
        replace w : WpS X.K Y A0 O T H0 (augK f i δ ds k y) Dn := w
        unfold augK at w
        split at w
        · rename_i k b
          cases r1
          split at w
          · rename_i n hn
            split at w
            · rename_i a ha2
              obtain ⟨va, hva, rva⟩ := f3.get ha2
              cases rva
              have hn2 : ixN vs.length k = some n := by rw [f3.len]; exact hn
              refine ⟨w0 i, vs, k, n, .int a, rfl, rfl, f2, hn2, hva, ?_⟩
              refine qe σ (hideD O δ) H1 _ (cv.mono t1) (sr.mono t1) _ ?_
              rw [e2]
              refine fun yv H2 t2 r2 => ?_
              cases r2
              refine ⟨a, b, rfl, rfl, ?_⟩
              obtain ⟨_, ⟨vs2, g2, g3⟩, _⟩ := mt i ds [] [] H2 ho ei (t1.trans t2) .nil
              have ev : vs2 = vs := by
                rw [t2 _ _ f2] at g2
                cases g2; rfl
              subst ev
              obtain ⟨_, _, fin⟩ := mt i ds (ds.set n (.int (f a b))) (vs2.set n (.int (f a b))) H2 ho ei (t1.trans t2) (DpAll.set (.int _) n g3)
              exact ⟨w0 i, vs2, k, n, rfl, rfl, g2, hn2, w _ _ fin⟩
            · exact w.elim
          · exact w.elim
        · exact w.elim
end
end L2
namespace SL
open PySem PySem.Spec PyProof.Rows L2
/-! ## for each line the gates that read it -/
def addTo (rows : List (List Int)) (s : Nat) (l : Int) : List (List Int) := rows.set s (rows.getD s [] ++ [l])
def addSrcs (l : Int) : List Int → List (List Int) → List (List Int)
  | [], r => r
  | s :: ss, r => addSrcs l ss (addTo r s.toNat l)
def addAll (mn : Int) : Nat → List Gate → List (List Int) → List (List Int)
  | _, [], r => r
  | k, g :: gs, r => addAll mn (k + 1) gs (addSrcs (mn + (k : Nat)) g.2.1 r)
def readersOf (mn : Int) (gs : List Gate) : List (List Int) := addAll mn 0 gs (List.replicate (mn + gs.length).toNat [])
theorem addTo_len (r : List (List Int)) (s : Nat) (l : Int) : (addTo r s l).length = r.length := List.length_set ..
theorem addSrcs_len (l : Int) : ∀ (ss : List Int) (r : List (List Int)), (addSrcs l ss r).length = r.length
  | [], _ => rfl
  | s :: ss, r => by rw [addSrcs, addSrcs_len l ss, addTo_len]
theorem addAll_len (mn : Int) : ∀ (gs : List Gate) (k : Nat) (r : List (List Int)), (addAll mn k gs r).length = r.length
  | [], _, _ => rfl
  | g :: gs, k, r => by rw [addAll, addAll_len mn gs, addSrcs_len]
theorem addSrcs_snoc (l s : Int) : ∀ (ss : List Int) (r : List (List Int)), addSrcs l (ss ++ [s]) r = addTo (addSrcs l ss r) s.toNat l
  | [], _ => rfl
  | x :: ss, r => by rw [List.cons_append, addSrcs, addSrcs_snoc l s ss, addSrcs]
theorem addAll_snoc (mn : Int) (g : Gate) : ∀ (gs : List Gate) (k : Nat) (r : List (List Int)), addAll mn k (gs ++ [g]) r = addSrcs (mn + ((k + gs.length : Nat) : Int)) g.2.1 (addAll mn k gs r)
  | [], k, r => rfl
  | x :: gs, k, r => by
    rw [List.cons_append, addAll, addAll_snoc mn g gs (k + 1), addAll, List.length_cons, show k + 1 + gs.length = k + (gs.length + 1) by omega]
def RowsLe (b : Nat) (rows : List (List Int)) : Prop := ∀ i, (rows.getD i []).length ≤ b
theorem addTo_get (rows : List (List Int)) (s : Nat) (l : Int) (i : Nat) : (addTo rows s l).getD i [] = if s = i ∧ s < rows.length then rows.getD i [] ++ [l] else rows.getD i [] := by
  unfold addTo
  rw [List.getD_eq_getElem?_getD, List.getElem?_set]
  by_cases h : s = i
  · subst h
    rw [if_pos rfl]
    by_cases h2 : s < rows.length
    · rw [if_pos h2, if_pos ⟨rfl, h2⟩]; rfl
    · rw [if_neg h2, if_neg (fun z => h2 z.2), List.getD_eq_getElem?_getD, List.getElem?_eq_none (by omega)]
  · rw [if_neg h, if_neg (fun z => h z.1), List.getD_eq_getElem?_getD]
theorem RowsLe.addTo {b : Nat} {rows : List (List Int)} (h : RowsLe b rows) (s : Nat) (l : Int) : RowsLe (b + 1) (addTo rows s l) := fun i => by
  have := h i
  rw [addTo_get]
  split
  · rw [List.length_append, List.length_singleton]; omega
  · omega
theorem RowsLe.addSrcs {l : Int} : ∀ {ss : List Int} {b : Nat} {rows : List (List Int)}, RowsLe b rows → RowsLe (b + ss.length) (SL.addSrcs l ss rows)
  | [], _, _, h => h
  | s :: ss, b, rows, h => by
    have := RowsLe.addSrcs (l := l) (ss := ss) (h.addTo s.toNat l)
    rw [List.length_cons, show b + (ss.length + 1) = b + 1 + ss.length by omega]
    exact this
theorem RowsLe.mono {b c : Nat} {rows : List (List Int)} (h : RowsLe b rows) (q : b ≤ c) : RowsLe c rows := fun i => Nat.le_trans (h i) q
def rowsD (rows : List (List Int)) : List D := rows.map fun r => .list (intsOf r)
def rdOk (mn : Int) (gs : List Gate) : Bool := decide (0 ≤ mn ∧ mn + gs.length ≤ 1000) && gs.all fun g => decide (g.2.1.length ≤ 1000) && g.2.1.all fun s => decide (0 ≤ s ∧ s < mn + gs.length)
def readM (δ : DS) : R Out := match mVar 1 δ, mVar 2 δ with
  | .ok (.int mn), .ok (.list xs) => match gatesOf xs with
    | some gs => R.when (decide (δ.length = 8) && rdOk mn gs) (.ok (.rl (rowsD (readersOf mn gs))))
    | none => .bad
  | _, _ => .bad
/-! the rows as they stand in the state -/
structure RS (Hs : Hp) (a : Addr) (mn : Int) (g : Addr) (rows : List (List Int)) (σ : L2.St) (H : Hp) : Prop where
  same : Same Hs H
  len : σ.length = 8
  s1 : σ[1]? = some (some (.int mn))
  s2 : σ[2]? = some (some (.ref g))
  s3 : σ[3]? = some (some (.ref a))
  ex : ∃ bs : List Addr, bs.length = rows.length ∧ bs.Nodup ∧ a ∉ bs ∧ H a = some (.lst (bs.map V.ref)) ∧ Hs a = none ∧ ∀ (i : Nat) (b : Addr), bs[i]? = some b → Hs b = none ∧ H b = some (.lst ((rows.getD i []).map V.int))
theorem RS.keep {Hs H H' : Hp} {a g : Addr} {mn : Int} {rows : List (List Int)} {σ : L2.St} (r : RS Hs a mn g rows σ H) (t : Same H H') : RS Hs a mn g rows σ H' := by
  obtain ⟨bs, h1, h2, h3, h4, h5, h6⟩ := r.ex
  exact ⟨r.same.trans t, r.len, r.s1, r.s2, r.s3, bs, h1, h2, h3, t _ _ h4, h5, fun i b e => ⟨(h6 i b e).1, t _ _ (h6 i b e).2⟩⟩
theorem RS.slot {Hs H : Hp} {a g : Addr} {mn : Int} {rows : List (List Int)} {σ : L2.St} (r : RS Hs a mn g rows σ H) (j : Nat) (v : V) (h : 3 < j) : RS Hs a mn g rows (σ.set j (some v)) H :=
  ⟨r.same, by rw [List.length_set]; exact r.len, by rw [List.getElem?_set_ne (by omega)]; exact r.s1, by rw [List.getElem?_set_ne (by omega)]; exact r.s2, by rw [List.getElem?_set_ne (by omega)]; exact r.s3, r.ex⟩
theorem RS.app {Hs H : Hp} {a g : Addr} {mn : Int} {rows : List (List Int)} {σ : L2.St} (r : RS Hs a mn g rows σ H) {s : Nat} (hs : s < rows.length) (l : Int) :
    ∃ (bs : List Addr) (b : Addr), H a = some (.lst (bs.map V.ref)) ∧ bs[s]? = some b ∧ H b = some (.lst ((rows.getD s []).map V.int)) ∧ RS Hs a mn g (addTo rows s l) σ (upd H b (.lst ((rows.getD s []).map V.int ++ [V.int l]))) := by
  obtain ⟨bs, h1, h2, h3, h4, h5, h6⟩ := r.ex
  obtain ⟨b, hb⟩ : ∃ b, bs[s]? = some b := ⟨bs[s]'(by omega), List.getElem?_eq_getElem (by omega)⟩
  obtain ⟨n1, n2⟩ := h6 s b hb
  have mem : b ∈ bs := List.mem_of_getElem? hb
  have hab : a ≠ b := fun e => h3 (e ▸ mem)
  refine ⟨bs, b, h4, hb, n2, ⟨fun c o e => ?_, r.len, r.s1, r.s2, r.s3, bs, by rw [addTo_len]; exact h1, h2, h3, by rw [upd_ne hab]; exact h4, h5, fun i c e => ?_⟩⟩
  · have : c ≠ b := fun z => by rw [z, n1] at e; cases e
    rw [upd_ne this]; exact r.same _ _ e
  · obtain ⟨m1, m2⟩ := h6 i c e
    refine ⟨m1, ?_⟩
    rw [addTo_get]
    by_cases hi : s = i
    · subst hi
      rw [hb] at e
      cases e
      rw [upd_same, if_pos ⟨rfl, hs⟩, List.map_append]; rfl
    · have hc : c ≠ b := fun z => by
        subst z
        have i1 : s < bs.length := (List.getElem?_eq_some_iff.mp hb).1
        have i2 : i < bs.length := (List.getElem?_eq_some_iff.mp e).1
        rw [List.getElem?_eq_getElem i1] at hb
        rw [List.getElem?_eq_getElem i2] at e
        exact hi ((List.getElem_inj h2).mp ((Option.some.inj hb).trans (Option.some.inj e).symm))
      rw [upd_ne hc, if_neg (fun z => hi z.1)]; exact m2
end SL
namespace SL
open PySem PySem.Spec PyProof.Rows L2
section
variable {X : Cx} {Y : Wy}
def tPut (K : PySem.W.Frag) : TS := tDrop (tBM K "list" rAppend (tOp (rIx K) (tVar 3) (tVar 7)) (tCons (tVar 5) tNil))
def tInner (K : PySem.W.Frag) : TS := tFor (iTup K (tOp (rIx K) (tVar 6) (tC (.int 1)))) (gName 7) (tPut K)
/-- for source in gate[1]: readers[source].append(line) -/
theorem inner_ok {Hs : Hp} {a g ga : Addr} {mn l : Int} {rows : List (List Int)} {σ : L2.St} {H : Hp} {gt : Gate} {Dn : Ends} {b : Nat} (r : RS Hs a mn g rows σ H) (h5 : σ[5]? = some (some (.int l))) (h6 : σ[6]? = some (some (.ref ga))) (hg : Dp X.K Hs (.ref ga) (gateD gt))
    (hin : ∀ s ∈ gt.2.1, 0 ≤ s ∧ s < rows.length) (hb : RowsLe b rows) (hbs : b + gt.2.1.length ≤ 2000000) (hd : ∀ σ' H', RS Hs a mn g (addSrcs l gt.2.1 rows) σ' H' → Dn.nx σ' H') : tInner X.K Dn σ H := by
  obtain ⟨p, vs, e1, q1, q2⟩ := dp_tup (show Dp X.K Hs (.ref ga) (.tuple [.str gt.1, .tuple (intsOf gt.2.1), .int gt.2.2]) from hg)
  cases e1
  obtain ⟨v0, v1, v2, rfl, _, k1, _⟩ := dpAll3 q2
  obtain ⟨pt, us, rfl, u1, u2⟩ := dp_tup k1
  have ev := dp_ints_inv (xs := gt.2.1) u2
  subst ev
  have big : (2000000 : Nat) < sizeLine := by decide
  refine ⟨.ref ga, h6, ?_⟩
  refine .inr (.inl ⟨ga, [v0, .ref pt, v2], 1, .ref pt, rfl, rfl, sqT_same r.same q1, rfl, pt, rfl, ⟨_, sqT_same r.same u1⟩, ?_⟩)
  refine for_tup (K := X.K) (a := pt) (xs := gt.2.1.map V.int) (g := gName 7) (tb := tPut X.K) (D := Dn) (σ := σ) (H := H) (fun i σ' H' => σ'[5]? = some (some (.int l)) ∧ RS Hs a mn g (addSrcs l (gt.2.1.take i) rows) σ' H') ⟨h5, r⟩ (fun i σ' H' _ q => sqT_same q.2.same u1) (fun i x σ' H' hi q => ?_) (fun σ' H' q => ?_)
  · obtain ⟨q5, qr⟩ := q
    rw [List.getElem?_map] at hi
    cases hs : gt.2.1[i]? with
    | none => rw [hs] at hi; cases hi
    | some s =>
      rw [hs] at hi
      cases hi
      have smem : s ∈ gt.2.1 := List.mem_of_getElem? hs
      have sin := hin s smem
      have hlen : (addSrcs l (gt.2.1.take i) rows).length = rows.length := addSrcs_len l _ rows
      obtain ⟨bs, bb, k4, kb, kr, kn⟩ := (qr.slot 7 (.int s) (by decide)).app (s := s.toNat) (by rw [hlen]; omega) l
      have bl : bs.length = rows.length := by
        obtain ⟨bs', w1, _, _, w4, _⟩ := qr.ex
        rw [k4] at w4
        have e : bs.map V.ref = bs'.map V.ref := HO.lst.inj (Option.some.inj w4)
        have := congrArg List.length e
        rw [List.length_map, List.length_map] at this
        omega
      have rl : ((addSrcs l (gt.2.1.take i) rows).getD s.toNat []).length < sizeLine := by
        have h1 := RowsLe.addSrcs (l := l) (ss := gt.2.1.take i) hb s.toNat
        have h2 : (gt.2.1.take i).length ≤ gt.2.1.length := List.length_take_le' ..
        omega
      have e5 : (σ'.set 7 (some (V.int s)))[5]? = some (some (.int l)) := by rw [List.getElem?_set_ne (by decide)]; exact q5
      have e7 : (σ'.set 7 (some (V.int s)))[7]? = some (some (V.int s)) := List.getElem?_set_self (by rw [qr.len]; decide)
      have e3 : (σ'.set 7 (some (V.int s)))[3]? = some (some (.ref a)) := by rw [List.getElem?_set_ne (by decide)]; exact qr.s3
      have at1 : atI (bs.map V.ref) s = some (V.ref bb) := by
        unfold atI
        rw [ix_in sin.1 (by rw [List.length_map, bl]; exact sin.2)]
        show (bs.map V.ref)[s.toNat]? = _
        rw [List.getElem?_map, kb]; rfl
      refine ⟨.ref a, e3, .int s, e7, ?_⟩
      refine .inl ⟨a, bs.map V.ref, s, .ref bb, rfl, rfl, .inl (.inl k4), at1, .inl ⟨rfl, _, .inl (.inl kr)⟩, ?_⟩
      refine ⟨.int l, e5, bb, _, .int l, rfl, rfl, kr, by rw [List.length_map]; exact rl, e5, ?_⟩
      have et : gt.2.1.take (i + 1) = gt.2.1.take i ++ [s] := by rw [List.take_add_one, hs]; rfl
      rw [et, addSrcs_snoc]
      exact kn
  · rw [List.length_map, List.take_length] at q
    exact hd _ _ q.2
def tPair (K : PySem.W.Frag) : TG := gTup K 2 (fun vs σ H Q => ∃ x y, vs = [x, y] ∧ Q ((σ.set 5 (some x)).set 6 (some y)) H)
def tOuter (K : PySem.W.Frag) : TS := tFor (iNum K (tVar 2) (tVar 1)) (tPair K) (tInner K)
theorem outer_ok {Hs : Hp} {a g : Addr} {mn : Int} {gs : List Gate} {vs : List V} {σ : L2.St} {H : Hp} {Dn : Ends} (hok : rdOk mn gs = true) (r : RS Hs a mn g (List.replicate (mn + gs.length).toNat []) σ H) (hg : SqL X.K Hs g vs) (ha : DpAll X.K Hs vs (gatesD gs))
    (hd : ∀ σ' H', RS Hs a mn g (readersOf mn gs) σ' H' → Dn.nx σ' H') : tOuter X.K Dn σ H := by
  unfold rdOk at hok
  rw [Bool.and_eq_true, List.all_eq_true] at hok
  obtain ⟨h0, hall⟩ := hok
  obtain ⟨h0, h1⟩ := of_decide_eq_true h0
  have hvl : vs.length = gs.length := by rw [ha.len, gates_len]
  refine ⟨.ref g, r.s2, .int mn, r.s1, g, vs, mn, rfl, rfl, sqL_same r.same hg, by omega, by omega, ?_⟩
  refine for_num (K := X.K) (a := g) (c := mn) (xs := vs) (g := tPair X.K) (tb := tInner X.K) (D := Dn) (σ := σ) (H := H) (fun i σ' H' => RowsLe (i * 1000) (addAll mn 0 (gs.take i) (List.replicate (mn + gs.length).toNat [])) ∧ RS Hs a mn g (addAll mn 0 (gs.take i) (List.replicate (mn + gs.length).toNat [])) σ' H') ⟨fun i => ?_, r⟩ (fun i σ' H' _ q => sqL_same q.2.same hg) (fun i x σ' H' p hi q hp => ?_) (fun σ' H' q => ?_)
  · show ((List.replicate (mn + gs.length).toNat []).getD i []).length ≤ _
    rw [List.getD_eq_getElem?_getD, List.getElem?_replicate]
    split <;> exact Nat.zero_le _
  · obtain ⟨ql, qr⟩ := q
    have hil : i < gs.length := by
      have := (List.getElem?_eq_some_iff.mp hi).1
      omega
    obtain ⟨gt, hgt⟩ : ∃ gt, gs[i]? = some gt := ⟨gs[i], List.getElem?_eq_getElem hil⟩
    obtain ⟨d, hdd, hdp⟩ := ha.get2 hi
    have ed : d = gateD gt := by
      have : (gs.map gateD)[i]? = some d := hdd
      rw [List.getElem?_map, hgt] at this
      exact (Option.some.inj this).symm
    subst ed
    have hgall := hall gt (List.mem_of_getElem? hgt)
    rw [Bool.and_eq_true, List.all_eq_true] at hgall
    obtain ⟨hl1, hsrc⟩ := hgall
    have hl1 := of_decide_eq_true hl1
    obtain ⟨ga, vs3, e3, _, _⟩ := dp_tup (show Dp X.K Hs x (.tuple [.str gt.1, .tuple (intsOf gt.2.1), .int gt.2.2]) from hdp)
    subst e3
    refine ⟨p, [.int (mn + (i : Nat)), .ref ga], rfl, .inl (.inl upd_same), rfl, _, _, rfl, ?_⟩
    have su : Same H' (upd H' p (.tup [.int (mn + (i : Nat)), .ref ga])) := same_upd hp
    have r2 := ((qr.keep su).slot 5 (.int (mn + (i : Nat))) (by decide)).slot 6 (.ref ga) (by decide)
    have et : gs.take (i + 1) = gs.take i ++ [gt] := by rw [List.take_add_one, hgt]; rfl
    have ln : ((addAll mn 0 (gs.take i) (List.replicate (mn + gs.length).toNat [])).length : Int) = mn + gs.length := by rw [addAll_len, List.length_replicate]; omega
    refine inner_ok (gt := gt) (l := mn + (i : Nat)) (b := i * 1000) r2 (by rw [List.getElem?_set_ne (by decide)]; exact List.getElem?_set_self (by rw [qr.len]; decide)) (List.getElem?_set_self (by rw [List.length_set, qr.len]; decide)) hdp (fun s hs => ?_) ql (by omega) fun σ2 H2 r3 => ?_
    · have := of_decide_eq_true (hsrc s hs)
      rw [ln]; exact this
    · have tl : (gs.take i).length = i := by rw [List.length_take]; omega
      have e : addAll mn 0 (gs.take (i + 1)) (List.replicate (mn + gs.length).toNat []) = addSrcs (mn + (i : Nat)) gt.2.1 (addAll mn 0 (gs.take i) (List.replicate (mn + gs.length).toNat [])) := by
        rw [et, addAll_snoc, tl, Nat.zero_add]
      show RowsLe _ (addAll mn 0 (gs.take (i + 1)) _) ∧ RS Hs a mn g (addAll mn 0 (gs.take (i + 1)) _) σ2 H2
      rw [e]
      exact ⟨(RowsLe.addSrcs (l := mn + (i : Nat)) (ss := gt.2.1) ql).mono (by omega), r3⟩
  · rw [hvl, List.take_length] at q
    exact hd _ _ q.2
/-- [[] for _ in range(n)]: as many empty lists -/
structure ES (H1 : Hp) (D : Addr) (i : Nat) (H : Hp) : Prop where
  same : Same H1 H
  ex : ∃ bs : List Addr, bs.length = i ∧ bs.Nodup ∧ D ∉ bs ∧ H D = some (.lst (bs.map V.ref)) ∧ ∀ b ∈ bs, H1 b = none ∧ H b = some (.lst [])
theorem ES.more {H1 H : Hp} {D p : Addr} {i : Nat} (e : ES H1 D i H) (hD : H1 D = none) (hp : H p = none) : ∃ acc, upd H p (.lst []) D = some (.lst acc) ∧ acc.length = i ∧ ES H1 D (i + 1) (upd (upd H p (.lst [])) D (.lst (acc ++ [V.ref p]))) := by
  obtain ⟨bs, h1, h2, h3, h4, h5⟩ := e.ex
  have hpD : p ≠ D := fun z => by rw [z, h4] at hp; cases hp
  have hpb : p ∉ bs := fun z => by rw [(h5 p z).2] at hp; cases hp
  refine ⟨bs.map V.ref, by rw [upd_ne (Ne.symm hpD)]; exact h4, by rw [List.length_map]; exact h1, fun b o q => ?_, bs ++ [p], by rw [List.length_append]; exact congrArg (· + 1) h1, ?_, ?_, by rw [upd_same, List.map_append]; rfl, fun b hb => ?_⟩
  · have nb : b ≠ D := fun z => by rw [z, hD] at q; cases q
    have q2 := e.same _ _ q
    have np : b ≠ p := fun z => by rw [z, hp] at q2; cases q2
    rw [upd_ne nb, upd_ne np]; exact q2
  · refine List.nodup_append.mpr ⟨h2, List.nodup_cons.mpr ⟨List.not_mem_nil, List.nodup_nil⟩, fun x hx y hy => ?_⟩
    rw [List.mem_singleton.mp hy]
    exact fun z => hpb (z ▸ hx)
  · intro z
    rcases List.mem_append.mp z with z | z
    · exact h3 z
    · exact hpD (List.mem_singleton.mp z).symm
  · rcases List.mem_append.mp hb with hb | hb
    · have nb : b ≠ D := fun z => h3 (z ▸ hb)
      have np : b ≠ p := fun z => hpb (z ▸ hb)
      rw [upd_ne nb, upd_ne np]
      exact h5 b hb
    · rw [List.mem_singleton.mp hb, upd_ne hpD, upd_same]
      exact ⟨Same.free e.same hp, rfl⟩
end
end SL
namespace SL
open PySem PySem.Spec PyProof.Rows L2
def N_rdL : List Str := ["plan", "many", "gates", "readers", "line", "gate", "source"]
def N_rd : List Str := ["plan", "many", "gates", "readers", "_", "line", "gate", "source"]
theorem dpAll_rows {K : PySem.W.Frag} {N H : Hp} : ∀ {rows : List (List Int)} {bs : List Addr}, bs.length = rows.length → (∀ (i : Nat) (b : Addr), bs[i]? = some b → N b = some (.lst ((rows.getD i []).map V.int))) → DpAll K N (bs.map V.ref) (rowsD rows)
  | [], [], _, _ => .nil
  | [], _ :: _, h, _ => by cases h
  | _ :: _, [], h, _ => by cases h
  | r :: rows, b :: bs, h, k => .cons (.lst (SqL.of (k 0 b rfl)) (dpAll_ints r)) (dpAll_rows (H := H) (Nat.succ.inj h) fun i c e => k (i + 1) c e)
section
variable {X : Cx} {Y : Wy} {en : Expr} {scope : Scope} {me : DS → R D} {kk : Nat} {kc : Nat} {p1 p2 p3 p4 p5 p6 p7 q1 q2 q3 q4 q5 q6 q7 q8 q9 r1 r2 r3 r4 r5 t1 t2 t3 t4 t5 t6 t7 u1 u2 : Pos}
theorem dss_readers (hp : PassesOwn (model X.prog X.w) X.A X.env X.xe) (hc : X.calm = true) (hN : X.N = N_rd) (m_range : X.mg "range" = none) (m_enumerate : X.mg "enumerate" = none) (he : DE X Y en me)
    (hme : ∀ (δ : DS) (mn : Int) (xs : List D), mVar 1 δ = .ok (.int mn) → mVar 2 δ = .ok (.list xs) → me δ = .ok (.int (mn + xs.length)))
    (lc : ∀ x ∈ N_rdL, Loc X.env.scope x) (lo : X.env.scope.names.lookup ("readers" : Str) = some .local) (fn : ∀ x ∈ N_rdL, X.fn x = true ∨ X.env.scope.names.lookup x = some .local)
    (sw : swapsWith (.ListComp (.List [] p2) [⟨.Name "_" p3, .Call (.Name "range" p4) [en] [] p5, [], 0⟩] scope p6) (some (.Name "readers" p1)) p7.line X.env = pure true) (ok : BlkOk X.N X.env.scope scope [("_", 4)])
    (pgb : ∀ (s : Shared) (H : Hp) (C : Addr) (cl : List (Str × Addr)) (fp : List Addr), PG (X.blk s H scope (compEnvC scope cl C X.env) fp) (.Name "_" p3) (gName 4)) (g1 : Gl X "range" := by rfl) (g2 : Gl X "enumerate" := by rfl)
    (hs1 : starEach [en] X.env = [(false, eval en X.env)] := by rfl) (hs2 : ∀ x, foldedSetIterable (.Call (.Name "range" p4) [en] [] p5) X.env x = pure x := by intro _; rfl)
    (hs3 : ∀ x, foldedSetIterable (.Call (.Name "enumerate" q4) [.Name "gates" q5] [⟨some "start", .Name "many" q6, q7⟩] q8) X.env x = pure x := by intro _; rfl) (hs4 : starEach [.Name "gates" q5] X.env = [(false, eval (.Name "gates" q5) X.env)] := by rfl)
    (hs5 : ∀ x, foldedSetIterable (.Subscript (.Name "gate" r2) (.Constant (.int 1) kc r3) r4) X.env x = pure x := by intro _; rfl)
    (hb : attributeBase (.Subscript (.Name "readers" t1) (.Name "source" t2) t3) "append" X.env (eval (.Subscript (.Name "readers" t1) (.Name "source" t2) t3) X.env) = eval (.Subscript (.Name "readers" t1) (.Name "source" t2) t3) X.env := by rfl)
    (hf : ((backTo t6 (starEach [.Name "line" t5] X.env)).all (fun x => !x.1) && (backToKw t6 (keywordEach [] X.env)).all (fun x => x.1.isSome) && decide (([.Name "line" t5] : List Expr).length + ([] : List Keyword).length + (if ([] : List Keyword).isEmpty then 0 else 1) < 30)) = true := by rfl)
    (hl : (t4.endLine == t6.line) = true := by rfl) (hs6 : starEach [.Name "line" t5] X.env = (false, eval (.Name "line" t5) X.env) :: starEach [] X.env := by rfl)
    (hs7 : swapsWith (.Call (.Attribute (.Subscript (.Name "readers" t1) (.Name "source" t2) t3) "append" t4) [.Name "line" t5] [] t6) none t7.line X.env = pure false := by rfl) :
    DSs X Y [] [.Assign [.Name "readers" p1] (.ListComp (.List [] p2) [⟨.Name "_" p3, .Call (.Name "range" p4) [en] [] p5, [], 0⟩] scope p6) p7,
      .For (.Tuple [.Name "line" q1, .Name "gate" q2] kk q3) (.Call (.Name "enumerate" q4) [.Name "gates" q5] [⟨some "start", .Name "many" q6, q7⟩] q8)
        [.For (.Name "source" r1) (.Subscript (.Name "gate" r2) (.Constant (.int 1) kc r3) r4) [.Expr (.Call (.Attribute (.Subscript (.Name "readers" t1) (.Name "source" t2) t3) "append" t4) [.Name "line" t5] [] t6) t7] [] r5] [] q9,
      .Return (some (.Name "readers" u1)) u2] readM := by
  have nd : X.N.Nodup := by rw [hN]; decide
  have ix : ∀ (i : Nat) (x : Str), N_rd[i]? = some x → X.N[i]? = some x := fun i x e => by rw [hN]; exact e
  have vis : ∀ x ∈ N_rdL, Vis X.env.scope x := fun x hx => (lc x hx).elim .inl fun z => .inr (.inl z)
  obtain ⟨te, pe, qe⟩ := he
  have ps2 := ps_setLc (i := 3) (y := "readers") (own := [("_", 4)]) (tt := tYes) (te := tLst tNil) (g := gName 4) hc nd (ix 3 _ rfl) lo sw (pi_range1 g1 m_range (pa_cons pe pa_nil hs1) hs1) ok pgb (fun _ _ _ _ _ => pts_nil) (fun _ _ _ _ _ => pe_lst pa_nil) hs2
  have v : ∀ (i : Nat) (x : Str) (pos : Pos), N_rd[i]? = some x → x ∈ N_rdL → (x == ("__debug__" : Str)) = false → (x == ("__classdict__" : Str)) = false → PE X (.Name x pos) (tVar i) := fun i x pos e m d c => pe_var (ix i x e) (vis x m) d c
  have inner : PSs X [.Expr (.Call (.Attribute (.Subscript (.Name "readers" t1) (.Name "source" t2) t3) "append" t4) [.Name "line" t5] [] t6) t7] (tPut X.K) :=
    pss_one (ps_expr (pe_bm PySem.F.plainAttrs_list PySem.F.slot_list_append PySem.F.type_list_append mt_append (pe_ix ix_seq (v 3 _ t1 rfl (by decide) (by decide) (by decide)) (v 7 _ t2 rfl (by decide) (by decide) (by decide)) (fun _ _ => rfl)) (pa_cons (v 5 _ t5 rfl (by decide) (by decide) (by decide)) pa_nil hs6) hb hf hl hs6) hs7)
  have psI : PSs X [.For (.Name "source" r1) (.Subscript (.Name "gate" r2) (.Constant (.int 1) kc r3) r4) [.Expr (.Call (.Attribute (.Subscript (.Name "readers" t1) (.Name "source" t2) t3) "append" t4) [.Name "line" t5] [] t6) t7] [] r5] (tInner X.K) :=
    pss_one (ps_for hp hc (pi_tup (pe_ix ix_seq (v 6 _ r2 rfl (by decide) (by decide) (by decide)) pe_int (fun _ _ => rfl))) (pg_name nd (ix 7 _ rfl) (lc _ (by decide)) (fn _ (by decide))) inner hs5)
  have psO := ps_for (X := X) (pos := q9) hp hc (pi_numS (elts := [.Name "line" q1, .Name "gate" q2]) (kk := kk) (tpos := q3) (pos := q8) (p := q4) (kpos := q7) g2 m_enumerate (v 2 _ q5 rfl (by decide) (by decide) (by decide)) (v 1 _ q6 rfl (by decide) (by decide) (by decide)) hs4)
    (pg_two (ja := 5) (jb := 6) hc nd (ix 5 _ rfl) (ix 6 _ rfl) (lc _ (by decide)) (lc _ (by decide)) (fn _ (by decide)) (fn _ (by decide))) psI hs3
  refine ⟨_, pss_cons ps2 (pss_cons psO (pss_one (ps_ret (v 3 _ u1 rfl (by decide) (by decide) (by decide))))), fun A0 T H0 σ δ H Dn s w => ?_⟩
  -- the slots
  unfold readM at w
  cases e1 : mVar 1 δ with
  | bad => rw [e1] at w; exact w.elim
  | ex n => rw [e1] at w; exact w.elim
  | ok d1 =>
    rw [e1] at w
    cases d1 with
    | int mn =>
      cases e2 : mVar 2 δ with
      | bad => rw [e2] at w; exact w.elim
      | ex n => rw [e2] at w; exact w.elim
      | ok d2 =>
        rw [e2] at w
        cases d2 with
        | list xs =>
          replace w : WpS X.K Y A0 [] T H0 (match gatesOf xs with
            | some gs => R.when (decide (δ.length = 8) && rdOk mn gs) (.ok (.rl (rowsD (readersOf mn gs))))
            | none => .bad) Dn := w
          cases e3 : gatesOf xs with
          | none => rw [e3] at w; exact w.elim
          | some gs =>
            rw [e3] at w
            have ex := gatesOf_inv e3
            subst ex
            obtain ⟨hok, w⟩ := R.when_ok (fun r => WpS X.K Y A0 [] T H0 r Dn) w id
            rw [Bool.and_eq_true] at hok
            obtain ⟨h8, hok⟩ := hok
            have h8 := of_decide_eq_true h8
            have sr := s.read
            have get : ∀ {i : Nat} {d : D}, mVar i δ = .ok d → δ[i]? = some (some d) := fun {i d} e => by
              unfold mVar at e
              split at e
              · rename_i d' e'; cases e; exact e'
              · cases e
            obtain ⟨x1, k1, k2⟩ := sr.1 1 _ (get e1)
            cases k2
            obtain ⟨x2, k3, k4⟩ := sr.1 2 _ (get e2)
            obtain ⟨g, vs, rfl, hg, hga⟩ := dp_list k4
            have hok' := hok
            unfold rdOk at hok'
            rw [Bool.and_eq_true] at hok'
            obtain ⟨b0, b1⟩ := of_decide_eq_true hok'.1
            have big : (1000 : Nat) < sizeLine := by decide
            dsimp only [tSeq, tAsg, tLc, iRng1, tCons, tNil]
            refine qe σ δ H A0 s.covH sr _ ?_
            rw [hme δ mn _ e1 e2, gates_len]
            intro y1 H1 t1 z1
            cases z1
            refine ⟨_, rfl, by omega, by omega, fun Dl hD => ?_⟩
            refine lc_range (lo := 0) (n := (mn + (gs.length : Int)).toNat) (fun i H' => ES H1 Dl i H') ⟨same_upd hD, [], rfl, List.nodup_nil, List.not_mem_nil, upd_same, fun b hb => absurd hb List.not_mem_nil⟩ (fun i H' hi e => ⟨wipe_one, ?_⟩) fun H' e => ?_
            · dsimp only [tYes, tLst, tNil]
              rw [if_pos rfl]
              refine ⟨Nat.zero_le _, fun p hp => ?_⟩
              obtain ⟨acc, f1, f2, f3⟩ := e.more hD hp
              exact ⟨acc, f1, by omega, f3⟩
            · obtain ⟨bs, f1, f2, f3, f4, f5⟩ := e.ex
              have rs : RS H1 Dl mn g (List.replicate (mn + (gs.length : Int)).toNat []) (σ.set 3 (some (.ref Dl))) H' := by
                refine ⟨e.same, by rw [List.length_set, s.len]; exact h8, by rw [List.getElem?_set_ne (by decide)]; exact k1, by rw [List.getElem?_set_ne (by decide)]; exact k3, List.getElem?_set_self (by rw [s.len, h8]; decide), bs, by rw [f1, List.length_replicate], f2, f3, f4, hD, fun i b hb => ?_⟩
                obtain ⟨n1, n2⟩ := f5 b (List.mem_of_getElem? hb)
                refine ⟨n1, ?_⟩
                have er : ((List.replicate (mn + (gs.length : Int)).toNat ([] : List Int)).getD i []) = [] := by
                  rw [List.getD_eq_getElem?_getD, List.getElem?_replicate]
                  split <;> rfl
                rw [er]; exact n2
              refine outer_ok (Dn := _) hok rs (sqL_same (mask_le.trans t1) hg) (DpAll.same (mask_le.trans t1) hga) fun σ2 H2 r2 => ?_
              refine ⟨.ref Dl, r2.s3, ?_⟩
              obtain ⟨bs2, g1', g2', g3', g4', g5', g6'⟩ := r2.ex
              refine w Dl (bs2.map V.ref) H2 (s.same.trans (t1.trans r2.same)) (Same.free (s.same.trans t1) hD) g4' (dpAll_rows (H := H2) g1' fun i b hb => mask_some.mpr ⟨fun q => ?_, (g6' i b hb).2⟩)
              rcases q with q | q
              · exact s.covH.new (Same.free t1 (g6' i b hb).1) q
              · exact g3' (q ▸ List.mem_of_getElem? hb)
        | _ => exact w.elim
    | _ => exact w.elim
end
def g_readers : List D → R (List D)
  | [d] => match toPlan d with
    | some (mn, gs) => R.when (rdOk mn gs) (.ok (rowsD (readersOf mn gs)))
    | none => .bad
  | _ => .bad
def lcScope : Stmt → Scope
  | .Assign _ (.ListComp _ _ sc _) _ => sc
  | _ => { kind := .function, names := [], isGenerator := false, isCoroutine := false }
end SL
namespace SL
open PySem PySem.Spec PyProof.Rows L2
/-! ## the order of the gates -/
def cntA (mn : Int) (F : List Int) (g : Gate) : Nat := g.2.1.countP fun s => decide (mn ≤ s ∧ s ∉ F)
/-- whether the i-th gate has its turn -/
def turnQ (mn : Int) (F : List Int) (i : Nat) (g : Gate) : Bool := decide (mn + (i : Int) ∉ F ∧ cntA mn F g = 0)
def leastAt (mn : Int) (F : List Int) : Nat → List Gate → Option Nat
  | _, [] => none
  | k, g :: gs => if turnQ mn F k g = true then some k else leastAt mn F (k + 1) gs
def ordG (mn : Int) (gs : List Gate) : Nat → List Int → List Int
  | 0, F => F
  | n + 1, F => match leastAt mn F 0 gs with
    | some i => ordG mn gs n (F ++ [mn + (i : Int)])
    | none => F
def ordOf (mn : Int) (gs : List Gate) : List Int := ordG mn gs 2000 []
theorem leastAt_none {mn : Int} {F : List Int} : ∀ {gs : List Gate} {k : Nat}, leastAt mn F k gs = none ↔ ∀ i g, gs[i]? = some g → turnQ mn F (k + i) g = false
  | [], k => by simp [leastAt]
  | g :: gs, k => by
    unfold leastAt
    split
    · rename_i h
      refine ⟨fun q => (nomatch q), fun q => ?_⟩
      have := q 0 g rfl
      rw [Nat.add_zero, h] at this
      cases this
    · rename_i h
      rw [leastAt_none (gs := gs) (k := k + 1)]
      refine ⟨fun q i g' e => ?_, fun q i g' e => ?_⟩
      · cases i with
        | zero => cases e; exact Bool.eq_false_iff.mpr h
        | succ i => have := q i g' e; rwa [show k + 1 + i = k + (i + 1) by omega] at this
      · have := q (i + 1) g' e
        rwa [show k + (i + 1) = k + 1 + i by omega] at this
theorem leastAt_some {mn : Int} {F : List Int} : ∀ {gs : List Gate} {k j : Nat} {g : Gate}, gs[j]? = some g → turnQ mn F (k + j) g = true → (∀ i g, i < j → gs[i]? = some g → turnQ mn F (k + i) g = false) → leastAt mn F k gs = some (k + j)
  | [], k, j, g, e, _, _ => by cases j <;> cases e
  | g0 :: gs, k, 0, g, e, h, _ => by
    cases e
    unfold leastAt
    rw [Nat.add_zero] at h
    rw [if_pos h]; rfl
  | g0 :: gs, k, j + 1, g, e, h, q => by
    unfold leastAt
    have h0 := q 0 g0 (Nat.succ_pos _) rfl
    rw [Nat.add_zero] at h0
    rw [if_neg (by rw [h0]; decide), show k + (j + 1) = k + 1 + j by omega]
    refine leastAt_some (gs := gs) (k := k + 1) e (by rwa [show k + 1 + j = k + (j + 1) by omega]) fun i g' hi e' => ?_
    have := q (i + 1) g' (Nat.succ_lt_succ hi) e'
    rwa [show k + (i + 1) = k + 1 + i by omega] at this
theorem leastAt_inv {mn : Int} {F : List Int} : ∀ {gs : List Gate} {k m : Nat}, leastAt mn F k gs = some m → ∃ j g, m = k + j ∧ gs[j]? = some g ∧ turnQ mn F (k + j) g = true ∧ ∀ i g, i < j → gs[i]? = some g → turnQ mn F (k + i) g = false
  | [], k, m, h => by cases h
  | g0 :: gs, k, m, h => by
    unfold leastAt at h
    split at h
    · rename_i h0
      cases h
      exact ⟨0, g0, rfl, rfl, by rwa [Nat.add_zero], fun i g hi => by omega⟩
    · rename_i h0
      obtain ⟨j, g, e1, e2, e3, e4⟩ := leastAt_inv h
      refine ⟨j + 1, g, by omega, e2, by rwa [show k + (j + 1) = k + 1 + j by omega], fun i g' hi e => ?_⟩
      cases i with
      | zero => cases e; exact Bool.eq_false_iff.mpr h0
      | succ i =>
        have := e4 i g' (Nat.lt_of_succ_lt_succ hi) e
        rwa [show k + (i + 1) = k + 1 + i by omega]
/-! ### how often a gate stands among the readers of a line -/
theorem addSrcs_count {l x : Int} : ∀ {ss : List Int} {rows : List (List Int)} {i : Nat}, i < rows.length → (∀ s ∈ ss, 0 ≤ s) → ((addSrcs l ss rows).getD i []).count x = (rows.getD i []).count x + if x = l then ss.count (i : Int) else 0
  | [], rows, i, _, _ => by simp [addSrcs]
  | s :: ss, rows, i, hi, h0 => by
    rw [addSrcs, addSrcs_count (by rw [addTo_len]; exact hi) fun y hy => h0 y (List.mem_cons_of_mem _ hy), addTo_get]
    have hs := h0 s List.mem_cons_self
    by_cases e : s.toNat = i
    · have es : s = (i : Int) := by omega
      rw [if_pos ⟨e, by omega⟩, List.count_append, List.count_singleton]
      subst es
      rw [List.count_cons_self]
      by_cases q : x = l
      · subst q; simp; omega
      · rw [if_neg q, if_neg q]
        have : (l == x) = false := beq_eq_false_iff_ne.mpr (Ne.symm q)
        rw [this]; simp
    · rw [if_neg (fun z => e z.1), List.count_cons_of_ne (by omega)]
theorem addSrcs_mem {l x : Int} : ∀ {ss : List Int} {rows : List (List Int)} {i : Nat}, x ∈ (addSrcs l ss rows).getD i [] → x ∈ rows.getD i [] ∨ x = l
  | [], _, _, h => .inl h
  | s :: ss, rows, i, h => by
    rw [addSrcs] at h
    rcases addSrcs_mem h with h | h
    · rw [addTo_get] at h
      split at h
      · rcases List.mem_append.mp h with h | h
        · exact .inl h
        · exact .inr (List.mem_singleton.mp h)
      · exact .inl h
    · exact .inr h
theorem addAll_count {mn x : Int} : ∀ {gs : List Gate} {k : Nat} {rows : List (List Int)} {i : Nat}, i < rows.length → (∀ g ∈ gs, ∀ s ∈ g.2.1, 0 ≤ s) → mn + (k : Int) ≤ x → ∀ {j : Nat} {g : Gate}, x = mn + ((k + j : Nat) : Int) → gs[j]? = some g → ((addAll mn k gs rows).getD i []).count x = (rows.getD i []).count x + g.2.1.count (i : Int)
  | [], k, rows, i, _, _, _, j, g, _, e => by cases e
  | g0 :: gs, k, rows, i, hi, h0, hx, j, g, ex, e => by
    rw [addAll]
    cases j with
    | zero =>
      cases e
      have old : ∀ {gs : List Gate} {k' : Nat} {rows : List (List Int)}, i < rows.length → (∀ g ∈ gs, ∀ s ∈ g.2.1, 0 ≤ s) → x < mn + (k' : Int) → ((addAll mn k' gs rows).getD i []).count x = (rows.getD i []).count x := fun {gs} => by
        induction gs with
        | nil => intro k' rows _ _ _; rfl
        | cons g1 gs ih =>
          intro k' rows hi h0 hx
          rw [addAll, ih (by rw [addSrcs_len]; exact hi) (fun g hg => h0 g (List.mem_cons_of_mem _ hg)) (by omega), addSrcs_count hi (h0 g1 List.mem_cons_self), if_neg (by omega), Nat.add_zero]
      rw [old (by rw [addSrcs_len]; exact hi) (fun g hg => h0 g (List.mem_cons_of_mem _ hg)) (by omega), addSrcs_count hi (h0 _ List.mem_cons_self), if_pos (by rw [ex]; simp)]
    | succ j =>
      rw [addAll_count (gs := gs) (k := k + 1) (by rw [addSrcs_len]; exact hi) (fun g hg => h0 g (List.mem_cons_of_mem _ hg)) (by omega) (j := j) (by rw [ex]; congr 2; omega) e, addSrcs_count hi (h0 g0 List.mem_cons_self), if_neg (by omega), Nat.add_zero]
theorem addAll_mem {mn x : Int} : ∀ {gs : List Gate} {k : Nat} {rows : List (List Int)} {i : Nat}, x ∈ (addAll mn k gs rows).getD i [] → x ∈ rows.getD i [] ∨ (mn + (k : Int) ≤ x ∧ x < mn + (k : Int) + gs.length)
  | [], _, _, _, h => .inl h
  | g :: gs, k, rows, i, h => by
    rw [addAll] at h
    rcases addAll_mem h with h | h
    · rcases addSrcs_mem h with h | h
      · exact .inl h
      · refine .inr ?_
        rw [List.length_cons]; omega
    · refine .inr ?_
      rw [List.length_cons]; omega
theorem rep_get {n i : Nat} : (List.replicate n ([] : List Int)).getD i [] = [] := by
  rw [List.getD_eq_getElem?_getD, List.getElem?_replicate]
  split <;> rfl
theorem readers_count {mn : Int} {gs : List Gate} (hok : rdOk mn gs = true) {i j : Nat} {g : Gate} (hi : (i : Int) < mn + gs.length) (e : gs[j]? = some g) : ((readersOf mn gs).getD i []).count (mn + (j : Int)) = g.2.1.count (i : Int) := by
  unfold rdOk at hok
  rw [Bool.and_eq_true] at hok
  have hb := of_decide_eq_true hok.1
  unfold readersOf
  rw [addAll_count (by rw [List.length_replicate]; omega) (fun g hg s hs => ?_) (by omega) (j := j) (by simp) e, rep_get]
  · simp
  · have := List.all_eq_true.mp hok.2 g hg
    rw [Bool.and_eq_true, List.all_eq_true] at this
    exact (of_decide_eq_true (this.2 s hs)).1
theorem readers_mem {mn x : Int} {gs : List Gate} {i : Nat} (h : x ∈ (readersOf mn gs).getD i []) : mn ≤ x ∧ x < mn + gs.length := by
  unfold readersOf at h
  rcases addAll_mem h with h | h
  · rw [rep_get] at h; cases h
  · omega
/-- numbers of a stretch, none twice -/
theorem few_ints : ∀ (n : Nat) (mn : Int) (R : List Int), R.Nodup → (∀ x ∈ R, mn ≤ x ∧ x < mn + n) → R.length ≤ n
  | 0, mn, R, _, h => by
    cases R with
    | nil => exact Nat.le_refl _
    | cons x r => have := h x List.mem_cons_self; omega
  | n + 1, mn, R, nd, h => by
    have ih := few_ints n mn (R.erase (mn + n)) (nd.erase _) fun x hx => by
      have h1 := (nd.mem_erase_iff).mp hx
      have h2 := h x h1.2
      have : x ≠ mn + n := h1.1
      omega
    rw [List.length_erase] at ih
    split at ih <;> omega
end SL
namespace SL
open PySem PySem.Spec PyProof.Rows L2
/-! ## the machine's way to the order -/
def ioB : DS → R Out := (mSeq (mAugI (fun i j => i - j) [4, 7, 10] 4 (mBin gSubI (mVar 12) (mVar 1)) (mC (.int 1)))
    (mIf (mB (mBin gEq (mBin gIx (mVar 4) (mBin gSubI (mVar 12) (mVar 1))) (mC (.int 0)))) (mHpush [4, 7, 10] 7 (mVar 12)) mSkip))
def ioT : DS → R Out := (mSeq (mHpop 11 7)
    (mSeq (mApp [4, 7, 10] 10 (mVar 11))
    (mFor [4, 7, 10] (mBin gIx (mVar 3) (mVar 11)) (stName 12) ioB)))
def ioW : DS → R Out := (mSeq (fun δ => whileM (fun δ => ((mVar 7) δ).bind truD) ioT ((fun _ => 2000) δ) δ)
    (mRetO 10))
def io4 : DS → R Out := (mSeq (mOwn [4, 7, 10] 10 (mLst mNil)) ioW)
def io3 : DS → R Out := (mSeq (mOwnI 7 (mCompE [8, 9] 8 9 (mVar 4) (mB (mBin gEq (mVar 9) (mC (.int 0)))) (mBin gAdd (mVar 1) (mVar 8)))) io4)
def io2 : DS → R Out := (mSeq (mOwn [4, 7, 10] 4 (mComp [5] 5 (mVar 2) mYes (mCall gLen (mCons (mL (mComp [6] 6 (mBin gIx (mVar 5) (mC (.int 1))) (mB (mBin (gCmp fun i j => decide (j ≤ i)) (mVar 6) (mVar 1))) (mVar 6))) mNil)))) io3)
def io1 : DS → R Out := (mSeq (mSet [4, 7, 10] 3 (mL (mCallN g_readers (mCons (mVar 0) mNil)))) io2)
def ioM : DS → R Out := (mSeq (mAsg [4, 7, 10] (stPair 1 2) (mVar 0)) io1)
def ioS (mn : Int) (gs : List Gate) (A Z F : List Int) (l r : Option D) : DS := [some (planD mn gs), some (.int mn), some (.list (gatesD gs)), some (.list (rowsD (readersOf mn gs))), some (.list (intsOf A)), none, none, some (.list (intsOf Z)), none, none, some (.list (intsOf F)), l, r]
theorem ints_at {A : List Int} {n : Nat} (h : n < A.length) : (intsOf A)[n]? = some (.int (A.getD n 0)) := by
  unfold intsOf
  rw [List.getElem?_map, List.getElem?_eq_getElem h, List.getD_eq_getElem?_getD, List.getElem?_eq_getElem h]; rfl
theorem ints_len (A : List Int) : (intsOf A).length = A.length := List.length_map ..
theorem at_ints {A : List Int} {k : Int} (h0 : 0 ≤ k) (h : k < A.length) : atI (intsOf A) k = some (.int (A.getD k.toNat 0)) := by
  unfold atI
  rw [ix_in h0 (by rw [ints_len]; exact h)]
  exact ints_at (by omega)
theorem ints_set (A : List Int) (n : Nat) (a : Int) : (intsOf A).set n (.int a) = intsOf (A.set n a) := by
  unfold intsOf
  rw [List.map_set]
theorem ints_inv {A : List Int} : intsD (intsOf A) = some A := by
  induction A with
  | nil => rfl
  | cons a r ih => show (intsD (intsOf r)).map _ = _; rw [ih]; rfl
section
variable {mn : Int} {gs : List Gate} {A Z F : List Int} {l r : Option D}
theorem aug_ok {x : Int} (h0 : mn ≤ x) (h1 : x < mn + A.length) : mAugI (fun i j => i - j) [4, 7, 10] 4 (mBin gSubI (mVar 12) (mVar 1)) (mC (.int 1)) (ioS mn gs A Z F l (some (.int x))) = .ok (.nx (ioS mn gs (A.set (x - mn).toNat (A.getD (x - mn).toNat 0 - 1)) Z F l (some (.int x)))) := by
  show augK (fun i j => i - j) 4 (ioS mn gs A Z F l (some (.int x))) (intsOf A) (.int (x - mn)) (.int 1) = _
  unfold augK
  dsimp only
  rw [ix_in (by omega) (by rw [ints_len]; omega)]
  dsimp only
  rw [ints_at (by omega)]
  dsimp only
  rw [ints_set]; rfl
theorem test_ok {x : Int} (h0 : mn ≤ x) (h1 : x < mn + A.length) {n m : DS → R Out} : mIf (mB (mBin gEq (mBin gIx (mVar 4) (mBin gSubI (mVar 12) (mVar 1))) (mC (.int 0)))) n m (ioS mn gs A Z F l (some (.int x))) = if A.getD (x - mn).toNat 0 = 0 then n (ioS mn gs A Z F l (some (.int x))) else m (ioS mn gs A Z F l (some (.int x))) := by
  have e : mB (mBin gEq (mBin gIx (mVar 4) (mBin gSubI (mVar 12) (mVar 1))) (mC (.int 0))) (ioS mn gs A Z F l (some (.int x))) = .ok (decide (A.getD (x - mn).toNat 0 = 0)) := by
    show ((((atK (atI (intsOf A) (x - mn))).bind fun y => gEq y (.int 0))).bind boolD) = _
    rw [at_ints (by omega) (by omega)]
    rfl
  rw [q_if, e, R.run_ok]
  by_cases q : A.getD (x - mn).toNat 0 = 0
  · rw [if_pos q, if_pos (decide_eq_true q)]
  · rw [if_neg q, if_neg (by rw [decide_eq_false q]; decide)]
theorem push_ok {x : Int} {ys : List Int} (h : hqPush Z x = some ys) (h0 : Z.length < 1000) (h1 : ys.length ≤ 1000) : mHpush [4, 7, 10] 7 (mVar 12) (ioS mn gs A Z F l (some (.int x))) = .ok (.nx (ioS mn gs A ys F l (some (.int x)))) := by
  show hpushK 7 (ioS mn gs A Z F l (some (.int x))) (intsOf Z) (.int x) = _
  unfold hpushK
  rw [ints_inv]
  dsimp only
  rw [h]
  dsimp only
  rw [show decide (Z.length < 1000 ∧ ys.length ≤ 1000) = true from decide_eq_true ⟨h0, h1⟩, R.when_true]; rfl
structure RInv (mn : Int) (n : Nat) (A Z F : List Int) : Prop where
  len : A.length = n
  heap : IsHeap Z
  nd : Z.Nodup
  mem : ∀ x, x ∈ Z ↔ (mn ≤ x ∧ x < mn + n) ∧ x ∉ F ∧ A.getD (x - mn).toNat 0 = 0
  zero : ∀ x ∈ F, (mn ≤ x ∧ x < mn + n) ∧ A.getD (x - mn).toNat 0 = 0
  fnd : F.Nodup
theorem rd_loop {n : Nat} (hn : n ≤ 1000) : ∀ (row A Z : List Int) (r : Option D), (∀ x ∈ row, mn ≤ x ∧ x < mn + n) → (∀ i, i < n → ((row.count (mn + (i : Int)) : Nat) : Int) ≤ A.getD i 0) → RInv mn n A Z F →
    ∃ A' Z' r', loopM (stName 12) ioB (intsOf row) (ioS mn gs A Z F l r) = .ok (.nx (ioS mn gs A' Z' F l r')) ∧ RInv mn n A' Z' F ∧ ∀ i, i < n → A'.getD i 0 = A.getD i 0 - ((row.count (mn + (i : Int)) : Nat) : Int)
  | [], A, Z, r, _, _, v => ⟨A, Z, r, rfl, v, fun i _ => by simp⟩
  | x :: row, A, Z, r, hr, hc, v => by
    obtain ⟨b0, b1⟩ := hr x List.mem_cons_self
    obtain ⟨i0, e0⟩ : ∃ i0 : Nat, x = mn + (i0 : Int) := ⟨(x - mn).toNat, by omega⟩
    have t0 : (x - mn).toNat = i0 := by omega
    have i0n : i0 < n := by omega
    have pos : 1 ≤ A.getD i0 0 := by
      have := hc i0 i0n
      rw [e0, List.count_cons_self] at this
      omega
    -- the number taken down
    have step : ∀ Z', RInv mn n (A.set i0 (A.getD i0 0 - 1)) Z' F → mIf (mB (mBin gEq (mBin gIx (mVar 4) (mBin gSubI (mVar 12) (mVar 1))) (mC (.int 0)))) (mHpush [4, 7, 10] 7 (mVar 12)) mSkip (ioS mn gs (A.set i0 (A.getD i0 0 - 1)) Z F l (some (.int x))) = .ok (.nx (ioS mn gs (A.set i0 (A.getD i0 0 - 1)) Z' F l (some (.int x)))) →
        ∃ A' Z' r', loopM (stName 12) ioB (intsOf (x :: row)) (ioS mn gs A Z F l r) = .ok (.nx (ioS mn gs A' Z' F l r')) ∧ RInv mn n A' Z' F ∧ ∀ i, i < n → A'.getD i 0 = A.getD i 0 - (((x :: row).count (mn + (i : Int)) : Nat) : Int) := fun Z' v' he => by
      have get : ∀ i, (A.set i0 (A.getD i0 0 - 1)).getD i 0 = if i0 = i ∧ i0 < A.length then A.getD i0 0 - 1 else A.getD i 0 := fun i => by
        rw [List.getD_eq_getElem?_getD, List.getElem?_set]
        by_cases h : i0 = i
        · rw [if_pos h]
          by_cases h2 : i0 < A.length
          · rw [if_pos h2, if_pos ⟨h, h2⟩]; rfl
          · rw [if_neg h2, if_neg (fun z => h2 z.2), List.getD_eq_getElem?_getD, List.getElem?_eq_none (by omega)]
        · rw [if_neg h, if_neg (fun z => h z.1), List.getD_eq_getElem?_getD]
      obtain ⟨A', Z2, r', k1, k2, k3⟩ := rd_loop hn row (A.set i0 (A.getD i0 0 - 1)) Z' (some (.int x)) (fun y hy => hr y (List.mem_cons_of_mem _ hy)) (fun i hi => by
        have := hc i hi
        rw [get]
        by_cases h : i0 = i
        · subst h
          rw [if_pos ⟨rfl, by rw [v.len]; exact hi⟩]
          rw [e0, List.count_cons_self] at this
          omega
        · rw [if_neg (fun z => h z.1)]
          rw [List.count_cons_of_ne (by omega)] at this
          exact this) v'
      refine ⟨A', Z2, r', ?_, k2, fun i hi => ?_⟩
      · show (match ioB (ioS mn gs A Z F l (some (.int x))) with
          | .ok (.nx δ') => loopM (stName 12) ioB (intsOf row) δ'
          | .ok (.ct δ') => loopM (stName 12) ioB (intsOf row) δ'
          | .ok (.bk δ') => .ok (.nx δ')
          | r => r) = _
        have : ioB (ioS mn gs A Z F l (some (.int x))) = .ok (.nx (ioS mn gs (A.set i0 (A.getD i0 0 - 1)) Z' F l (some (.int x)))) := by
          unfold ioB
          rw [q_seq, aug_ok b0 (by rw [v.len]; exact b1), t0]
          exact he
        rw [this]
        exact k1
      · rw [k3 i hi, get]
        by_cases h : i0 = i
        · subst h
          rw [if_pos ⟨rfl, by rw [v.len]; exact hi⟩, e0, List.count_cons_self]
          omega
        · rw [if_neg (fun z => h z.1), List.count_cons_of_ne (by omega)]
    have hl : (A.set i0 (A.getD i0 0 - 1)).length = n := by rw [List.length_set]; exact v.len
    have gi : (A.set i0 (A.getD i0 0 - 1)).getD i0 0 = A.getD i0 0 - 1 := by
      rw [List.getD_eq_getElem?_getD, List.getElem?_set_self (by rw [v.len]; exact i0n)]; rfl
    have gn : ∀ i, i ≠ i0 → (A.set i0 (A.getD i0 0 - 1)).getD i 0 = A.getD i 0 := fun i h => by
      rw [List.getD_eq_getElem?_getD, List.getElem?_set_ne (Ne.symm h), List.getD_eq_getElem?_getD]
    have xF : x ∉ F := fun h => by
      have := (v.zero x h).2
      rw [t0] at this
      omega
    have xR : x ∉ Z := fun h => by
      have := ((v.mem x).mp h).2.2
      rw [t0] at this
      omega
    have zero' : ∀ y ∈ F, (mn ≤ y ∧ y < mn + n) ∧ (A.set i0 (A.getD i0 0 - 1)).getD (y - mn).toNat 0 = 0 := fun y hy => by
      obtain ⟨z1, z2⟩ := v.zero y hy
      refine ⟨z1, ?_⟩
      rw [gn _ fun q => xF (by rw [show x = y by omega]; exact hy)]
      exact z2
    by_cases q : A.getD i0 0 - 1 = 0
    · obtain ⟨ys, w1, w2, w3⟩ := heap_push v.heap x
      have nd' : ys.Nodup := w3.nodup_iff.mpr (List.nodup_cons.mpr ⟨xR, v.nd⟩)
      have mem' : ∀ y, y ∈ ys ↔ (mn ≤ y ∧ y < mn + n) ∧ y ∉ F ∧ (A.set i0 (A.getD i0 0 - 1)).getD (y - mn).toNat 0 = 0 := fun y => by
        rw [w3.mem_iff, List.mem_cons]
        by_cases h : y = x
        · subst h
          rw [t0, gi]
          exact ⟨fun _ => ⟨⟨b0, b1⟩, xF, q⟩, fun _ => .inl rfl⟩
        · rw [v.mem y]
          constructor
          · rintro (h' | ⟨h1, h2, h3⟩)
            · exact absurd h' h
            · refine ⟨h1, h2, ?_⟩
              rw [gn _ (by omega)]; exact h3
          · rintro ⟨h1, h2, h3⟩
            rw [gn _ (by omega)] at h3
            exact .inr ⟨h1, h2, h3⟩
      have l2 : ys.length ≤ n := few_ints n mn ys nd' fun y hy => ((mem' y).mp hy).1
      have l1 : ys.length = Z.length + 1 := by rw [w3.length_eq, List.length_cons]
      refine step ys ⟨hl, w2, nd', mem', zero', v.fnd⟩ ?_
      rw [test_ok b0 (by rw [hl]; exact b1), t0, gi, if_pos q]
      exact push_ok w1 (by omega) (by omega)
    · refine step Z ⟨hl, v.heap, v.nd, fun y => ?_, zero', v.fnd⟩ ?_
      · rw [v.mem y]
        by_cases h : y = x
        · subst h
          rw [t0, gi]
          exact ⟨fun z => absurd z.2.2 (by omega), fun z => absurd z.2.2 q⟩
        · constructor
          · rintro ⟨h1, h2, h3⟩
            refine ⟨h1, h2, ?_⟩
            rw [gn _ (by omega)]; exact h3
          · rintro ⟨h1, h2, h3⟩
            rw [gn _ (by omega)] at h3
            exact ⟨h1, h2, h3⟩
      · rw [test_ok b0 (by rw [hl]; exact b1), t0, gi, if_neg q]
        rfl
end
end SL
namespace SL
open PySem PySem.Spec PyProof.Rows L2
theorem comp_filt {δ : DS} {j : Nat} {mt : DS → R Bool} {me : DS → R D} {p : D → Bool} {f : D → D} : ∀ {xs : List D}, (∀ x ∈ xs, mt (δ.set j (some x)) = .ok (p x) ∧ me (δ.set j (some x)) = .ok (f x)) → compM j mt me δ xs = .ok ((xs.filter p).map f)
  | [], _ => rfl
  | x :: xs, h => by
    have ih := comp_filt (xs := xs) fun y hy => h y (List.mem_cons_of_mem _ hy)
    obtain ⟨h1, h2⟩ := h x List.mem_cons_self
    rw [compM, h1, List.filter_cons]
    cases q : p x with
    | true =>
      dsimp only
      rw [h2, ih]; rfl
    | false =>
      dsimp only
      rw [ih]; rfl
theorem filt_ints (p : Int → Bool) (q : D → Bool) (h : ∀ i, q (.int i) = p i) : ∀ A : List Int, (intsOf A).filter q = intsOf (A.filter p)
  | [] => rfl
  | a :: r => by
    have ih := filt_ints p q h r
    show List.filter q (.int a :: intsOf r) = _
    rw [List.filter_cons, List.filter_cons, h, ih]
    cases p a <;> rfl
def readyL (mn : Int) : Nat → List Int → List Int
  | _, [] => []
  | c, a :: r => if a = 0 then (mn + (c : Int)) :: readyL mn (c + 1) r else readyL mn (c + 1) r
theorem readyL_mem {mn : Int} : ∀ {A : List Int} {c : Nat} {x : Int}, x ∈ readyL mn c A ↔ ∃ i, i < A.length ∧ x = mn + ((c + i : Nat) : Int) ∧ A.getD i 0 = 0
  | [], c, x => by simp [readyL]
  | a :: r, c, x => by
    have ih := @readyL_mem mn r (c + 1) x
    have step : (∃ i, i < (a :: r).length ∧ x = mn + ((c + i : Nat) : Int) ∧ (a :: r).getD i 0 = 0) ↔ (x = mn + (c : Int) ∧ a = 0) ∨ ∃ i, i < r.length ∧ x = mn + ((c + 1 + i : Nat) : Int) ∧ r.getD i 0 = 0 := by
      constructor
      · rintro ⟨i, h1, h2, h3⟩
        cases i with
        | zero => exact .inl ⟨by omega, h3⟩
        | succ i => exact .inr ⟨i, Nat.lt_of_succ_lt_succ h1, by omega, h3⟩
      · rintro (⟨h1, h2⟩ | ⟨i, h1, h2, h3⟩)
        · exact ⟨0, Nat.succ_pos _, by omega, h2⟩
        · exact ⟨i + 1, Nat.succ_lt_succ h1, by omega, h3⟩
    rw [step, readyL]
    split
    · rename_i h
      rw [List.mem_cons, ih]
      exact ⟨fun q => q.elim (fun e => .inl ⟨e, h⟩) .inr, fun q => q.elim (fun e => .inl e.1) .inr⟩
    · rename_i h
      rw [ih]
      exact ⟨.inr, fun q => q.elim (fun e => absurd e.2 h) id⟩
theorem readyL_up {mn : Int} : ∀ {A : List Int} {c : Nat}, (readyL mn c A).Pairwise (· < ·)
  | [], _ => .nil
  | a :: r, c => by
    rw [readyL]
    split
    · refine List.pairwise_cons.mpr ⟨fun x hx => ?_, readyL_up⟩
      obtain ⟨i, _, e, _⟩ := readyL_mem.mp hx
      omega
    · exact readyL_up
theorem up_heap {xs : List Int} (h : xs.Pairwise (· < ·)) : IsHeap xs := fun i h0 hi => by
  have := List.pairwise_iff_getElem.mp h ((i - 1) / 2) i (by omega) hi (by omega)
  rw [List.getD_eq_getElem?_getD, List.getD_eq_getElem?_getD, List.getElem?_eq_getElem hi, List.getElem?_eq_getElem (by omega)]
  exact Int.le_of_lt this
theorem up_nodup {xs : List Int} (h : xs.Pairwise (· < ·)) : xs.Nodup := h.imp fun q => Int.ne_of_lt q
theorem cnt_add {mn x : Int} {F : List Int} (hx : mn ≤ x) (hF : x ∉ F) (g : Gate) : cntA mn F g = cntA mn (F ++ [x]) g + g.2.1.count x := by
  unfold cntA
  induction g.2.1 with
  | nil => rfl
  | cons s ss ih =>
    rw [List.countP_cons, List.countP_cons, ih]
    by_cases e : s = x
    · subst e
      rw [List.count_cons_self, if_pos (decide_eq_true ⟨hx, hF⟩), if_neg (fun z => (of_decide_eq_true z).2 (List.mem_append_right _ (List.mem_singleton.mpr rfl)))]
      omega
    · rw [List.count_cons_of_ne e]
      have : decide (mn ≤ s ∧ s ∉ F) = decide (mn ≤ s ∧ s ∉ F ++ [x]) := by
        rw [decide_eq_decide, List.mem_append, List.mem_singleton]
        exact ⟨fun z => ⟨z.1, fun q => q.elim z.2 e⟩, fun z => ⟨z.1, fun q => z.2 (.inl q)⟩⟩
      rw [this]; omega
section
variable {mn : Int} {gs : List Gate}
theorem pop_ok {A Z F ys : List Int} {x : Int} {l r : Option D} (h : hqPop Z = some (x, ys)) (h0 : Z.length ≤ 1000) (h1 : ys.length ≤ 1000) : mHpop 11 7 (ioS mn gs A Z F l r) = .ok (.nx (ioS mn gs A ys F (some (.int x)) r)) := by
  show hpopK 11 7 (ioS mn gs A Z F l r) (intsOf Z) = _
  unfold hpopK
  rw [ints_inv]
  dsimp only
  rw [h]
  dsimp only
  rw [show decide (Z.length ≤ 1000 ∧ ys.length ≤ 1000) = true from decide_eq_true ⟨h0, h1⟩]; rfl
theorem app_ok {A Z F : List Int} {x : Int} {r : Option D} (h : F.length ≤ 1000) : mApp [4, 7, 10] 10 (mVar 11) (ioS mn gs A Z F (some (.int x)) r) = .ok (.nx (ioS mn gs A Z (F ++ [x]) (some (.int x)) r)) := by
  show R.when (ltOk (intsOf F).length) (R.ok (Out.nx ((ioS mn gs A Z F (some (.int x)) r).set 10 (some (.list (intsOf F ++ [.int x])))))) = _
  have big : (1000 : Nat) < sizeLine := by decide
  have e : ltOk (intsOf F).length = true := by rw [ints_len]; exact decide_eq_true (by omega)
  rw [e, R.when_true, show intsOf F ++ [.int x] = intsOf (F ++ [x]) from by unfold intsOf; rw [List.map_append]; rfl]; rfl
theorem rows_at {rows : List (List Int)} {k : Int} (h0 : 0 ≤ k) (h : k < rows.length) : atI (rowsD rows) k = some (.list (intsOf (rows.getD k.toNat []))) := by
  unfold atI
  have l : (rowsD rows).length = rows.length := List.length_map ..
  rw [ix_in h0 (by rw [l]; exact h)]
  show (rowsD rows)[k.toNat]? = _
  unfold rowsD
  rw [List.getElem?_map, List.getElem?_eq_getElem (by omega), List.getD_eq_getElem?_getD, List.getElem?_eq_getElem (by omega)]; rfl
theorem readers_len : (readersOf mn gs).length = (mn + gs.length).toNat := by
  unfold readersOf
  rw [addAll_len, List.length_replicate]
theorem for_ok {A Z F : List Int} {x : Int} {r : Option D} (h0 : 0 ≤ x) (h : x < mn + gs.length) : mFor [4, 7, 10] (mBin gIx (mVar 3) (mVar 11)) (stName 12) ioB (ioS mn gs A Z F (some (.int x)) r) = loopM (stName 12) ioB (intsOf ((readersOf mn gs).getD x.toNat [])) (ioS mn gs A Z F (some (.int x)) r) := by
  show ((atK (atI (rowsD (readersOf mn gs)) x)).run (ioS mn gs A Z F (some (.int x)) r) (forK (stName 12) ioB (ioS mn gs A Z F (some (.int x)) r))) = _
  rw [rows_at h0 (by rw [readers_len]; omega)]; rfl
structure IOInv (mn : Int) (gs : List Gate) (A Z F : List Int) : Prop where
  inv : RInv mn gs.length A Z F
  cnt : ∀ i g, gs[i]? = some g → A.getD i 0 = cntA mn F g
theorem turn_ok {A Z F : List Int} {x : Int} {l r : Option D} (hok : rdOk mn gs = true) (v : IOInv mn gs A Z F) {ys : List Int} (h : hqPop Z = some (x, ys)) (hh : IsHeap ys) (hp : Z.Perm (x :: ys)) :
    ∃ A' Z' r', ioT (ioS mn gs A Z F l r) = .ok (.nx (ioS mn gs A' Z' (F ++ [x]) (some (.int x)) r')) ∧ IOInv mn gs A' Z' (F ++ [x]) := by
  have hok2 := hok
  unfold rdOk at hok2
  rw [Bool.and_eq_true] at hok2
  obtain ⟨m0, m1⟩ := of_decide_eq_true hok2.1
  have hx : x ∈ Z := hp.mem_iff.mpr List.mem_cons_self
  obtain ⟨⟨b0, b1⟩, xF, xz⟩ := (v.inv.mem x).mp hx
  have nd2 := hp.nodup_iff.mp v.inv.nd
  obtain ⟨xys, ndy⟩ := List.nodup_cons.mp nd2
  have lz : Z.length ≤ gs.length := few_ints _ mn Z v.inv.nd fun y hy => ((v.inv.mem y).mp hy).1
  have lf : F.length ≤ gs.length := few_ints _ mn F v.inv.fnd fun y hy => (v.inv.zero y hy).1
  have ly : ys.length ≤ 1000 := by have := hp.length_eq; rw [List.length_cons] at this; omega
  have v1 : RInv mn gs.length A ys (F ++ [x]) := by
    refine ⟨v.inv.len, hh, ndy, fun y => ?_, fun y hy => ?_, ?_⟩
    · have e1 := v.inv.mem y
      rw [hp.mem_iff, List.mem_cons] at e1
      rw [List.mem_append, List.mem_singleton]
      constructor
      · intro q
        obtain ⟨z1, z2, z3⟩ := e1.mp (.inr q)
        exact ⟨z1, fun w => w.elim z2 fun w => xys (w ▸ q), z3⟩
      · rintro ⟨z1, z2, z3⟩
        rcases e1.mpr ⟨z1, fun w => z2 (.inl w), z3⟩ with q | q
        · exact absurd (.inr q) z2
        · exact q
    · rcases List.mem_append.mp hy with q | q
      · exact v.inv.zero y q
      · rw [List.mem_singleton.mp q]; exact ⟨⟨b0, b1⟩, xz⟩
    · refine List.nodup_append.mpr ⟨v.inv.fnd, List.nodup_cons.mpr ⟨List.not_mem_nil, List.nodup_nil⟩, fun a ha b hb e => ?_⟩
      rw [List.mem_singleton.mp hb] at e
      exact xF (e ▸ ha)
  have hcount : ∀ (i : Nat) (g : Gate), gs[i]? = some g → ((readersOf mn gs).getD x.toNat []).count (mn + (i : Int)) = g.2.1.count x := fun i g e => by
    have := readers_count hok (i := x.toNat) (by omega) e
    rwa [Int.toNat_of_nonneg (by omega)] at this
  obtain ⟨A', Z', r', k1, k2, k3⟩ := rd_loop (gs := gs) (l := some (.int x)) (n := gs.length) (by omega) ((readersOf mn gs).getD x.toNat []) A ys r (fun y hy => readers_mem hy) (fun i hi => by
    have e := List.getElem?_eq_getElem hi
    rw [hcount i _ e, v.cnt i _ e, cnt_add b0 xF]
    omega) v1
  refine ⟨A', Z', r', ?_, k2, fun i g e => ?_⟩
  · unfold ioT
    rw [cutR _ (pop_ok h (by omega) ly) rfl, cutR _ (app_ok (by omega)) rfl, for_ok (by omega) b1]
    exact k1
  · have hi : i < gs.length := (List.getElem?_eq_some_iff.mp e).1
    rw [k3 i hi, hcount i g e, v.cnt i g e, cnt_add b0 xF]
    omega
/-- a gate of the heap is one that has its turn -/
theorem ready_iff {A Z F : List Int} (v : IOInv mn gs A Z F) {i : Nat} {g : Gate} (e : gs[i]? = some g) : mn + (i : Int) ∈ Z ↔ turnQ mn F i g = true := by
  have hi : i < gs.length := (List.getElem?_eq_some_iff.mp e).1
  rw [v.inv.mem]
  unfold turnQ
  rw [decide_eq_true_iff, show (mn + (i : Int) - mn).toNat = i by omega, v.cnt i g e]
  exact ⟨fun z => ⟨z.2.1, by omega⟩, fun z => ⟨by omega, z.1, by omega⟩⟩
theorem io_loop (hok : rdOk mn gs = true) : ∀ (n : Nat) (F A Z : List Int) (l r : Option D), IOInv mn gs A Z F → gs.length < F.length + n →
    ∃ A' Z' l' r', whileM (fun δ => ((mVar 7) δ).bind truD) ioT n (ioS mn gs A Z F l r) = .ok (.nx (ioS mn gs A' Z' (ordG mn gs n F) l' r'))
  | 0, F, A, Z, l, r, v, h => by
    have := few_ints _ mn F v.inv.fnd fun y hy => (v.inv.zero y hy).1
    omega
  | n + 1, F, A, Z, l, r, v, h => by
    have te : (mVar 7 (ioS mn gs A Z F l r)).bind truD = .ok (!(intsOf Z).isEmpty) := rfl
    unfold whileM
    rw [te, R.run_ok]
    by_cases hz : Z = []
    · subst hz
      have : leastAt mn F 0 gs = none := leastAt_none.mpr fun i g e => by
        rw [Nat.zero_add]
        cases q : turnQ mn F i g with
        | false => rfl
        | true => exact absurd ((ready_iff v e).mpr q) List.not_mem_nil
      rw [ordG, this]
      exact ⟨A, [], l, r, rfl⟩
    · obtain ⟨x, ys, h1, h2, h3, h4, _⟩ := heap_pop v.inv.heap hz
      have hx : x ∈ Z := h3.mem_iff.mpr List.mem_cons_self
      obtain ⟨⟨b0, b1⟩, _, _⟩ := (v.inv.mem x).mp hx
      obtain ⟨i0, rfl⟩ : ∃ i0 : Nat, x = mn + (i0 : Int) := ⟨(x - mn).toNat, by omega⟩
      have hi : i0 < gs.length := by omega
      have e0 := List.getElem?_eq_getElem hi
      have : leastAt mn F 0 gs = some (0 + i0) := leastAt_some e0 (by rw [Nat.zero_add]; exact (ready_iff v e0).mp hx) fun i g hl e => by
        rw [Nat.zero_add]
        cases q : turnQ mn F i g with
        | false => rfl
        | true =>
          have := h4 _ ((ready_iff v e).mpr q)
          omega
      rw [Nat.zero_add] at this
      obtain ⟨A', Z', r', k1, k2⟩ := turn_ok (l := l) (r := r) hok v h1 h2 h3
      obtain ⟨A2, Z2, l2, r2, k3⟩ := io_loop hok n (F ++ [mn + (i0 : Int)]) A' Z' (some (.int (mn + (i0 : Int)))) r' k2 (by rw [List.length_append, List.length_singleton]; omega)
      refine ⟨A2, Z2, l2, r2, ?_⟩
      have ne : (intsOf Z).isEmpty = false := by
        cases Z with
        | nil => exact absurd rfl hz
        | cons => rfl
      rw [ne, if_pos (by rfl), k1, ordG, this]
      exact k3
end
end SL
namespace SL
open PySem PySem.Spec PyProof.Rows L2
theorem imms_intsOf : ∀ A : List Int, imms (intsOf A) = true
  | [] => rfl
  | _ :: r => imms_intsOf r
def geP (mn : Int) : D → Bool
  | .int i => decide (mn ≤ i)
  | _ => false
theorem compE_ready {mn : Int} {δ : DS} (hl : δ.length = 13) (h1 : mVar 1 δ = .ok (.int mn)) : ∀ (A : List Int) (c : Nat), compE 8 9 (mB (mBin gEq (mVar 9) (mC (.int 0)))) (mBin gAdd (mVar 1) (mVar 8)) δ (c : Int) (intsOf A) = .ok (intsOf (readyL mn c A))
  | [], _ => rfl
  | a :: r, c => by
    have ih := compE_ready hl h1 r (c + 1)
    have e9 : mVar 9 (set2 8 9 (c : Int) (.int a) δ) = .ok (.int a) := by
      rw [q_var]; unfold set2; rw [List.getElem?_set_self (by rw [List.length_set, hl]; decide)]; rfl
    have e8 : mVar 8 (set2 8 9 (c : Int) (.int a) δ) = .ok (.int (c : Int)) := by
      rw [q_var]; unfold set2; rw [List.getElem?_set_ne (by decide), List.getElem?_set_self (by rw [hl]; decide)]; rfl
    have e1 : mVar 1 (set2 8 9 (c : Int) (.int a) δ) = .ok (.int mn) := by
      rw [q_var] at h1 ⊢; unfold set2; rw [List.getElem?_set_ne (by decide), List.getElem?_set_ne (by decide)]; exact h1
    have t : mB (mBin gEq (mVar 9) (mC (.int 0))) (set2 8 9 (c : Int) (.int a) δ) = .ok (decide (a = 0)) := by
      rw [q_B, q_bin, e9]; rfl
    have e : mBin gAdd (mVar 1) (mVar 8) (set2 8 9 (c : Int) (.int a) δ) = .ok (.int (mn + (c : Int))) := by
      rw [q_bin, e1, e8]; rfl
    show turnR _ _ (compE 8 9 (mB (mBin gEq (mVar 9) (mC (.int 0)))) (mBin gAdd (mVar 1) (mVar 8)) δ ((c : Int) + 1) (intsOf r)) (set2 8 9 (c : Int) (.int a) δ) = _
    unfold turnR
    rw [t, e, show ((c : Int) + 1) = ((c + 1 : Nat) : Int) from rfl, ih, readyL]
    by_cases q : a = 0
    · rw [decide_eq_true q, if_pos q]; rfl
    · rw [decide_eq_false q, if_neg q]
theorem gates_map_len {gs : List Gate} : (gatesD gs).length = gs.length := List.length_map ..
theorem cnt_item {mn : Int} {δ : DS} (hl : δ.length = 13) (h1 : mVar 1 δ = .ok (.int mn)) {g : Gate} (hg : g.2.1.length ≤ 1000) : (mCall gLen (mCons (mL (mComp [6] 6 (mBin gIx (mVar 5) (mC (.int 1))) (mB (mBin (gCmp fun i j => decide (j ≤ i)) (mVar 6) (mVar 1))) (mVar 6))) mNil)) (δ.set 5 (some (gateD g))) = .ok (.int (cntA mn [] g)) := by
  have big : (1000 : Nat) < sizeLine := by decide
  have e5 : mVar 5 (δ.set 5 (some (gateD g))) = .ok (gateD g) := by
    rw [q_var, List.getElem?_set_self (by rw [hl]; decide)]; rfl
  have e : mBin gIx (mVar 5) (mC (.int 1)) (δ.set 5 (some (gateD g))) = .ok (.tuple (intsOf g.2.1)) := by rw [q_bin, e5]; rfl
  have lt : ltOk (intsOf g.2.1).length = true := by rw [ints_len]; exact decide_eq_true (by omega)
  rw [q_call, q_cons, q_mL, q_comp, e, R.bind_ok, q_compT, lt, R.when_true]
  rw [comp_filt (p := geP mn) (f := id) fun x hx => ?_]
  · rw [filt_ints (fun i => decide (mn ≤ i)) (geP mn) (fun _ => rfl), List.map_id, R.map_ok, R.bind_ok, q_nil, R.map_ok, R.bind_ok, g_lenL, ints_len]
    unfold cntA
    rw [List.countP_eq_length_filter]
    have : (fun i : Int => decide (mn ≤ i)) = fun s => decide (mn ≤ s ∧ s ∉ ([] : List Int)) := by funext s; simp
    rw [this]
  · unfold intsOf at hx
    obtain ⟨i, _, rfl⟩ := List.mem_map.mp hx
    have e6 : mVar 6 ((wipeD (δ.set 5 (some (gateD g))) [6]).set 6 (some (.int i))) = .ok (.int i) := by
      rw [q_var, q_wipe1, List.getElem?_set_self (by rw [List.length_set, List.length_set, hl]; decide)]; rfl
    have e1 : mVar 1 ((wipeD (δ.set 5 (some (gateD g))) [6]).set 6 (some (.int i))) = .ok (.int mn) := by
      rw [q_var] at h1 ⊢
      rw [q_wipe1, List.getElem?_set_ne (by decide), List.getElem?_set_ne (by decide), List.getElem?_set_ne (by decide)]; exact h1
    refine ⟨?_, e6⟩
    rw [q_B, q_bin, e6, e1]
    rfl
theorem readers_eq {mn : Int} {gs : List Gate} (hok : rdOk mn gs = true) : g_readers [planD mn gs] = .ok (rowsD (readersOf mn gs)) := by
  show (match toPlan (planD mn gs) with
    | some (mn, gs) => R.when (rdOk mn gs) (.ok (rowsD (readersOf mn gs)))
    | none => .bad) = _
  rw [toPlan_of]
  dsimp only
  rw [hok]; rfl
def g_inorder : List D → R (List D)
  | [d] => match toPlan d with
    | some (mn, gs) => R.when (rdOk mn gs) (.ok (intsOf (ordOf mn gs)))
    | none => .bad
  | _ => .bad
theorem io_ok {mn : Int} {gs : List Gate} (hok : rdOk mn gs = true) : finL (ioM [some (planD mn gs), none, none, none, none, none, none, none, none, none, none, none, none]) = .ok (intsOf (ordOf mn gs)) := by
  have hok2 := hok
  unfold rdOk at hok2
  rw [Bool.and_eq_true, List.all_eq_true] at hok2
  obtain ⟨m0, m1⟩ := of_decide_eq_true hok2.1
  have big : (1000 : Nat) < sizeLine := by decide
  have lg : ltOk (gatesD gs).length = true := by rw [gates_map_len]; exact decide_eq_true (by omega)
  unfold ioM
  rw [cutR [some (planD mn gs), some (.int mn), some (.list (gatesD gs)), none, none, none, none, none, none, none, none, none, none] (by rfl) rfl]
  unfold io1
  rw [cutR [some (planD mn gs), some (.int mn), some (.list (gatesD gs)), some (.list (rowsD (readersOf mn gs))), none, none, none, none, none, none, none, none, none] (by
    show ((((g_readers [planD mn gs])).map PyData.list).run _ fun d => _) = _
    rw [readers_eq hok]; rfl) rfl]
  unfold io2
  rw [cutR [some (planD mn gs), some (.int mn), some (.list (gatesD gs)), some (.list (rowsD (readersOf mn gs))), some (.list (intsOf (gs.map fun g => (cntA mn [] g : Int)))), none, none, none, none, none, none, none, none] (by
    show ((R.when (ltOk (gatesD gs).length) (compM 5 mYes _ [some (planD mn gs), some (.int mn), some (.list (gatesD gs)), some (.list (rowsD (readersOf mn gs))), none, none, none, none, none, none, none, none, none] (gatesD gs))).run _ fun ds => _) = _
    rw [lg, R.when_true, comp_map (f := fun d => match toGate d with
      | some g => .int (cntA mn [] g)
      | none => .none) (xs := gatesD gs) fun x hx => ?_]
    · have : (gatesD gs).map (fun d => match toGate d with
        | some g => (.int (cntA mn [] g) : D)
        | none => .none) = intsOf (gs.map fun g => (cntA mn [] g : Int)) := by
        unfold gatesD intsOf
        rw [List.map_map, List.map_map]
        refine List.map_congr_left fun g _ => ?_
        show (match toGate (gateD g) with
          | some g => (.int (cntA mn [] g) : D)
          | none => .none) = _
        rw [toGate_of]; rfl
      rw [this]; rfl
    · unfold gatesD at hx
      obtain ⟨g, hg, rfl⟩ := List.mem_map.mp hx
      rw [toGate_of]
      have := hok2.2 g hg
      rw [Bool.and_eq_true] at this
      exact cnt_item rfl rfl (of_decide_eq_true this.1)) rfl]
  unfold io3
  rw [cutR [some (planD mn gs), some (.int mn), some (.list (gatesD gs)), some (.list (rowsD (readersOf mn gs))), some (.list (intsOf (gs.map fun g => (cntA mn [] g : Int)))), none, none, some (.list (intsOf (readyL mn 0 (gs.map fun g => (cntA mn [] g : Int))))), none, none, none, none, none] (by
    show ((R.when (ltOk (intsOf (gs.map fun g => (cntA mn [] g : Int))).length) (compE 8 9 _ _ [some (planD mn gs), some (.int mn), some (.list (gatesD gs)), some (.list (rowsD (readersOf mn gs))), some (.list (intsOf (gs.map fun g => (cntA mn [] g : Int)))), none, none, none, none, none, none, none, none] 0 (intsOf (gs.map fun g => (cntA mn [] g : Int))))).run _ fun ds => _) = _
    have lt : ltOk (intsOf (gs.map fun g => (cntA mn [] g : Int))).length = true := by rw [ints_len, List.length_map]; exact decide_eq_true (by omega)
    have ce := compE_ready (mn := mn) (δ := [some (planD mn gs), some (.int mn), some (.list (gatesD gs)), some (.list (rowsD (readersOf mn gs))), some (.list (intsOf (gs.map fun g => (cntA mn [] g : Int)))), none, none, none, none, none, none, none, none]) rfl rfl (gs.map fun g => (cntA mn [] g : Int)) 0
    rw [lt, R.when_true]
    rw [show ((0 : Nat) : Int) = 0 from rfl] at ce
    rw [ce, R.run_ok, imms_intsOf]; rfl) rfl]
  unfold io4
  rw [cutR (ioS mn gs (gs.map fun g => (cntA mn [] g : Int)) (readyL mn 0 (gs.map fun g => (cntA mn [] g : Int))) [] none none) (by rfl) rfl]
  have v : IOInv mn gs (gs.map fun g => (cntA mn [] g : Int)) (readyL mn 0 (gs.map fun g => (cntA mn [] g : Int))) [] := by
    refine ⟨⟨List.length_map .., up_heap readyL_up, up_nodup readyL_up, fun x => ?_, fun x hx => absurd hx List.not_mem_nil, List.nodup_nil⟩, fun i g e => ?_⟩
    · rw [readyL_mem, List.length_map]
      constructor
      · rintro ⟨i, h1, h2, h3⟩
        refine ⟨by omega, List.not_mem_nil, ?_⟩
        rw [show (x - mn).toNat = i by omega]; exact h3
      · rintro ⟨h1, _, h3⟩
        exact ⟨(x - mn).toNat, by omega, by omega, h3⟩
    · rw [List.getD_eq_getElem?_getD, List.getElem?_map, e]; rfl
  obtain ⟨A', Z', l', r', k⟩ := io_loop hok 2000 [] _ _ none none v (by simp; omega)
  unfold ioW
  rw [cutR _ k rfl]
  rfl
end SL
namespace SL
open PySem PySem.Spec PyProof.Rows L2
theorem err_gates {mn : Int} {gs : List Gate} (h : planErr mn gs = none) : (0 ≤ mn ∧ mn ≤ 60) ∧ gs.length ≤ 200 ∧ ∀ g ∈ gs, gateErr (mn + gs.length) g = none := by
  unfold planErr at h
  split at h
  · cases h
  · rename_i h1
    split at h
    · cases h
    · rename_i h2
      exact ⟨by omega, by omega, List.findSome?_eq_none_iff.mp h⟩
theorem err_src {lines : Int} {g : Gate} (h : gateErr lines g = none) : ∀ s ∈ g.2.1, 0 ≤ s ∧ s < lines := by
  unfold gateErr at h
  split at h
  · cases h
  · split at h
    · cases h
    · split at h
      · cases h
      · rename_i h2
        intro s hs
        have : srcBad lines s = false := by
          cases q : srcBad lines s with
          | false => rfl
          | true => exact absurd (List.any_eq_true.mpr ⟨s, hs, q⟩) h2
        have := of_decide_eq_false this
        omega
theorem ok_rd {mn : Int} {gs : List Gate} (ht : planTame mn gs = true) (h : planErr mn gs = none) : rdOk mn gs = true := by
  obtain ⟨h1, h2, h3⟩ := err_gates h
  unfold rdOk
  rw [Bool.and_eq_true]
  refine ⟨decide_eq_true (by omega), List.all_eq_true.mpr fun g hg => ?_⟩
  unfold planTame at ht
  rw [Bool.and_eq_true, List.all_eq_true] at ht
  have := ht.2 g hg
  unfold gateTame at this
  rw [Bool.and_eq_true] at this
  have := of_decide_eq_true this.2
  rw [Bool.and_eq_true]
  exact ⟨decide_eq_true (by omega), List.all_eq_true.mpr fun s hs => decide_eq_true (err_src (h3 g hg) s hs)⟩
def ordErr (mn : Int) (gs : List Gate) : Option Nat := if (ordOf mn gs).length < gs.length then some 6 else none
def g_order : List D → R (List D)
  | [d] => match toPlan d with
    | some (mn, gs) => R.when (planTame mn gs) (errR (planErr mn gs) (errR (ordErr mn gs) (.ok (intsOf (ordOf mn gs)))))
    | none => .bad
  | _ => .bad
theorem inorder_ev {mn : Int} {gs : List Gate} (h : rdOk mn gs = true) : g_inorder [planD mn gs] = .ok (intsOf (ordOf mn gs)) := by
  show (match toPlan (planD mn gs) with
    | some (mn, gs) => R.when (rdOk mn gs) (.ok (intsOf (ordOf mn gs)))
    | none => .bad) = _
  rw [toPlan_of]
  dsimp only
  rw [h]; rfl
theorem order_ev {mn : Int} {gs : List Gate} (h : planTame mn gs = true) : g_order [planD mn gs] = errR (planErr mn gs) (errR (ordErr mn gs) (.ok (intsOf (ordOf mn gs)))) := by
  show (match toPlan (planD mn gs) with
    | some (mn, gs) => R.when (planTame mn gs) (errR (planErr mn gs) (errR (ordErr mn gs) (.ok (intsOf (ordOf mn gs)))))
    | none => .bad) = _
  rw [toPlan_of]
  dsimp only
  rw [h]; rfl
end SL
namespace L2
open PySem PySem.Spec PyProof.Rows
section
variable {X : Cx}
/-! ## sets of ints -/
theorem valsIA : ∀ {ns : List Int} {its : List Value}, Vals (ns.map V.int) its → IntsAre its ns
  | [], _, .nil => .nil
  | n :: ns, _, .cons ⟨t, e⟩ r => by
    subst e
    exact .cons _ _ (valsIA r)
def setP (ns : List Int) : Int → Bool := fun k => (firstMet (fun i => ns.getD i 0) ns.length).any (· == k)
theorem setP_mem (ns : List Int) (k : Int) : setP ns k = decide (k ∈ ns) := by
  unfold setP
  rw [firstMet_any, Bool.eq_iff_iff, List.any_eq_true, decide_eq_true_iff]
  constructor
  · rintro ⟨x, hx, e⟩
    obtain ⟨i, hi, rfl⟩ := List.mem_map.mp hx
    have hi := List.mem_range.mp hi
    rw [← eq_of_beq e, List.getD_eq_getElem?_getD, List.getElem?_eq_getElem hi]
    exact List.getElem_mem hi
  · intro h
    obtain ⟨i, hi, e⟩ := List.mem_iff_getElem.mp h
    refine ⟨k, List.mem_map.mpr ⟨i, List.mem_range.mpr hi, ?_⟩, beq_self_eq_true k⟩
    rw [List.getD_eq_getElem?_getD, List.getElem?_eq_getElem hi]; exact e
def rSetI (K : PySem.W.Frag) : List V → Hp → VK → Prop := fun xs H Q => ∃ (l : Addr) (ns : List Int), xs = [.ref l] ∧ SqL K H l (ns.map V.int) ∧ ns.length ≤ 4000 ∧ ∀ p n, H p = none → Q (.ref p) (upd H p (.set (setP ns) n))
theorem cr_setI (hc : X.calm = true) : CallR X (.type "set") (rSetI X.K) := by
  intro pins s σ H xs us Q I r h
  obtain ⟨l, ns, rfl, hs, hl, q⟩ := h
  obtain ⟨its, rv, hli, hz⟩ := I.list hs
  rw [Vals.ref1 r]
  have hi := valsIA rv
  have sz : its.toArray.size = ns.length := by rw [List.size_toArray]; exact IntsAre.length hi
  refine PySem.call_set_list (ns := ns) (I.ok.hd hc) hli.isList hi (by rw [sz]; unfold scanBound; omega) fun h' tk hS hk => ?_
  rw [sz] at hS
  exact ⟨.ref _, upd H s.heap.objs.size (.set (setP ns) _), I.laid (t' := tk) (fun b u e => hk b u (Heap.lt_size e) e) (Nat.le_refl _) hS, rfl, q _ _ (I.hok.fresh (Nat.le_refl _))⟩
def rInI : R2 := fun x y H Q => ∃ (k : Int) (a : Addr) (S : Int → Bool) (n : Nat), x = .int k ∧ y = .ref a ∧ H a = some (.set S n) ∧ Q (.bl (S k)) H
theorem op_inI : OpR X (compareOp .In) rInI := by
  intro pins s σ H x y v u Q I rx ry h
  obtain ⟨k, a, S, n, rfl, rfl, ha, q⟩ := h
  obtain ⟨t, rfl⟩ := rx
  cases ry
  exact wpAny_inSet_of (intKind_is _ _ _ _) rfl (show s.heap.SetOf (intKind X.prog X.w) a S n from I.hok a _ ha) ⟨.bl (S k), H, I.tok _, rfl, q⟩
end
end L2
namespace L2
open PySem PySem.Spec PyProof.Rows
section
variable {X : Cx} {Y : Wy} {O : List Nat} {i : Nat}
/-! ## statements that leave the slot i as it is -/
abbrev TSemK (X : Cx) (Y : Wy) (O : List Nat) (i : Nat) (t : TS) (m : DS → R Out) : Prop := ∀ (A0 : Addr → Prop) (T : List Tm) (H0 : Hp) (σ : St) (δ : DS) (H : Hp) (Dn : Ends) (v : V), SS X.K A0 O T H0 σ δ H → σ[i]? = some (some v) →
  WpS X.K Y A0 O T H0 (m δ) { Dn with nx := fun σ' H' => σ'[i]? = some (some v) → Dn.nx σ' H' } → t Dn σ H
def DSk (X : Cx) (Y : Wy) (O : List Nat) (i : Nat) (b : List Stmt) (m : DS → R Out) : Prop := ∃ t, PSs X b t ∧ TSemK X Y O i t m
theorem tsemK_seq {t u : TS} {m n : DS → R Out} (h : TSemK X Y O i t m) (h' : TSemK X Y O i u n) : TSemK X Y O i (tSeq t u) (mSeq m n) := fun A0 T H0 σ δ H Dn v s hv w => by
  refine h A0 T H0 σ δ H _ v s hv ?_
  unfold mSeq at w
  cases e : m δ with
  | bad => rw [e] at w; exact w
  | ex k => rw [e] at w; exact w
  | ok o =>
    rw [e] at w
    cases o with
    | nx δ' => exact fun σ' H' s' hv' => h' A0 T H0 σ' δ' H' Dn v s' hv' w
    | rt d => exact w
    | rl d => exact w
    | bk δ' => exact w
    | ct δ' => exact w
    | ex n δ' => exact w
theorem dsk_triAt {ia ja ka xi : Nat} {a b c x : Str} {pa pb pc tpos pos px ps pos2 : Pos} {x1} {e e2 ej : Expr} {m m2 mj : DS → R D} (hc : X.calm = true) (hN : X.N.Nodup) (hi : X.N[ia]? = some a) (hj : X.N[ja]? = some b) (hk : X.N[ka]? = some c) (ha : Loc X.env.scope a) (hb : Loc X.env.scope b) (hcl : Loc X.env.scope c)
    (he : DE X Y e m) (hx : X.N[xi]? = some x) (hvx : Vis X.env.scope x) (hps : ∀ {to ti : TE}, PE X (.Name x px) to → PE X ej ti → PG X (.Subscript (.Name x px) ej ps) (gSub to ti rSetL)) (he2 : DE X Y e2 m2) (hj2 : DE X Y ej mj)
    (hna : i ≠ ia := by decide) (hnb : i ≠ ja := by decide) (hnc : i ≠ ka := by decide) (hoi : ia ∉ O := by decide) (hoj : ja ∉ O := by decide) (hok : ka ∉ O := by decide) (hox : xi ∈ O := by decide)
    (hfa : X.fn a = true ∨ X.env.scope.names.lookup a = some .local := by first | exact .inl rfl | exact .inr rfl | assumption) (hfb : X.fn b = true ∨ X.env.scope.names.lookup b = some .local := by first | exact .inl rfl | exact .inr rfl | assumption)
    (hfc : X.fn c = true ∨ X.env.scope.names.lookup c = some .local := by first | exact .inl rfl | exact .inr rfl | assumption)
    (hs : swapsWithSole [.Tuple [.Name a pa, .Name b pb, .Name c pc] x1 tpos] e pos.line X.env = pure false := by rfl) (hw : swappedStores [.Tuple [.Name a pa, .Name b pb, .Name c pc] x1 tpos] e X.env = pure none := by rfl)
    (h1 : (assignEach [.Tuple [.Name a pa, .Name b pb, .Name c pc] x1 tpos] X.env).map (·.2) = [assign (.Tuple [.Name a pa, .Name b pb, .Name c pc] x1 tpos) X.env] := by rfl)
    (hs2 : swapsWithSole [.Subscript (.Name x px) ej ps] e2 pos2.line X.env = pure false := by rfl) (hw2 : swappedStores [.Subscript (.Name x px) ej ps] e2 X.env = pure none := by rfl) (h12 : (assignEach [.Subscript (.Name x px) ej ps] X.env).map (·.2) = [assign (.Subscript (.Name x px) ej ps) X.env] := by rfl)
    (hd : (x == ("__debug__" : Str)) = false := by decide) (hcd : (x == ("__classdict__" : Str)) = false := by decide) :
    DSk X Y O i [.Assign [.Tuple [.Name a pa, .Name b pb, .Name c pc] x1 tpos] e pos, .Assign [.Subscript (.Name x px) ej ps] e2 pos2] (mSeq (mAsg O (stTri ia ja ka) m) (mSetAtI xi m2 mj)) := by
  obtain ⟨t, p, q⟩ := he
  obtain ⟨t2, p2, q2⟩ := he2
  obtain ⟨tj, pj, qj⟩ := hj2
  refine ⟨_, pss_cons (ps_asg p (pg_tup hc (pgs_cons (pg_name hN hi ha hfa) (pgs_cons (pg_name hN hj hb hfb) (pgs_cons (pg_name hN hk hcl hfc) pgs_nil)))) hs hw h1) (pss_one (ps_asg p2 (hps (pe_var hx hvx hd hcd) pj) hs2 hw2 h12)), tsemK_seq (fun A0 T H0 σ δ H Dn u s hu w => ?_) (fun A0 T H0 σ δ H Dn u s hu w => ?_)⟩
  · obtain ⟨w0, cv, sr, up, kp, tm, _⟩ := s.share
    refine q σ (hideD O δ) H _ cv sr _ ?_
    unfold mAsg at w
    cases e : m (hideD O δ) with
    | bad => rw [e] at w; exact w
    | ex k => rw [e] at w; exact fun H' t => w σ H' (s.keep t)
    | ok d =>
      rw [e] at w
      dsimp only [R.run] at w
      refine fun v H' t r => ?_
      have s0 := tm (tmD X.K v d) H' t r
      unfold stTri at w
      split at w
      · rename_i δ' e2
        split at e2
        · rename_i y1 y2 y3
          obtain ⟨hb, w⟩ : (inB ia δ && (inB ja (δ.set ia (some y1)) && inB ka ((δ.set ia (some y1)).set ja (some y2)))) = true ∧ δ' = ((δ.set ia (some y1)).set ja (some y2)).set ka (some y3) ∧ WpS X.K Y A0 O T H0 (.ok (.nx δ')) { Dn with nx := fun σ' H' => σ'[i]? = some (some u) → Dn.nx σ' H' } := by
            cases hb : (inB ia δ && (inB ja (δ.set ia (some y1)) && inB ka ((δ.set ia (some y1)).set ja (some y2)))) with
            | false => rw [hb] at e2; cases e2
            | true => rw [hb] at e2; cases e2; exact ⟨rfl, rfl, w⟩
          obtain ⟨ed, w⟩ := w
          subst ed
          rw [Bool.and_eq_true, Bool.and_eq_true] at hb
          obtain ⟨w0', k1, k2, k3, k4⟩ := s0.ex
          obtain ⟨p, vs, rfl, g1, g2⟩ := dp_tup (show Dp X.K _ v (.tuple [y1, y2, y3]) from k4 _ List.mem_cons_self)
          obtain ⟨vx, vy, vz, rfl, g3, g4, g5⟩ := dpAll3 g2
          have hq := sqT_same mask_le g1
          have s1 : SS X.K A0 O (tmD X.K vx y1 :: tmD X.K vy y2 :: tmD X.K vz y3 :: tmD X.K (.ref p) (.tuple [y1, y2, y3]) :: T) H0 σ δ H' := by
            refine ⟨⟨w0', k1, k2, k3, fun q hq => ?_⟩, s0.len, s0.same, s0.cov⟩
            rcases List.mem_cons.mp hq with rfl | hq
            · exact g3
            · rcases List.mem_cons.mp hq with rfl | hq
              · exact g4
              · rcases List.mem_cons.mp hq with rfl | hq
                · exact g5
                · exact k4 q hq
          exact ⟨p, [vx, vy, vz], rfl, hq, rfl, vx, [vy, vz], rfl, vy, [vz], rfl, vz, [], rfl, rfl, w _ _ (((s1.setT hoi hb.1).setT hoj hb.2.1).setT hok hb.2.2).untemp (by
            rw [List.getElem?_set_ne (Ne.symm hnc), List.getElem?_set_ne (Ne.symm hnb), List.getElem?_set_ne (Ne.symm hna)]; exact hu)⟩
        · cases e2
      · exact w.elim
  · unfold mSetAtI at w
    cases e0 : ownedL xi δ with
    | bad => rw [e0] at w; exact w.elim
    | ex k => unfold ownedL at e0; split at e0 <;> cases e0
    | ok ds =>
      rw [e0] at w
      have ei := ownedL_ok e0
      obtain ⟨w0, cv, sr, up, kp, tm, lst, own, mt⟩ := s.share
      refine q2 σ δ H _ s.covH s.read _ ?_
      replace w : WpS X.K Y A0 O T H0 ((m2 δ).run δ fun d => (mj δ).run δ fun j => R.when (imm d) (mPut xi ds δ d j)) { Dn with nx := fun σ' H' => σ'[i]? = some (some u) → Dn.nx σ' H' } := w
      cases em : m2 δ with
      | bad => rw [em] at w; exact w
      | ex k => rw [em] at w; exact fun H' t => w σ H' (s.keep t)
      | ok d =>
        rw [em] at w
        replace w : WpS X.K Y A0 O T H0 ((mj δ).run δ fun j => R.when (imm d) (mPut xi ds δ d j)) { Dn with nx := fun σ' H' => σ'[i]? = some (some u) → Dn.nx σ' H' } := w
        refine fun v H1 t1 r1 => ⟨_, (mt xi ds [] [] H hox ei (Same.refl H) .nil).1, qj σ δ H1 A0 (s.covH.mono t1) (s.read.mono t1) _ ?_⟩
        cases ek : mj δ with
        | bad => rw [ek] at w; exact w
        | ex k => rw [ek] at w; exact fun H' t => w σ H' (s.keep (t1.trans t))
        | ok j =>
          rw [ek] at w
          obtain ⟨hb, w⟩ := R.when_ok (fun r => WpS X.K Y A0 O T H0 r _) w id
          intro y H2 t2 r2
          obtain ⟨pp, xs, kk, n, z1, z2, z3, z4, z5⟩ := put_core (Y := Y) hox ei (t1.trans t2) mt (Dp.tsame (tsame_mask2 fun a q => (lst a q).imp id fun ⟨xs, z⟩ => ⟨xs, t2 _ _ (t1 _ _ z)⟩) hb (Dp.same (Same.mask t2) r1)) r2 w
          exact ⟨pp, xs, kk, n, z1, z2, z3, z4, z5 hu⟩
/-! ## s = set(e); for x in it: if x in s: .. -/
def tmS (p : Addr) (S : Int → Bool) (n : Nat) : Tm := ⟨fun H => H p = some (.set S n), fun s h => s _ _ h⟩
def nxOnly : R Out → R Out
  | .ok (.ct _) => .bad
  | .ok (.bk _) => .bad
  | r => r
def inM (ns : List Int) (jl : Nat) (m : DS → R Out) : DS → R Out := fun δ => match δ[jl]? with
  | some (some (.int k)) => if k ∈ ns then nxOnly (m δ) else .ok (.nx δ)
  | _ => .bad
theorem SS.lose {K : PySem.W.Frag} {A0 : Addr → Prop} {T : List Tm} {H0 H : Hp} {σ : St} {δ : DS} {v : V} (s : SS K A0 O T H0 σ δ H) (ho : i ∉ O) : SS K A0 O T H0 (σ.set i (some v)) (δ.set i none) H := by
  obtain ⟨w, h1, h2, h3, h4⟩ := s.ex
  have same : ∀ j ∈ O, (δ.set i none)[j]? = δ[j]? := fun j jo => List.getElem?_set_ne (fun e => ho (by rw [e]; exact jo))
  have oe : (fun a => A0 a ∨ ∃ j ∈ O, (∃ x, (δ.set i none)[j]? = some (some x)) ∧ a = w j) = (fun a => A0 a ∨ ∃ j ∈ O, (∃ x, δ[j]? = some (some x)) ∧ a = w j) := by
    funext a
    refine propext ⟨fun q => q.imp id fun ⟨j, jo, jd, e⟩ => ⟨j, jo, by rw [same j jo] at jd; exact jd, e⟩, fun q => q.imp id fun ⟨j, jo, jd, e⟩ => ⟨j, jo, by rw [same j jo]; exact jd, e⟩⟩
  refine ⟨⟨w, fun k x ko e => ?_, fun k x ko e => ?_, fun k j ko jo ke je => ?_, fun p hp => by rw [oe]; exact h4 p hp⟩, by rw [List.length_set, List.length_set]; exact s.len, s.same, s.cov⟩
  · rw [oe]
    by_cases hk : i = k
    · subst hk
      by_cases hl : i < δ.length
      · rw [List.getElem?_set_self hl] at e; cases e
      · rw [List.getElem?_eq_none (by simpa using hl)] at e; cases e
    · rw [List.getElem?_set_ne hk] at e ⊢
      exact h1 k x ko e
  · rw [oe]
    have hk : i ≠ k := fun e => ho (e ▸ ko)
    rw [List.getElem?_set_ne hk] at e ⊢
    exact h2 k x ko e
  · rw [same k ko] at ke
    rw [same j jo] at je
    exact h3 k j ko jo ke je
end
end L2
namespace L2
open PySem PySem.Spec PyProof.Rows
section
variable {X : Cx} {Y : Wy} {O : List Nat} {i : Nat}
def mForL (O : List Nat) (me : DS → R D) (st : D → DS → R DS) (m : DS → R Out) : DS → R Out := fun δ => (me (hideD O δ)).run δ fun d => match d with
  | .list ds => loopM st m ds δ
  | _ => .bad
def mSetFor (O : List Nat) (i jt jl : Nat) (me : DS → R D) (m mr : DS → R Out) : DS → R Out := fun δ => match δ[jt]? with
  | some (some (.list ds)) => match intsD ds with
    | some ns => R.when (decide (ns.length ≤ 4000) && inB i δ) (mSeq (mForL O me (stName jl) (inM ns jl m)) mr (δ.set i none))
    | none => .bad
  | _ => .bad
theorem forIn_core {A0 : Addr → Prop} {T : List Tm} {H0 H : Hp} {σ : St} {δ : DS} {p : Addr} {n jl : Nat} {ns : List Int} {te : TE} {tb : TS} {me : DS → R D} {m : DS → R Out} {Dn : Ends}
    (qe : ∀ (σ : St) (δ : DS) (H : Hp) (A : Addr → Prop), Cov A H → SR X.K A σ δ H → ∀ Q : VK, WpE X.K (Y.at σ) A H (me δ) Q → te σ H Q) (qb : TSemK X Y O i tb m) (hoj : jl ∉ O) (hij : i ≠ jl)
    (s : SS X.K A0 O (tmS p (setP ns) n :: T) H0 σ δ H) (hσ : σ[i]? = some (some (.ref p))) (w : WpS X.K Y A0 O T H0 (mForL O me (stName jl) (inM ns jl m) δ) Dn) :
    tFor (iList X.K te) (gName jl) (tIfS (tTest (tOp rInI (tVar jl) (tVar i))) tb tNext) Dn σ H := by
  obtain ⟨w0, cv, sr, up, kp, tm, _⟩ := s.share
  unfold mForL at w
  cases e : me (hideD O δ) with
  | bad => rw [e] at w; exact w.elim
  | ex k => rw [e] at w; exact qe σ (hideD O δ) H _ cv sr _ (by rw [e]; exact fun H' t => w σ H' (s.untemp.keep t))
  | ok d =>
    rw [e] at w
    dsimp only [R.run] at w
    cases d with
    | list ds =>
      refine qe σ (hideD O δ) H _ cv sr _ ?_
      rw [e]
      intro v H1 t1 r1
      obtain ⟨a, us, rfl, h1, h2⟩ := dp_list r1
      have s1 : SS X.K A0 O (tmL X.K a us ds :: tmS p (setP ns) n :: T) H0 σ δ H1 := tm (tmL X.K a us ds) H1 t1 ⟨h1, h2⟩
      refine ⟨a, rfl, ⟨us, sqL_same mask_le h1⟩, for_list (K := X.K) (a := a) (xs := us) (fun k σ' H' => ∃ δ', SS X.K A0 O (tmL X.K a us ds :: tmS p (setP ns) n :: T) H0 σ' δ' H' ∧ σ'[i]? = some (some (.ref p)) ∧ WpS X.K Y A0 O (tmL X.K a us ds :: tmS p (setP ns) n :: T) H0 (loopM (stName jl) (inM ns jl m) (ds.drop k) δ') Dn)
        ⟨δ, s1, hσ, WpS.push _ (WpS.push _ w)⟩ (fun k σ' H' _ ⟨δ', s', _⟩ => s'.tm.1) (fun k x σ' H' hi h => ?_) (fun σ' H' ⟨δ', s', _, w'⟩ => ?_)⟩
      · obtain ⟨δ', s', hv, w'⟩ := h
        obtain ⟨dx, hd, _⟩ := h2.get2 hi
        rw [take_next hd] at w'
        have s2 : SS X.K A0 O (tmD X.K x dx :: tmL X.K a us ds :: tmS p (setP ns) n :: T) H0 σ' δ' H' := s'.temp (tmD X.K x dx) fun G hG => by
          obtain ⟨dx', hd', hr'⟩ := (hG (tmL X.K a us ds) List.mem_cons_self).2.get2 hi
          rw [hd] at hd'
          cases hd'
          exact hr'
        have dp : Dp X.K H' x dx := s2.tm
        unfold loopM stName at w'
        cases hb : inB jl δ' with
        | false => rw [hb] at w'; exact w'.elim
        | true =>
          rw [hb] at w'
          replace w' : WpS X.K Y A0 O (tmL X.K a us ds :: tmS p (setP ns) n :: T) H0 (match inM ns jl m (δ'.set jl (some dx)) with
            | .ok (.nx δ') => loopM (stName jl) (inM ns jl m) (ds.drop (k + 1)) δ'
            | .ok (.ct δ') => loopM (stName jl) (inM ns jl m) (ds.drop (k + 1)) δ'
            | .ok (.bk δ') => .ok (.nx δ')
            | r => r) Dn := w'
          have s3 := s2.setT hoj hb
          have hl : jl < δ'.length := of_decide_eq_true hb
          have hv2 : (σ'.set jl (some x))[i]? = some (some (.ref p)) := by rw [List.getElem?_set_ne (Ne.symm hij)]; exact hv
          have hset : H' p = some (.set (setP ns) n) := s'.untemp.tm
          show tIfS (tTest (tOp rInI (tVar jl) (tVar i))) tb tNext _ (σ'.set jl (some x)) H'
          unfold inM at w'
          rw [List.getElem?_set_self hl] at w'
          cases dp with
          | int z =>
            dsimp only at w'
            refine ⟨.int z, List.getElem?_set_self (by rw [s'.len]; exact hl), .ref p, hv2, z, p, setP ns, n, rfl, rfl, hset, _, rfl, ?_⟩
            rw [setP_mem]
            by_cases hz : z ∈ ns
            · rw [if_pos hz] at w'
              rw [if_pos (decide_eq_true hz)]
              refine qb A0 _ H0 _ _ H' _ (.ref p) s3 hv2 ?_
              cases e2 : m (δ'.set jl (some (.int z))) with
              | bad => rw [e2] at w'; exact w'
              | ex k => rw [e2] at w'; exact w'
              | ok o =>
                rw [e2] at w'
                cases o with
                | nx δ'' => exact fun σ'' H'' s'' hv'' => ⟨δ'', s'', hv'', w'⟩
                | ct δ'' => exact w'.elim
                | bk δ'' => exact w'.elim
                | rt d => exact w'
                | rl d => exact w'
                | ex n δ'' => exact w'
            · rw [if_neg hz] at w'
              rw [if_neg (by rw [decide_eq_false hz]; decide)]
              exact ⟨_, s3, hv2, w'⟩
          | _ => exact w'.elim
      · rw [h2.len, List.drop_length] at w'
        exact w' _ _ s'
    | _ => exact w.elim
theorem dss_setFor {jt jl : Nat} {anew tch ln : Str} {it : Expr} {BODY rest : List Stmt} {me : DS → R D} {m mr : DS → R Out} {p1 p2 p3 p4 p5 q1 q2 q3 q4 q5 q6 : Pos} (hp : PassesOwn (model X.prog X.w) X.A X.env X.xe) (hc : X.calm = true) (hN : X.N.Nodup)
    (hi : X.N[i]? = some anew) (hli : Loc X.env.scope anew) (hvi : Vis X.env.scope anew) (hjt : X.N[jt]? = some tch) (hvt : Vis X.env.scope tch) (hjl : X.N[jl]? = some ln) (hll : Loc X.env.scope ln) (hvl : Vis X.env.scope ln)
    (he : DE X Y it me) (hb : DSk X Y O i BODY m) (hr : DSs X Y O rest mr) (gs : Gl X "set") (ms : X.mg "set" = none) (hij : i ≠ jl := by decide) (hoi : i ∉ O := by decide) (hoj : jl ∉ O := by decide)
    (hfi : X.fn anew = true ∨ X.env.scope.names.lookup anew = some .local := by first | exact .inl rfl | exact .inr rfl | assumption) (hfl : X.fn ln = true ∨ X.env.scope.names.lookup ln = some .local := by first | exact .inl rfl | exact .inr rfl | assumption)
    (hsw : swapsWith (.Call (.Name "set" p2) [.Name tch p3] [] p4) (some (.Name anew p1)) p5.line X.env = pure false := by rfl) (hst : starEach [.Name tch p3] X.env = (false, eval (.Name tch p3) X.env) :: starEach [] X.env := by rfl) (hpl : (backTo p4 (starEach [] X.env)).any (·.1) = false := by rfl)
    (hbm : behindInMarks .In (.Name anew q3) = false := by rfl) (hs : ∀ x, foldedSetIterable it X.env x = pure x := by intro _; rfl)
    (hdi : (anew == ("__debug__" : Str)) = false := by decide) (hci : (anew == ("__classdict__" : Str)) = false := by decide) (hdt : (tch == ("__debug__" : Str)) = false := by decide) (hct : (tch == ("__classdict__" : Str)) = false := by decide) (hdl : (ln == ("__debug__" : Str)) = false := by decide) (hcl : (ln == ("__classdict__" : Str)) = false := by decide) :
    DSs X Y O (.Assign [.Name anew p1] (.Call (.Name "set" p2) [.Name tch p3] [] p4) p5 :: .For (.Name ln q1) it [.If (.Compare (.Name ln q2) [.In] [.Name anew q3] q4) BODY [] q5] [] q6 :: rest) (mSetFor O i jt jl me m mr) := by
  obtain ⟨te, pe, qe⟩ := he
  obtain ⟨tb, pb, qb⟩ := hb
  obtain ⟨tr, pr, qr⟩ := hr
  refine ⟨_, pss_cons (ps_set hN hi hli (pe_callTy (cr_setI hc) gs ms (by decide +kernel) (pa_cons (pe_var hjt hvt hdt hct) pa_nil hst) (by decide) (by decide) hst hpl) hsw hfi)
    (pss_cons (ps_for hp hc (pi_list pe) (pg_name hN hjl hll hfl) (pss_one (ps_if (pt_cmpR op_inI (pe_var hjl hvl hdl hcl) (pe_var hi hvi hdi hci) hbm) pb pss_nil)) hs) pr), fun A0 T H0 σ δ H Dn s w => ?_⟩
  unfold mSetFor at w
  cases e0 : δ[jt]? with
  | none => rw [e0] at w; exact w.elim
  | some o0 =>
    rw [e0] at w
    cases o0 with
    | none => exact w.elim
    | some d0 =>
      cases d0 with
      | list ds =>
        dsimp only at w
        cases e1 : intsD ds with
        | none => rw [e1] at w; exact w.elim
        | some ns =>
          rw [e1] at w
          have eds := ints_inv e1
          subst eds
          dsimp only at w
          obtain ⟨hcond, w⟩ := R.when_ok (fun r => WpS X.K Y A0 O T H0 r Dn) w id
          rw [Bool.and_eq_true] at hcond
          have hlen := of_decide_eq_true hcond.1
          have hil : i < σ.length := by rw [s.len]; exact of_decide_eq_true hcond.2
          obtain ⟨v, z1, z2⟩ := s.read.1 jt _ e0
          obtain ⟨l, vs, rfl, h1, h2⟩ := dp_list z2
          have ev := dp_ints_inv h2
          subst ev
          refine ⟨.ref l, z1, l, ns, rfl, sqL_same mask_le h1, hlen, fun p n hp0 => ?_⟩
          obtain ⟨w0, cv, sr, up, kp, tm, _⟩ := s.share
          have t1 : Same H (upd H p (.set (setP ns) n)) := same_upd hp0
          have s1 := (tm (tmS p (setP ns) n) _ t1 (mask_some.mpr ⟨Cov.new cv hp0, upd_same⟩)).lose (i := i) (v := .ref p) hoi
          have hσ : (σ.set i (some (V.ref p)))[i]? = some (some (.ref p)) := List.getElem?_set_self hil
          refine forIn_core (tb := tb) (Dn := { Dn with nx := tr Dn }) qe qb hoj hij s1 hσ ?_
          unfold mSeq at w
          cases e2 : mForL O me (stName jl) (inM ns jl m) (δ.set i none) with
          | bad => rw [e2] at w; exact w
          | ex k => rw [e2] at w; exact w
          | ok o =>
            rw [e2] at w
            cases o with
            | nx δ' => exact fun σ' H' s' => qr A0 T H0 σ' δ' H' Dn s' w
            | rt d => exact w
            | rl d => exact w
            | bk δ' => exact w
            | ct δ' => exact w
            | ex n δ' => exact w
      | _ => exact w.elim
end
end L2
namespace SL
open PySem PySem.Spec PyProof.Rows L2
/-! ## what holds of the order -/
theorem cntA_zero {mn : Int} {F : List Int} {g : Gate} : cntA mn F g = 0 ↔ ∀ s ∈ g.2.1, mn ≤ s → s ∈ F := by
  unfold cntA
  rw [List.countP_eq_zero]
  constructor
  · intro h s hs hm
    have := h s hs
    rw [decide_eq_true_iff] at this
    exact Classical.not_not.mp fun q => this ⟨hm, q⟩
  · intro h s hs
    rw [decide_eq_true_iff]
    exact fun q => q.2 (h s hs q.1)
/-- each stands where it is the least that has its turn -/
def Chain (mn : Int) (gs : List Gate) (F : List Int) : Prop := ∀ (k : Nat) (x : Int), F[k]? = some x → ∃ i : Nat, x = mn + (i : Int) ∧ leastAt mn (F.take k) 0 gs = some i
theorem Chain.snoc {mn : Int} {gs : List Gate} {F : List Int} {i : Nat} (h : Chain mn gs F) (e : leastAt mn F 0 gs = some i) : Chain mn gs (F ++ [mn + (i : Int)]) := fun k x hk => by
  rcases Nat.lt_or_ge k F.length with q | q
  · rw [List.getElem?_append_left q] at hk
    rw [List.take_append_of_le_length (by omega)]
    exact h k x hk
  · have hl : k < (F ++ [mn + (i : Int)]).length := (List.getElem?_eq_some_iff.mp hk).1
    rw [List.length_append, List.length_singleton] at hl
    have : k = F.length := by omega
    subst this
    rw [List.getElem?_append_right (Nat.le_refl _), Nat.sub_self] at hk
    cases hk
    rw [List.take_append_of_le_length (Nat.le_refl _), List.take_length]
    exact ⟨i, rfl, e⟩
theorem ordG_chain {mn : Int} {gs : List Gate} : ∀ (n : Nat) (F : List Int), Chain mn gs F → Chain mn gs (ordG mn gs n F)
  | 0, F, h => h
  | n + 1, F, h => by
    rw [ordG]
    split
    · rename_i i e
      exact ordG_chain n _ (h.snoc e)
    · exact h
theorem Chain.turn {mn : Int} {gs : List Gate} {F : List Int} (h : Chain mn gs F) {k : Nat} {x : Int} (e : F[k]? = some x) : ∃ (i : Nat) (g : Gate), x = mn + (i : Int) ∧ gs[i]? = some g ∧ x ∉ F.take k ∧ ∀ s ∈ g.2.1, mn ≤ s → s ∈ F.take k := by
  obtain ⟨i, e1, e2⟩ := h k x e
  obtain ⟨j, g, z1, z2, z3, _⟩ := leastAt_inv e2
  rw [Nat.zero_add] at z1 z3
  subst z1
  have := of_decide_eq_true z3
  refine ⟨i, g, e1, z2, ?_, cntA_zero.mp this.2⟩
  rw [e1]; exact this.1
theorem Chain.nodup {mn : Int} {gs : List Gate} {F : List Int} (h : Chain mn gs F) : F.Nodup := by
  rw [List.nodup_iff_pairwise_ne, List.pairwise_iff_getElem]
  intro i j hi hj hij e
  obtain ⟨_, _, _, _, z, _⟩ := h.turn (List.getElem?_eq_getElem hj)
  refine z ?_
  rw [← e]
  exact List.mem_iff_getElem.mpr ⟨i, by rw [List.length_take]; omega, List.getElem_take ..⟩
theorem Chain.range {mn : Int} {gs : List Gate} {F : List Int} (h : Chain mn gs F) {x : Int} (hx : x ∈ F) : mn ≤ x ∧ x < mn + gs.length := by
  obtain ⟨k, hk, e⟩ := List.mem_iff_getElem.mp hx
  obtain ⟨i, g, e1, e2, _⟩ := h.turn (k := k) (x := x) (by rw [List.getElem?_eq_getElem hk, e])
  have := (List.getElem?_eq_some_iff.mp e2).1
  omega
theorem Chain.few {mn : Int} {gs : List Gate} {F : List Int} (h : Chain mn gs F) : F.length ≤ gs.length := few_ints _ mn F h.nodup fun _ hx => h.range hx
theorem ordG_end {mn : Int} {gs : List Gate} : ∀ (n : Nat) (F : List Int), Chain mn gs F → gs.length < F.length + n → leastAt mn (ordG mn gs n F) 0 gs = none
  | 0, F, h, q => by have := h.few; omega
  | n + 1, F, h, q => by
    rw [ordG]
    split
    · rename_i i e
      exact ordG_end n _ (h.snoc e) (by rw [List.length_append, List.length_singleton]; omega)
    · rename_i e; exact e
theorem ord_chain (mn : Int) (gs : List Gate) : Chain mn gs (ordOf mn gs) := ordG_chain _ _ fun k x e => by cases k <;> cases e
theorem ord_end {mn : Int} {gs : List Gate} (h : gs.length < 2000) : leastAt mn (ordOf mn gs) 0 gs = none := ordG_end _ _ (fun k x e => by cases k <;> cases e) (by simp; omega)
/-- a gate that is not found has a source that is not found -/
theorem ord_left {mn : Int} {gs : List Gate} (h : gs.length < 2000) {i : Nat} {g : Gate} (e : gs[i]? = some g) (hi : mn + (i : Int) ∉ ordOf mn gs) : ∃ s ∈ g.2.1, mn ≤ s ∧ s ∉ ordOf mn gs := by
  have := leastAt_none.mp (ord_end (mn := mn) h) i g e
  rw [Nat.zero_add] at this
  have h2 := of_decide_eq_false this
  have h3 : ¬ cntA mn (ordOf mn gs) g = 0 := fun q => h2 ⟨hi, q⟩
  rw [cntA_zero] at h3
  exact Classical.byContradiction fun q => h3 fun s hs hm => Classical.byContradiction fun w => q ⟨s, hs, hm, w⟩
theorem sub_few : ∀ {xs ys : List Int}, xs.Nodup → (∀ x ∈ xs, x ∈ ys) → xs.length ≤ ys.length
  | [], _, _, _ => Nat.zero_le _
  | x :: xs, ys, nd, h => by
    obtain ⟨n1, n2⟩ := List.nodup_cons.mp nd
    have hx := h x List.mem_cons_self
    have := sub_few (xs := xs) (ys := ys.erase x) n2 fun y hy => by
      have ne : y ≠ x := fun q => n1 (q ▸ hy)
      exact (List.mem_erase_of_ne ne).mpr (h y (List.mem_cons_of_mem _ hy))
    rw [List.length_erase_of_mem hx] at this
    have : 0 < ys.length := List.length_pos_of_mem hx
    rw [List.length_cons]; omega
theorem all_lines {mn : Int} {n : Nat} {F : List Int} (h : ∀ i : Nat, i < n → mn + (i : Int) ∈ F) : n ≤ F.length := by
  have := sub_few (xs := (List.range n).map fun (i : Nat) => mn + (i : Int)) (ys := F) (by
    rw [List.nodup_iff_pairwise_ne, List.pairwise_map]
    exact (List.nodup_iff_pairwise_ne.mp List.nodup_range).imp fun h q => h (by omega)) fun x hx => by
      obtain ⟨i, hi, rfl⟩ := List.mem_map.mp hx
      exact h i (List.mem_range.mp hi)
  rwa [List.length_map, List.length_range] at this
/-- without a ring all are found -/
theorem free_all {mn : Int} {gs : List Gate} (h : gs.length < 2000) (hr : ∀ g ∈ gs, ∀ s ∈ g.2.1, s < mn + gs.length) (f : Free mn gs) : ∀ i : Nat, i < gs.length → mn + (i : Int) ∈ ordOf mn gs := by
  obtain ⟨rk, hb, up⟩ := f
  have main : ∀ (n : Nat) (i : Nat), i < gs.length → rk i < n → mn + (i : Int) ∈ ordOf mn gs := fun n => by
    induction n with
    | zero => intro i hi q; have := (hb i (by omega) (by omega)).1; omega
    | succ n ih =>
      intro i hi q
      refine Classical.byContradiction fun w => ?_
      have e := List.getElem?_eq_getElem hi
      obtain ⟨s, hs, hm, hn⟩ := ord_left h e w
      have r1 := up i _ e s hs hm
      have r2 := hr _ (List.mem_of_getElem? e) s hs
      have := ih (s - mn).toNat (by omega) (by rw [Int.toNat_of_nonneg (by omega)]; omega)
      rw [Int.toNat_of_nonneg (by omega)] at this
      exact hn (by rwa [show mn + (s - mn) = s by omega] at this)
  intro i hi
  have := hb i (by omega) (by omega)
  exact main gs.length i hi this.2
theorem free_ord {mn : Int} {gs : List Gate} (h : gs.length < 2000) (hr : ∀ g ∈ gs, ∀ s ∈ g.2.1, s < mn + gs.length) (f : Free mn gs) : (ordOf mn gs).length = gs.length ∧ ordErr mn gs = none := by
  have h1 := all_lines (free_all h hr f)
  have h2 := (ord_chain mn gs).few
  refine ⟨by omega, ?_⟩
  unfold ordErr
  rw [if_neg (by omega)]
/-! ## the least line that has its turn, by what is done -/
def doneB (mn : Int) (n : Nat) (F : List Int) : List Bool := (List.range n).map fun (l : Nat) => decide ((l : Int) < mn ∨ (l : Int) ∈ F)
theorem doneB_len {mn : Int} {n : Nat} {F : List Int} : (doneB mn n F).length = n := by unfold doneB; rw [List.length_map, List.length_range]
theorem doneB_get {mn : Int} {n : Nat} {F : List Int} {l : Nat} (h : l < n) : (doneB mn n F)[l]? = some (decide ((l : Int) < mn ∨ (l : Int) ∈ F)) := by
  unfold doneB
  rw [List.getElem?_map, List.getElem?_range h]; rfl
theorem doneB_getD {mn : Int} {n : Nat} {F : List Int} {l : Nat} (h : l < n) : (doneB mn n F).getD l false = decide ((l : Int) < mn ∨ (l : Int) ∈ F) := by
  rw [List.getD_eq_getElem?_getD, doneB_get h]; rfl
theorem doneB_set {mn : Int} {n : Nat} {F : List Int} {l : Nat} : (doneB mn n F).set l true = doneB mn n (F ++ [(l : Int)]) := by
  refine List.ext_getElem? fun i => ?_
  rw [List.getElem?_set, doneB_len]
  rcases Nat.lt_or_ge i n with h | h
  · rw [doneB_get h, doneB_get h]
    by_cases e : l = i
    · subst e
      rw [if_pos rfl, if_pos h]
      exact congrArg some (decide_eq_true (.inr (List.mem_append_right _ (List.mem_singleton.mpr rfl)))).symm
    · rw [if_neg e]
      refine congrArg some (decide_eq_decide.mpr ?_)
      rw [List.mem_append, List.mem_singleton]
      exact ⟨fun q => q.elim .inl fun q => .inr (.inl q), fun q => q.elim .inl fun q => q.elim .inr fun q => absurd q (by omega)⟩
  · rw [List.getElem?_eq_none (by rw [doneB_len]; omega), List.getElem?_eq_none (by rw [doneB_len]; omega)]
    by_cases e : l = i
    · rw [if_pos e, if_neg (by omega)]
    · rw [if_neg e]
def lineOf (mn : Int) : Option Nat → Int
  | some i => mn + (i : Int)
  | none => -1
def leastK (mn : Int) (bs : List Bool) : Nat → List Gate → Int
  | _, [] => -1
  | k, g :: gs => if (!bs.getD (mn + (k : Int)).toNat false && g.2.1.all fun s => bs.getD s.toNat false) = true then mn + (k : Int) else leastK mn bs (k + 1) gs
theorem leastK_at {mn : Int} {n : Nat} {F : List Int} (h0 : 0 ≤ mn) : ∀ {gs : List Gate} {k : Nat}, mn + (k : Int) + gs.length ≤ n → (∀ g ∈ gs, ∀ s ∈ g.2.1, 0 ≤ s ∧ s < n) → leastK mn (doneB mn n F) k gs = lineOf mn (leastAt mn F k gs)
  | [], _, _, _ => rfl
  | g :: gs, k, hn, hs => by
    rw [List.length_cons] at hn
    have ih := leastK_at (F := F) h0 (gs := gs) (k := k + 1) (by omega) fun g hg => hs g (List.mem_cons_of_mem _ hg)
    have e1 : (doneB mn n F).getD (mn + (k : Int)).toNat false = decide (mn + (k : Int) ∈ F) := by
      rw [doneB_getD (by omega), decide_eq_decide, Int.toNat_of_nonneg (by omega)]
      exact ⟨fun q => q.elim (fun q => by omega) id, .inr⟩
    have e2 : (g.2.1.all fun s => (doneB mn n F).getD s.toNat false) = decide (cntA mn F g = 0) := by
      rw [Bool.eq_iff_iff, List.all_eq_true, decide_eq_true_iff, cntA_zero]
      constructor
      · intro q s hm hl
        have b := hs g List.mem_cons_self s hm
        have := q s hm
        rw [doneB_getD (by omega), Int.toNat_of_nonneg b.1] at this
        exact (of_decide_eq_true this).elim (fun q => by omega) id
      · intro q s hm
        have b := hs g List.mem_cons_self s hm
        rw [doneB_getD (by omega), Int.toNat_of_nonneg b.1]
        rcases Int.lt_or_le s mn with w | w
        · exact decide_eq_true (.inl w)
        · exact decide_eq_true (.inr (q s hm w))
    have e3 : (!decide (mn + (k : Int) ∈ F) && decide (cntA mn F g = 0)) = turnQ mn F k g := by
      unfold turnQ
      rw [Bool.eq_iff_iff, Bool.and_eq_true, Bool.not_eq_true', decide_eq_false_iff_not, decide_eq_true_iff, decide_eq_true_iff]
    rw [leastK, leastAt, e1, e2, e3]
    by_cases q : turnQ mn F k g = true
    · rw [if_pos q, if_pos q]; rfl
    · rw [if_neg q, if_neg q]; exact ih
def g_least : List D → R D
  | [d, .list ds] => match toPlan d, boolsD ds with
    | some (mn, gs), some bs => R.when (rdOk mn gs && decide (bs.length = (mn + gs.length).toNat)) (.ok (.int (leastK mn bs 0 gs)))
    | _, _ => .bad
  | _ => .bad
theorem least_ev {mn : Int} {gs : List Gate} (hok : rdOk mn gs = true) (F : List Int) : g_least [planD mn gs, .list ((doneB mn (mn + gs.length).toNat F).map PyData.bool)] = R.ok (PyData.int (lineOf mn (leastAt mn F 0 gs))) := by
  have hok2 := hok
  unfold rdOk at hok2
  rw [Bool.and_eq_true, List.all_eq_true] at hok2
  have hb := of_decide_eq_true hok2.1
  show (match toPlan (planD mn gs), boolsD ((doneB mn (mn + gs.length).toNat F).map PyData.bool) with
    | some (mn, gs), some bs => R.when (rdOk mn gs && decide (bs.length = (mn + gs.length).toNat)) (R.ok (PyData.int (leastK mn bs 0 gs)))
    | _, _ => R.bad) = _
  rw [toPlan_of, bools_of]
  dsimp only
  rw [hok, doneB_len, decide_eq_true rfl, Bool.and_true, R.when_true, leastK_at hb.1 (by omega) fun g hg s hs => ?_]
  have := hok2.2 g hg
  rw [Bool.and_eq_true, List.all_eq_true] at this
  have := of_decide_eq_true (this.2 s hs)
  omega
theorem len2 {a b : DS → R D} : ∀ δ ds, mCons a (mCons b mNil) δ = .ok ds → ds.length = 2 := fun δ ds h => by
  rw [q_cons, q_cons, q_nil] at h
  cases e1 : a δ with
  | ok d =>
    cases e2 : b δ with
    | ok d2 => rw [e1, e2] at h; cases h; rfl
    | ex n => rw [e1, e2] at h; cases h
    | bad => rw [e1, e2] at h; cases h
  | ex n => rw [e1] at h; cases h
  | bad => rw [e1] at h; cases h
theorem neI {i j : Int} : gNe (.int i) (.int j) = .ok (.bool (!decide (i = j))) := by
  have h : gEq (.int i) (.int j) = .ok (.bool (decide (i = j))) := g_eqI
  unfold gEq at h
  unfold gNe
  have s : (shp (.int i) && shp (.int j)) = true := rfl
  rw [s, R.when_true] at h ⊢
  injection h with h
  injection h with h
  rw [h]
def g_law : List D → R D
  | [.list xs] => match intsD xs with
    | some _ => .ok (.bool true)
    | none => .bad
  | _ => .bad
theorem free_ev (ns : List Int) {n : Int} (hn : 0 < n) : g_freeplan [.list (ns.map PyData.int), .int n] = .ok (planD (freeMn ns) (freeGs ns n)) := by
  show (match intsD (ns.map PyData.int) with
    | some ns => R.when (decide (0 < n)) (R.ok (planD (freeMn ns) (freeGs ns n)))
    | none => R.bad) = _
  rw [ints_of]
  dsimp only
  rw [decide_eq_true hn]; rfl
theorem order_free (ns : List Int) : g_order [planD (freeMn ns) (freeGs ns 60)] = .ok (intsOf (ordOf (freeMn ns) (freeGs ns 60))) := by
  have hlen := freeGs_len ns 60
  have hok := free_ok ns (most := 60) (by decide)
  rw [order_ev (planOk_tame hlen hok), planOk_err (mn := freeMn ns) (many_in _) hlen hok, (free_ord (by omega) (fun g hg s hs => ?_) (free_free ns (by decide))).2]
  · rfl
  · obtain ⟨k, hk, e⟩ := List.mem_iff_getElem.mp hg
    exact ((hok k g (by rw [← e]; exact List.getElem?_eq_getElem hk)).src s hs).2
theorem free_len (ns : List Int) : (ordOf (freeMn ns) (freeGs ns 60)).length = (freeGs ns 60).length := by
  have hlen := freeGs_len ns 60
  have hok := free_ok ns (most := 60) (by decide)
  refine (free_ord (by omega) (fun g hg s hs => ?_) (free_free ns (by decide))).1
  obtain ⟨k, hk, e⟩ := List.mem_iff_getElem.mp hg
  exact ((hok k g (by rw [← e]; exact List.getElem?_eq_getElem hk)).src s hs).2
theorem tameAll {mn : Int} {gs : List Gate} (h : planTame mn gs = true) : gs.length ≤ 1000 ∧ ∀ g ∈ gs, gateTame g = true := by
  unfold planTame at h
  rw [Bool.and_eq_true, List.all_eq_true] at h
  exact ⟨of_decide_eq_true h.1, h.2⟩
end SL
namespace SL
open PySem PySem.Spec PyProof.Rows L2
def g_answer : List D → R D
  | [.str z, .list xs] => match kindIx z, boolsD xs with
    | some i, some bs => R.when (arOk i bs.length) (.ok (.bool (ansB i bs)))
    | _, _ => .bad
  | _ => .bad
end SL
namespace L2
open PySem PySem.Spec PyProof.Rows
section
variable {X : Cx} {Y : Wy}
/-! ## list(range(a, b)) -/
theorem valsGet : ∀ {xs : List V} {us : List Value}, xs.length = us.length → (∀ (i : Nat) (x : V) (u : Value), xs[i]? = some x → us[i]? = some u → RelV x u) → Vals xs us
  | [], [], _, _ => .nil
  | [], _ :: _, h, _ => by cases h
  | _ :: _, [], h, _ => by cases h
  | x :: xs, u :: us, h, k => .cons (k 0 x u rfl rfl) (valsGet (Nat.succ.inj h) fun i y v e1 e2 => k (i + 1) y v e1 e2)
def upV (lo hi : Int) : List Int := (List.range (hi - lo).toNat).map fun (i : Nat) => lo + (i : Int)
def rListR : List V → Hp → VK → Prop := fun xs H Q => ∃ (a : Addr) (lo hi : Int), xs = [.ref a] ∧ H a = some (.rng lo hi) ∧ 0 ≤ lo ∧ lo ≤ hi ∧ hi ≤ 100000 ∧ ∀ l, H l = none → Q (.ref l) (upd H l (.lst ((upV lo hi).map V.int)))
theorem cr_listR (hc : X.calm = true) : CallR X (.type "list") rListR := by
  intro pins s σ H xs us Q I r h
  obtain ⟨a, lo, hi, rfl, ha, h0, h1, h2, q⟩ := h
  rw [Vals.ref1 r]
  obtain ⟨t, u, v, hr⟩ := I.hok a _ ha
  have sz : Builtin.Range.rangeSize lo hi 1 = (((hi - lo).toNat : Nat) : Int) := by
    unfold Builtin.Range.rangeSize
    rw [if_pos (by decide)]
    split
    · rw [Int.ediv_one]; omega
    · omega
  have sm : Builtin.Range.small lo hi 1 = true := by
    unfold Builtin.Range.small
    rw [sz]
    have f : ∀ z : Int, 0 ≤ z → z ≤ 100001 → Builtin.Range.rangeFitsLong z = true := fun z z0 z1 => by
      unfold Builtin.Range.rangeFitsLong
      simp only [Bool.and_eq_true, decide_eq_true_eq]
      constructor <;> omega
    rw [f lo (by omega) (by omega), f hi (by omega) (by omega), f 1 (by omega) (by omega), f _ (by omega) (by omega)]
    rw [if_pos (by decide), f (hi + (1 - 1)) (by omega) (by omega)]
    simp
  refine PySem.call_list_range (I.ok.hd hc) hr sm sz (by omega) fun h' tk acc c hk hS hacc => ?_
  have big : (100000 : Nat) < sizeLine := by decide
  have hv : Vals ((upV lo hi).map V.int) acc.toList := by
    refine valsGet (by
      have e := hacc.1
      have e2 : acc.toList.length = acc.size := Array.length_toList
      rw [e2, e, List.length_map]; unfold upV; rw [List.length_map, List.length_range]) fun i x y e1 e2 => ?_
    rw [Array.getElem?_toList] at e2
    obtain ⟨t, rfl⟩ := hacc.2 i y e2
    have hi2 : i < (hi - lo).toNat := by
      have := (Array.getElem?_eq_some_iff.mp e2).1
      rw [hacc.1] at this; exact this
    unfold upV at e1
    rw [List.map_map, List.getElem?_map, List.getElem?_range hi2] at e1
    cases e1
    exact ⟨t, by rw [Int.mul_one]⟩
  exact ⟨.ref _, upd H s.heap.objs.size (.lst ((upV lo hi).map V.int)), I.laid (t' := tk) hk (Nat.le_refl _) ⟨by rw [List.length_map]; unfold upV; rw [List.length_map, List.length_range]; omega, acc.toList, c, hv, hS⟩, rfl, q _ (I.hok.fresh (Nat.le_refl _))⟩
def gListR : List D → R (List D)
  | [.int a, .int b] => R.when (decide (0 ≤ a ∧ a ≤ b ∧ b ≤ 100000)) (.ok ((upV a b).map PyData.int))
  | _ => .bad
theorem dn_listR {a b : Expr} {ms : DS → R (List D)} {p1 p2 p3 p4 : Pos} (hc : X.calm = true) (gl : Gl X "list") (ml : X.mg "list" = none) (gr : Gl X "range") (mr : X.mg "range" = none) (ha : DA X Y [a, b] ms)
    (hs1 : starEach [a, b] X.env = (false, eval a X.env) :: starEach [b] X.env := by rfl) (hpl1 : (backTo p4 (starEach [b] X.env)).any (·.1) = false := by rfl)
    (hs2 : starEach [.Call (.Name "range" p3) [a, b] [] p4] X.env = (false, eval (.Call (.Name "range" p3) [a, b] [] p4) X.env) :: starEach [] X.env := by rfl) (hpl2 : (backTo p2 (starEach [] X.env)).any (·.1) = false := by rfl) :
    DN X Y (.Call (.Name "list" p1) [.Call (.Name "range" p3) [a, b] [] p4] [] p2) (mCallN gListR ms) := by
  obtain ⟨t, pa, q⟩ := ha
  refine ⟨_, pe_callTy (cr_listR hc) gl ml (by decide +kernel) (pa_cons (pe_callTy cr_range2 gr mr (by decide +kernel) pa (by decide) (by decide) hs1 hpl1) pa_nil hs2) (by decide) (by decide) hs2 hpl2, fun σ δ H A c s Q w => da_seqN (Y := Y) q c s w fun ds vs H1 t1 r1 w1 => ?_⟩
  unfold gListR at w1
  split at w1
  · rename_i i j
    obtain ⟨v, u, rfl, h1, h2⟩ := dpAll2 r1
    cases h1
    cases h2
    obtain ⟨hb, w1⟩ := WpL.when w1
    obtain ⟨b0, b1, b2⟩ := of_decide_eq_true hb
    refine ⟨i, j, rfl, fun p hp => ⟨p, i, j, rfl, upd_same, b0, b1, b2, fun l hl => ?_⟩⟩
    have ne : l ≠ p := fun e => by rw [e, upd_same] at hl; cases hl
    rw [upd_ne ne] at hl
    refine w1 l _ _ ((same_upd hp).trans (same_upd (by rw [upd_ne ne]; exact hl))) hl upd_same (dpAll_ints _)
  · exact w1.elim
end
end L2
namespace L2
open PySem PySem.Spec PyProof.Rows
theorem dss_give {X : Cx} {Y : Wy} {O : List Nat} {j : Nat} {b : List Stmt} {m : DS → R Out} (O' : List Nat) (l : LessBy O O' j) (h : DSs X Y O' b m) : DSs X Y O b (mGive j m) := by
  obtain ⟨t, p, q⟩ := h
  exact ⟨t, p, tsem_give q l⟩
end L2
namespace SL
open PySem PySem.Spec PyProof.Rows L2
/-! ## the gates that hang on a line -/
inductive Sees (mn : Int) (gs : List Gate) (x : Int) : Int → Prop
  | one {i : Nat} {g : Gate} (e : gs[i]? = some g) (h : x ∈ g.2.1) : Sees mn gs x (mn + (i : Int))
  | more {i : Nat} {g : Gate} {y : Int} (s : Sees mn gs x y) (e : gs[i]? = some g) (h : y ∈ g.2.1) : Sees mn gs x (mn + (i : Int))
theorem Sees.range {mn x y : Int} {gs : List Gate} (h : Sees mn gs x y) : mn ≤ y ∧ y < mn + gs.length := by
  cases h with
  | one e h => have := (List.getElem?_eq_some_iff.mp e).1; omega
  | more s e h => have := (List.getElem?_eq_some_iff.mp e).1; omega
noncomputable instance decSees {mn x y : Int} {gs : List Gate} : Decidable (Sees mn gs x y) := Classical.propDecidable _
noncomputable def seesB (mn : Int) (gs : List Gate) (x : Int) : List Bool := (List.range (mn + gs.length).toNat).map fun (l : Nat) => decide (Sees mn gs x (l : Int))
def trueAt : Nat → List Bool → List Int
  | _, [] => []
  | c, b :: r => if b = true then (c : Int) :: trueAt (c + 1) r else trueAt (c + 1) r
noncomputable def seersOf (mn : Int) (gs : List Gate) (x : Int) : List Int := trueAt 0 (seesB mn gs x)
/-- what is marked is seen, what is seen is marked -/
theorem seesB_of {mn x : Int} {gs : List Gate} {S : List Bool} (hl : S.length = (mn + gs.length).toNat) (h0 : 0 ≤ mn) (h1 : ∀ l : Nat, S.getD l false = true → Sees mn gs x (l : Int)) (h2 : ∀ y, Sees mn gs x y → S.getD y.toNat false = true) : S = seesB mn gs x := by
  refine List.ext_getElem? fun l => ?_
  unfold seesB
  rw [List.getElem?_map]
  rcases Nat.lt_or_ge l (mn + gs.length).toNat with q | q
  · rw [List.getElem?_range q, List.getElem?_eq_getElem (by omega)]
    refine congrArg some ?_
    have e : S.getD l false = S[l]'(by omega) := by rw [List.getD_eq_getElem?_getD, List.getElem?_eq_getElem (by omega)]; rfl
    rw [← e]
    cases b : S.getD l false with
    | true => exact (decide_eq_true (h1 l b)).symm
    | false =>
      refine (decide_eq_false fun s => ?_).symm
      have := h2 _ s
      rw [Int.toNat_natCast, b] at this
      cases this
  · rw [List.getElem?_eq_none (by omega), List.getElem?_eq_none (by rw [List.length_range]; omega)]; rfl
/-- marks that are closed are all -/
theorem closed_all {mn x : Int} {gs : List Gate} {S : List Bool} (h : ∀ y, (y = x ∨ (0 ≤ y ∧ S.getD y.toNat false = true)) → ∀ (i : Nat) (g : Gate), gs[i]? = some g → y ∈ g.2.1 → S.getD (mn + (i : Int)).toNat false = true) (h0 : 0 ≤ mn) : ∀ y, Sees mn gs x y → S.getD y.toNat false = true := fun y s => by
  induction s with
  | one e q => exact h x (.inl rfl) _ _ e q
  | more s e q ih => exact h _ (.inr ⟨by have := s.range; omega, ih⟩) _ _ e q
def remW : List Bool → List (List Int) → Nat
  | b :: bs, r :: rs => (if b = true then 0 else r.length) + remW bs rs
  | _, _ => 0
theorem remW_set : ∀ {S : List Bool} {rows : List (List Int)} {i : Nat}, S[i]? = some false → i < rows.length → remW (S.set i true) rows + (rows.getD i []).length = remW S rows
  | [], _, i, h, _ => by cases i <;> cases h
  | b :: S, [], i, _, h => absurd h (Nat.not_lt_zero _)
  | b :: S, r :: rows, 0, h, _ => by
    cases h
    show (if true = true then 0 else r.length) + remW S rows + r.length = (if false = true then 0 else r.length) + remW S rows
    rw [if_pos rfl, if_neg (by decide)]; omega
  | b :: S, r :: rows, i + 1, h, hl => by
    have ih := remW_set (S := S) (rows := rows) (i := i) h (Nat.lt_of_succ_lt_succ hl)
    show (if b = true then 0 else r.length) + remW (S.set i true) rows + (rows.getD i []).length = (if b = true then 0 else r.length) + remW S rows
    omega
theorem remW_le {B : Nat} : ∀ {S : List Bool} {rows : List (List Int)}, (∀ r ∈ rows, r.length ≤ B) → remW S rows ≤ rows.length * B
  | [], _, _ => Nat.zero_le _
  | b :: S, [], _ => Nat.zero_le _
  | b :: S, r :: rows, h => by
    have ih := remW_le (S := S) (rows := rows) fun q hq => h q (List.mem_cons_of_mem _ hq)
    have hr := h r List.mem_cons_self
    show (if b = true then 0 else r.length) + remW S rows ≤ _
    rw [List.length_cons, Nat.succ_mul]
    split <;> omega
theorem readers_iff {mn : Int} {gs : List Gate} (hok : rdOk mn gs = true) {y z : Int} (hy : 0 ≤ y ∧ y < mn + gs.length) : z ∈ (readersOf mn gs).getD y.toNat [] ↔ ∃ (i : Nat) (g : Gate), z = mn + (i : Int) ∧ gs[i]? = some g ∧ y ∈ g.2.1 := by
  constructor
  · intro h
    have r := readers_mem h
    have hi : (z - mn).toNat < gs.length := by omega
    have e := List.getElem?_eq_getElem hi
    have c := readers_count hok (i := y.toNat) (by omega) e
    rw [show mn + (((z - mn).toNat : Nat) : Int) = z by omega, Int.toNat_of_nonneg hy.1] at c
    have : 0 < ((readersOf mn gs).getD y.toNat []).count z := List.count_pos_iff.mpr h
    rw [c] at this
    exact ⟨(z - mn).toNat, _, by omega, e, List.count_pos_iff.mp this⟩
  · rintro ⟨i, g, rfl, e, h⟩
    have c := readers_count hok (i := y.toNat) (by omega) e
    rw [Int.toNat_of_nonneg hy.1] at c
    have : 0 < g.2.1.count y := List.count_pos_iff.mpr h
    rw [← c] at this
    exact List.count_pos_iff.mp this
theorem addAll_rows {mn : Int} {B : Nat} : ∀ {gs : List Gate} {k b : Nat} {rows : List (List Int)}, (∀ g ∈ gs, g.2.1.length ≤ B) → RowsLe b rows → RowsLe (b + gs.length * B) (addAll mn k gs rows)
  | [], k, b, rows, _, h => by simpa [addAll] using h
  | g :: gs, k, b, rows, hB, h => by
    rw [addAll]
    have h1 := RowsLe.addSrcs (l := mn + (k : Int)) (ss := g.2.1) h
    have h2 := addAll_rows (mn := mn) (gs := gs) (k := k + 1) (fun g hg => hB g (List.mem_cons_of_mem _ hg)) (h1.mono (show _ ≤ b + B from by have := hB g List.mem_cons_self; omega))
    refine h2.mono ?_
    rw [List.length_cons, Nat.succ_mul]; omega
theorem readers_rows {mn : Int} {gs : List Gate} {B : Nat} (h : ∀ g ∈ gs, g.2.1.length ≤ B) : RowsLe (gs.length * B) (readersOf mn gs) := by
  unfold readersOf
  have := addAll_rows (mn := mn) (k := 0) (b := 0) (rows := List.replicate (mn + gs.length).toNat []) h fun i => by rw [rep_get]; exact Nat.le_refl _
  rwa [Nat.zero_add] at this
theorem rows_le {b : Nat} {rows : List (List Int)} (h : RowsLe b rows) : ∀ r ∈ rows, r.length ≤ b := fun r hr => by
  obtain ⟨i, hi, e⟩ := List.mem_iff_getElem.mp hr
  have := h i
  rwa [List.getD_eq_getElem?_getD, List.getElem?_eq_getElem hi, e] at this
end SL
namespace SL
open PySem PySem.Spec PyProof.Rows L2
@[irreducible] def fuelS : Nat := 10000000
theorem fuelS_ge : 5000000 < fuelS := by unfold fuelS; decide
def seI : DS → R Out := (mIf (mNot (mB (mBin gIx (mVar 4) (mVar 6)))) (mSeq (mSetAt [4, 5] 4 (mC (.bool true)) (mVar 6)) (mExt [4, 5] 5 (mBin gIx (mVar 3) (mVar 6)))) mSkip)
def seT : DS → R Out := (mSeq (mPop 6 5) seI)
def se5 : DS → R Out := (mSeq (fun δ => whileM (fun δ => ((mVar 5) δ).bind truD) seT ((fun _ => fuelS) δ) δ) (mRetL (mCompE [7, 8] 7 8 (mVar 4) (mB (mVar 8)) (mVar 7))))
def se4 : DS → R Out := (mSeq (mOwn [4, 5] 5 (mCallN gList (mCons (mBin gIx (mVar 3) (mVar 1)) mNil))) se5)
def se3 : DS → R Out := (mSeq (mOwn [4, 5] 4 (mRep (mLst (mCons (mC (.bool false)) mNil)) (mVar 2))) se4)
def se2 : DS → R Out := (mSeq (mSet [4, 5] 3 (mL (mCallN g_readers (mCons (mVar 0) mNil)))) se3)
def se1 : DS → R Out := (mSeq (mDrop (mCall g_checkline (mCons (mVar 1) (mCons (mVar 2) mNil)))) se2)
def seM : DS → R Out := (mSeq (mSet [4, 5] 2 (mCall g_checked (mCons (mVar 0) mNil))) se1)
def boolsOf (bs : List Bool) : List D := bs.map PyData.bool
def seS (mn : Int) (gs : List Gate) (x : Int) (S : List Bool) (W : List Int) (r : Option D) : DS := [some (planD mn gs), some (.int x), some (.int (mn + (gs.length : Int))), some (.list (rowsD (readersOf mn gs))), some (.list (boolsOf S)), some (.list (intsOf W)), r, none, none]
theorem at_bools {S : List Bool} {k : Int} (h0 : 0 ≤ k) (h : k < S.length) : atI (boolsOf S) k = some (.bool (S.getD k.toNat false)) := by
  unfold atI boolsOf
  rw [ix_in h0 (by rw [List.length_map]; exact h)]
  show (S.map PyData.bool)[k.toNat]? = _
  rw [List.getElem?_map, List.getElem?_eq_getElem (by omega), List.getD_eq_getElem?_getD, List.getElem?_eq_getElem (by omega)]; rfl
section
variable {mn x : Int} {gs : List Gate}
structure SeInv (mn x : Int) (gs : List Gate) (S : List Bool) (W : List Int) : Prop where
  len : S.length = (mn + gs.length).toNat
  wait : ∀ z ∈ W, Sees mn gs x z
  mark : ∀ l : Nat, S.getD l false = true → Sees mn gs x (l : Int)
  next : ∀ y, (y = x ∨ (0 ≤ y ∧ S.getD y.toNat false = true)) → ∀ (i : Nat) (g : Gate), gs[i]? = some g → y ∈ g.2.1 → mn + (i : Int) ∈ W ∨ S.getD (mn + (i : Int)).toNat false = true
  few : W.length + remW S (readersOf mn gs) ≤ 5000000
theorem sePop {S : List Bool} {W : List Int} {y : Int} {r : Option D} : mPop 6 5 (seS mn gs x S (W ++ [y]) r) = .ok (.nx (seS mn gs x S W (some (.int y)))) := by
  show popK 6 5 (seS mn gs x S (W ++ [y]) r) (intsOf (W ++ [y])) = _
  have e : intsOf (W ++ [y]) = intsOf W ++ [.int y] := by unfold intsOf; rw [List.map_append]; rfl
  unfold popK
  rw [e, List.getLast?_concat, List.dropLast_concat]
  rfl
theorem seExt {S : List Bool} {W : List Int} {y : Int} (h0 : 0 ≤ y) (h : y < mn + gs.length) (hz : W.length + ((readersOf mn gs).getD y.toNat []).length ≤ 5000000) : mExt [4, 5] 5 (mBin gIx (mVar 3) (mVar 6)) (seS mn gs x S W (some (.int y))) = .ok (.nx (seS mn gs x S (W ++ (readersOf mn gs).getD y.toNat []) (some (.int y)))) := by
  show (((atK (atI (rowsD (readersOf mn gs)) y))).run _ fun d => extK 5 (seS mn gs x S W (some (.int y))) (intsOf W) d) = _
  rw [rows_at h0 (by rw [readers_len]; omega), g_atK, R.run_ok]
  have big : (5000000 : Nat) < sizeLine := by decide
  show R.when (szOk ((intsOf W).length + (intsOf ((readersOf mn gs).getD y.toNat [])).length)) _ = _
  rw [ints_len, ints_len, show szOk (W.length + ((readersOf mn gs).getD y.toNat []).length) = true from decide_eq_true (by omega), R.when_true]
  have e : intsOf W ++ intsOf ((readersOf mn gs).getD y.toNat []) = intsOf (W ++ (readersOf mn gs).getD y.toNat []) := by unfold intsOf; rw [List.map_append]
  rw [e]; rfl
theorem se_turn (hok : rdOk mn gs = true) (hx : 0 ≤ x ∧ x < mn + gs.length) {S : List Bool} {W : List Int} {y : Int} {r : Option D} (v : SeInv mn x gs S (W ++ [y])) :
    ∃ S' W' r', seT (seS mn gs x S (W ++ [y]) r) = .ok (.nx (seS mn gs x S' W' r')) ∧ SeInv mn x gs S' W' ∧ W'.length + remW S' (readersOf mn gs) + 1 = (W ++ [y]).length + remW S (readersOf mn gs) := by
  have hok2 := hok
  unfold rdOk at hok2
  rw [Bool.and_eq_true] at hok2
  obtain ⟨m0, m1⟩ := of_decide_eq_true hok2.1
  have sy := v.wait y (List.mem_append_right _ (List.mem_singleton.mpr rfl))
  have ry := sy.range
  have yl : y.toNat < S.length := by rw [v.len]; omega
  have few := v.few
  rw [List.length_append, List.length_singleton] at few
  unfold seT
  rw [cutR _ sePop rfl]
  have t : mNot (mB (mBin gIx (mVar 4) (mVar 6))) (seS mn gs x S W (some (.int y))) = .ok (!S.getD y.toNat false) := by
    show (((atK (atI (boolsOf S) y)).bind boolD).map (!·)) = _
    rw [at_bools (by omega) (by rw [v.len]; omega)]; rfl
  unfold seI
  rw [q_if, t, R.run_ok]
  cases b : S.getD y.toNat false with
  | true =>
    refine ⟨S, W, some (.int y), rfl, ⟨v.len, fun z hz => v.wait z (List.mem_append_left _ hz), v.mark, fun z hz i g e h => ?_, by omega⟩, by rw [List.length_append, List.length_singleton]; omega⟩
    rcases v.next z hz i g e h with q | q
    · rcases List.mem_append.mp q with q | q
      · exact .inl q
      · refine .inr ?_
        rw [List.mem_singleton.mp q]; exact b
    · exact .inr q
  | false =>
    have gy : S[y.toNat]? = some false := by
      rw [List.getD_eq_getElem?_getD, List.getElem?_eq_getElem yl] at b
      rw [List.getElem?_eq_getElem yl]; exact congrArg some b
    have rw1 := remW_set (rows := readersOf mn gs) gy (by rw [readers_len]; omega)
    have e1 : mSetAt [4, 5] 4 (mC (.bool true)) (mVar 6) (seS mn gs x S W (some (.int y))) = .ok (.nx (seS mn gs x (S.set y.toNat true) W (some (.int y)))) := by
      show putK' 4 (boolsOf S) _ (.bool true) (ixN (boolsOf S).length y) = _
      have l : (boolsOf S).length = S.length := List.length_map ..
      have es : (boolsOf S).set y.toNat (.bool true) = boolsOf (S.set y.toNat true) := by unfold boolsOf; rw [List.map_set]
      rw [l, ix_in (by omega) (by omega), q_putK, es]; rfl
    have get : ∀ l : Nat, (S.set y.toNat true).getD l false = true ↔ S.getD l false = true ∨ l = y.toNat := fun l => by
      rw [List.getD_eq_getElem?_getD, List.getD_eq_getElem?_getD]
      by_cases h : l = y.toNat
      · subst h
        rw [List.getElem?_set_self yl]
        exact ⟨fun _ => .inr rfl, fun _ => rfl⟩
      · rw [List.getElem?_set_ne (Ne.symm h)]
        exact ⟨.inl, fun q => q.elim id fun q => absurd q h⟩
    refine ⟨S.set y.toNat true, W ++ (readersOf mn gs).getD y.toNat [], some (.int y), ?_, ⟨by rw [List.length_set]; exact v.len, fun z hz => ?_, fun l hl => ?_, fun z hz i g e h => ?_, by rw [List.length_append]; omega⟩, by rw [List.length_append, List.length_append, List.length_singleton]; omega⟩
    · rw [show (!false) = true from rfl, if_pos rfl, cutR _ e1 rfl]
      exact seExt (by omega) ry.2 (by omega)
    · rcases List.mem_append.mp hz with q | q
      · exact v.wait z (List.mem_append_left _ q)
      · obtain ⟨i, g, rfl, e, h⟩ := (readers_iff hok ⟨by omega, ry.2⟩).mp q
        exact .more sy e h
    · rcases (get l).mp hl with q | q
      · exact v.mark l q
      · rw [q, Int.toNat_of_nonneg (by omega)]; exact sy
    · have old : ∀ z, (z = x ∨ (0 ≤ z ∧ S.getD z.toNat false = true)) → y ≠ z ∨ y = z → ∀ (i : Nat) (g : Gate), gs[i]? = some g → z ∈ g.2.1 → mn + (i : Int) ∈ W ++ (readersOf mn gs).getD y.toNat [] ∨ (S.set y.toNat true).getD (mn + (i : Int)).toNat false = true := fun z hz _ i g e h => by
        rcases v.next z hz i g e h with q | q
        · rcases List.mem_append.mp q with q | q
          · exact .inl (List.mem_append_left _ q)
          · refine .inr ((get _).mpr (.inr ?_))
            rw [List.mem_singleton.mp q]
        · exact .inr ((get _).mpr (.inl q))
      by_cases hzy : z = y
      · subst hzy
        exact .inl (List.mem_append_right _ ((readers_iff hok ⟨by omega, ry.2⟩).mpr ⟨i, g, rfl, e, h⟩))
      · refine old z ?_ (.inl (Ne.symm hzy)) i g e h
        rcases hz with q | ⟨q1, q2⟩
        · exact .inl q
        · rcases (get _).mp q2 with q | q
          · exact .inr ⟨q1, q⟩
          · exact absurd (by omega : z = y) hzy
theorem se_loop (hok : rdOk mn gs = true) (hx : 0 ≤ x ∧ x < mn + gs.length) : ∀ (n : Nat) (S : List Bool) (W : List Int) (r : Option D), SeInv mn x gs S W → W.length + remW S (readersOf mn gs) < n →
    ∃ r', whileM (fun δ => ((mVar 5) δ).bind truD) seT n (seS mn gs x S W r) = .ok (.nx (seS mn gs x (seesB mn gs x) [] r'))
  | 0, S, W, r, v, h => absurd h (Nat.not_lt_zero _)
  | n + 1, S, W, r, v, h => by
    have hok2 := hok
    unfold rdOk at hok2
    rw [Bool.and_eq_true] at hok2
    obtain ⟨m0, m1⟩ := of_decide_eq_true hok2.1
    have te : (mVar 5 (seS mn gs x S W r)).bind truD = .ok (!(intsOf W).isEmpty) := rfl
    unfold whileM
    rw [te, R.run_ok]
    rcases List.eq_nil_or_concat W with rfl | ⟨W', y, e⟩
    · refine ⟨r, ?_⟩
      have : S = seesB mn gs x := seesB_of v.len m0 v.mark (closed_all (fun y hy i g e h => (v.next y hy i g e h).resolve_left List.not_mem_nil) m0)
      rw [this]; rfl
    · rw [List.concat_eq_append] at e
      subst e
      obtain ⟨S', W2, r', k1, k2, k3⟩ := se_turn (r := r) hok hx v
      obtain ⟨r2, ih⟩ := se_loop hok hx n S' W2 r' k2 (by omega)
      refine ⟨r2, ?_⟩
      have ne : (intsOf (W' ++ [y])).isEmpty = false := by
        cases W' <;> rfl
      rw [ne, if_pos (by rfl), k1]
      exact ih
theorem compE_true {δ : DS} (hl : δ.length = 9) : ∀ (S : List Bool) (c : Nat), compE 7 8 (mB (mVar 8)) (mVar 7) δ (c : Int) (boolsOf S) = .ok (intsOf (trueAt c S))
  | [], _ => rfl
  | b :: S, c => by
    have ih := compE_true hl S (c + 1)
    have e8 : mVar 8 (set2 7 8 (c : Int) (.bool b) δ) = .ok (.bool b) := by
      rw [q_var]; unfold set2; rw [List.getElem?_set_self (by rw [List.length_set, hl]; decide)]; rfl
    have e7 : mVar 7 (set2 7 8 (c : Int) (.bool b) δ) = .ok (.int (c : Int)) := by
      rw [q_var]; unfold set2; rw [List.getElem?_set_ne (by decide), List.getElem?_set_self (by rw [hl]; decide)]; rfl
    show turnR _ _ (compE 7 8 (mB (mVar 8)) (mVar 7) δ ((c : Int) + 1) (boolsOf S)) (set2 7 8 (c : Int) (.bool b) δ) = _
    unfold turnR
    rw [q_B, e8, e7, show ((c : Int) + 1) = ((c + 1 : Nat) : Int) from rfl, ih, trueAt]
    cases b <;> rfl
end
noncomputable def g_seers : List D → R (List D)
  | [d, .int x] => match toPlan d with
    | some (mn, gs) => R.when (planTame mn gs) (errR (planErr mn gs) (errR (if x < 0 ∨ mn + gs.length ≤ x then some 2 else none) (.ok (intsOf (seersOf mn gs x)))))
    | none => .bad
  | _ => .bad
theorem seers_ev {mn x : Int} {gs : List Gate} (h : planTame mn gs = true) : g_seers [planD mn gs, .int x] = errR (planErr mn gs) (errR (if x < 0 ∨ mn + gs.length ≤ x then some 2 else none) (.ok (intsOf (seersOf mn gs x)))) := by
  show (match toPlan (planD mn gs) with
    | some (mn, gs) => R.when (planTame mn gs) (errR (planErr mn gs) (errR (if x < 0 ∨ mn + gs.length ≤ x then some 2 else none) (R.ok (intsOf (seersOf mn gs x)))))
    | none => R.bad) = _
  rw [toPlan_of]
  dsimp only
  rw [h]; rfl
theorem se_ok {mn x : Int} {gs : List Gate} (ht : planTame mn gs = true) : finL (seM [some (planD mn gs), some (.int x), none, none, none, none, none, none, none]) = errR (planErr mn gs) (errR (if x < 0 ∨ mn + gs.length ≤ x then some 2 else none) (.ok (intsOf (seersOf mn gs x)))) := by
  have hc := checked_ev ht
  have e0 : ∀ n : DS → R Out, mSeq (mSet [4, 5] 2 (mCall g_checked (mCons (mVar 0) mNil))) n [some (planD mn gs), some (.int x), none, none, none, none, none, none, none] = ((g_checked [planD mn gs]).run [some (planD mn gs), some (.int x), none, none, none, none, none, none, none] fun d => R.ok (Out.nx [some (planD mn gs), some (.int x), some d, none, none, none, none, none, none])).bind (seqK n) := fun n => rfl
  unfold seM
  rw [e0, hc]
  cases q : planErr mn gs with
  | some e => rfl
  | none =>
    have hok := ok_rd ht q
    have hok2 := hok
    unfold rdOk at hok2
    rw [Bool.and_eq_true] at hok2
    obtain ⟨m0, m1⟩ := of_decide_eq_true hok2.1
    obtain ⟨b1, b2, _⟩ := err_gates q
    show finL (se1 [some (planD mn gs), some (.int x), some (.int (mn + (gs.length : Int))), none, none, none, none, none, none]) = _
    unfold se1
    have e1 : ∀ n : DS → R Out, mSeq (mDrop (mCall g_checkline (mCons (mVar 1) (mCons (mVar 2) mNil)))) n [some (planD mn gs), some (.int x), some (.int (mn + (gs.length : Int))), none, none, none, none, none, none] = ((g_checkline [.int x, .int (mn + (gs.length : Int))]).run [some (planD mn gs), some (.int x), some (.int (mn + (gs.length : Int))), none, none, none, none, none, none] fun d => R.ok (Out.nx [some (planD mn gs), some (.int x), some (.int (mn + (gs.length : Int))), none, none, none, none, none, none])).bind (seqK n) := fun n => rfl
    have hcl : g_checkline [.int x, .int (mn + (gs.length : Int))] = if x < 0 ∨ mn + gs.length ≤ x then R.ex 2 else R.ok .none := by
      show (if x < 0 ∨ mn + (gs.length : Int) ≤ x then R.when (decide (0 ≤ mn + (gs.length : Int) ∧ mn + (gs.length : Int) ≤ 1000)) (R.ex 2) else R.ok PyData.none) = _
      rw [decide_eq_true (by omega), R.when_true]
    rw [e1, hcl]
    by_cases hx : x < 0 ∨ mn + (gs.length : Int) ≤ x
    · rw [if_pos hx, if_pos hx]; rfl
    · rw [if_neg hx, if_neg hx]
      have hx2 : 0 ≤ x ∧ x < mn + gs.length := by omega
      have htl := (tameAll ht).2
      have hrow := readers_rows (mn := mn) (gs := gs) (B := 20) fun g hg => by
        have := htl g hg
        unfold gateTame at this
        rw [Bool.and_eq_true] at this
        exact of_decide_eq_true this.2
      have hrow2 := hrow.mono (show _ ≤ 4000 by omega)
      show finL (se2 [some (planD mn gs), some (.int x), some (.int (mn + (gs.length : Int))), none, none, none, none, none, none]) = .ok (intsOf (seersOf mn gs x))
      unfold se2
      rw [cutR [some (planD mn gs), some (.int x), some (.int (mn + (gs.length : Int))), some (.list (rowsD (readersOf mn gs))), none, none, none, none, none] (by
        show ((((g_readers [planD mn gs])).map PyData.list).run _ fun d => _) = _
        rw [readers_eq hok]; rfl) rfl]
      unfold se3
      have big : (1000 : Nat) < sizeLine := by decide
      rw [cutR [some (planD mn gs), some (.int x), some (.int (mn + (gs.length : Int))), some (.list (rowsD (readersOf mn gs))), some (.list (boolsOf (List.replicate (mn + gs.length).toNat false))), none, none, none, none] (by
        have fl : ∀ n : Nat, (List.replicate n [(.bool false : D)]).flatten = boolsOf (List.replicate n false) := fun n => by
          induction n with
          | zero => rfl
          | succ n ih => rw [List.replicate_succ, List.flatten_cons, ih]; rfl
        have er : mRep (mLst (mCons (mC (.bool false)) mNil)) (mVar 2) [some (planD mn gs), some (.int x), some (.int (mn + (gs.length : Int))), some (.list (rowsD (readersOf mn gs))), none, none, none, none, none] = .ok (boolsOf (List.replicate (mn + gs.length).toNat false)) := by
          show R.when (repOk 1 (mn + (gs.length : Int))) (R.ok (List.replicate (mn + (gs.length : Int)).toNat [(.bool false : D)]).flatten) = _
          rw [show repOk 1 (mn + (gs.length : Int)) = true from decide_eq_true ⟨by omega, by omega, by omega⟩, R.when_true, fl]
        show ((mRep (mLst (mCons (mC (.bool false)) mNil)) (mVar 2) [some (planD mn gs), some (.int x), some (.int (mn + (gs.length : Int))), some (.list (rowsD (readersOf mn gs))), none, none, none, none, none]).run _ fun ds => _) = _
        rw [er]; rfl) rfl]
      unfold se4
      rw [cutR (seS mn gs x (List.replicate (mn + gs.length).toNat false) ((readersOf mn gs).getD x.toNat []) none) (by
        show ((((atK (atI (rowsD (readersOf mn gs)) x)).bind fun d => R.ok [d]).bind gList).run _ fun ds => _) = _
        rw [rows_at hx2.1 (by rw [readers_len]; omega)]; rfl) rfl]
      have gf : ∀ l : Nat, (List.replicate (mn + gs.length).toNat false).getD l false = false := fun l => by
        rw [List.getD_eq_getElem?_getD, List.getElem?_replicate]
        split <;> rfl
      have v : SeInv mn x gs (List.replicate (mn + gs.length).toNat false) ((readersOf mn gs).getD x.toNat []) := by
        refine ⟨List.length_replicate, fun z hz => ?_, fun l hl => (by rw [gf] at hl; cases hl), fun z hz i g e h => ?_, ?_⟩
        · obtain ⟨i, g, rfl, e, h⟩ := (readers_iff hok hx2).mp hz
          exact .one e h
        · rcases hz with rfl | ⟨_, q⟩
          · exact .inl ((readers_iff hok hx2).mpr ⟨i, g, rfl, e, h⟩)
          · rw [gf] at q; cases q
        · have h1 := hrow2 x.toNat
          have h2 := remW_le (B := 4000) (S := List.replicate (mn + gs.length).toNat false) (rows_le hrow2)
          rw [readers_len] at h2
          have h3 : (mn + (gs.length : Int)).toNat * 4000 ≤ 1000 * 4000 := Nat.mul_le_mul_right _ (by omega)
          omega
      obtain ⟨r', k⟩ := se_loop hok hx2 fuelS _ _ none v (by have := v.few; have := fuelS_ge; omega)
      unfold se5
      rw [cutR _ k rfl]
      have lt : ltOk (boolsOf (seesB mn gs x)).length = true := by
        refine decide_eq_true ?_
        unfold boolsOf seesB
        rw [List.length_map, List.length_map, List.length_range]; omega
      have ce := compE_true (δ := wipeD (seS mn gs x (seesB mn gs x) [] r') [7, 8]) rfl (seesB mn gs x) 0
      show finL ((R.when (ltOk (boolsOf (seesB mn gs x)).length) (compE 7 8 (mB (mVar 8)) (mVar 7) (wipeD (seS mn gs x (seesB mn gs x) [] r') [7, 8]) 0 (boolsOf (seesB mn gs x)))).run _ fun d => R.ok (Out.rl d)) = _
      rw [lt, R.when_true]
      rw [show ((0 : Nat) : Int) = 0 from rfl] at ce
      rw [ce]; rfl
end SL
namespace SL
open PySem PySem.Spec PyProof.Rows L2
theorem un65 {k : Nat} {A : Around} (r : Room k A) : A.units + 65 < cLine := by have := r.un; omega
/-! ## late times -/
def maxL : List Int → Int
  | [] => 0
  | n :: ns => ns.foldl max n
def srcsT (T : List Int) (g : Gate) : List Int := g.2.1.map fun s => T.getD s.toNat 0
def dueT (T : List Int) (g : Gate) : Int := if g.2.1 = [] then 0 else g.2.2 + maxL (srcsT T g)
def stepT (mn : Int) (gs : List Gate) (T : List Int) (x : Int) : List Int := match gs[(x - mn).toNat]? with
  | some g => if g.2.1 = [] then T else T.set x.toNat (dueT T g)
  | none => T
def timesOf (mn : Int) (gs : List Gate) (F : List Int) : List Int := F.foldl (stepT mn gs) (List.replicate (mn + gs.length).toNat 0)
def lateOf (mn : Int) (gs : List Gate) : List Int := timesOf mn gs (ordOf mn gs)
theorem stepT_len (mn : Int) (gs : List Gate) (T : List Int) (x : Int) : (stepT mn gs T x).length = T.length := by
  unfold stepT
  split
  · split
    · rfl
    · rw [List.length_set]
  · rfl
theorem timesOf_snoc {mn : Int} {gs : List Gate} {F : List Int} {x : Int} : timesOf mn gs (F ++ [x]) = stepT mn gs (timesOf mn gs F) x := by
  unfold timesOf; rw [List.foldl_append]; rfl
theorem timesOf_len {mn : Int} {gs : List Gate} (F : List Int) : (timesOf mn gs F).length = (mn + gs.length).toNat := by
  unfold timesOf
  generalize hT : List.replicate (mn + gs.length).toNat (0 : Int) = T
  have h0 : T.length = (mn + gs.length).toNat := by rw [← hT, List.length_replicate]
  clear hT
  induction F generalizing T with
  | nil => exact h0
  | cons x r ih => exact ih _ (by rw [stepT_len]; exact h0)
theorem srcsT_set {T : List Int} {g : Gate} {n : Nat} {v : Int} (h : ∀ s ∈ g.2.1, s.toNat ≠ n) : srcsT (T.set n v) g = srcsT T g := by
  unfold srcsT
  refine List.map_congr_left fun s hs => ?_
  rw [List.getD_eq_getElem?_getD, List.getElem?_set_ne (Ne.symm (h s hs)), List.getD_eq_getElem?_getD]
theorem dueT_set {T : List Int} {g : Gate} {n : Nat} {v : Int} (h : ∀ s ∈ g.2.1, s.toNat ≠ n) : dueT (T.set n v) g = dueT T g := by
  unfold dueT; rw [srcsT_set h]
/-- the times of what is found are due, all others are 0 -/
theorem times_due {mn : Int} {gs : List Gate} {F : List Int} (h0 : 0 ≤ mn) (hs : ∀ g ∈ gs, ∀ s ∈ g.2.1, 0 ≤ s) (hc : Chain mn gs F) : ∀ k : Nat, k ≤ F.length →
    (∀ (i : Nat) (g : Gate), gs[i]? = some g → mn + (i : Int) ∈ F.take k → (timesOf mn gs (F.take k)).getD (mn + (i : Int)).toNat 0 = dueT (timesOf mn gs (F.take k)) g) ∧
    (∀ l : Nat, (l : Int) ∉ F.take k → (timesOf mn gs (F.take k)).getD l 0 = 0)
  | 0, _ => by
    refine ⟨fun i g e hm => absurd hm List.not_mem_nil, fun l _ => ?_⟩
    show (List.replicate (mn + gs.length).toNat (0 : Int)).getD l 0 = 0
    rw [List.getD_eq_getElem?_getD, List.getElem?_replicate]
    split <;> rfl
  | k + 1, hk => by
    obtain ⟨ih1, ih2⟩ := times_due h0 hs hc k (by omega)
    obtain ⟨x, hx⟩ : ∃ x, F[k]? = some x := ⟨F[k], List.getElem?_eq_getElem (by omega)⟩
    obtain ⟨i0, g0, e1, e2, e3, e4⟩ := hc.turn hx
    have tk : F.take (k + 1) = F.take k ++ [x] := by rw [List.take_add_one, hx]; rfl
    have ln := timesOf_len (mn := mn) (gs := gs) (F.take k)
    have i0l : i0 < gs.length := (List.getElem?_eq_some_iff.mp e2).1
    -- sources of what is told, and of x, are not x
    have far : ∀ (i : Nat) (g : Gate), gs[i]? = some g → mn + (i : Int) ∈ F.take k → ∀ s ∈ g.2.1, s.toNat ≠ x.toNat := fun i g e hm s hsm q => by
      obtain ⟨j, hj, ej⟩ := List.mem_iff_getElem.mp hm
      rw [List.length_take] at hj
      have hj2 : F[j]? = some (mn + (i : Int)) := by rw [List.getElem_take] at ej; rw [List.getElem?_eq_getElem (by omega), ej]
      obtain ⟨i2, g2, z1, z2, z3, z4⟩ := hc.turn hj2
      have : i2 = i := by omega
      subst this
      rw [e] at z2
      cases z2
      have sp := hs g (List.mem_of_getElem? e) s hsm
      have hsm2 := z4 s hsm (by omega)
      refine e3 ?_
      have : s = x := by omega
      rw [← this]
      have : F.take j = (F.take k).take j := by rw [List.take_take, Nat.min_eq_left (by omega)]
      rw [this] at hsm2
      exact List.mem_of_mem_take hsm2
    have farx : ∀ s ∈ g0.2.1, s.toNat ≠ x.toNat := fun s hsm q => by
      have sp := hs g0 (List.mem_of_getElem? e2) s hsm
      have := e4 s hsm (by omega)
      exact e3 (by rwa [show x = s by omega])
    have st : timesOf mn gs (F.take (k + 1)) = if g0.2.1 = [] then timesOf mn gs (F.take k) else (timesOf mn gs (F.take k)).set x.toNat (dueT (timesOf mn gs (F.take k)) g0) := by
      rw [tk, timesOf_snoc]
      unfold stepT
      rw [show (x - mn).toNat = i0 by omega, e2]
    by_cases hz : g0.2.1 = []
    · rw [if_pos hz] at st
      rw [st, tk]
      refine ⟨fun i g e hm => ?_, fun l hl => ih2 l fun q => hl (List.mem_append_left _ q)⟩
      rcases List.mem_append.mp hm with q | q
      · exact ih1 i g e q
      · have q := List.mem_singleton.mp q
        have : i = i0 := by omega
        subst this
        rw [e] at e2
        cases e2
        unfold dueT
        rw [if_pos hz]
        exact ih2 _ fun w => e3 (by rwa [show x = ((mn + (i : Int)).toNat : Int) by omega])
    · rw [if_neg hz] at st
      rw [st, tk]
      have gx : ((timesOf mn gs (F.take k)).set x.toNat (dueT (timesOf mn gs (F.take k)) g0)).getD x.toNat 0 = dueT (timesOf mn gs (F.take k)) g0 := by
        rw [List.getD_eq_getElem?_getD, List.getElem?_set_self (by rw [ln]; omega)]; rfl
      have gn : ∀ l : Nat, l ≠ x.toNat → ((timesOf mn gs (F.take k)).set x.toNat (dueT (timesOf mn gs (F.take k)) g0)).getD l 0 = (timesOf mn gs (F.take k)).getD l 0 := fun l h => by
        rw [List.getD_eq_getElem?_getD, List.getElem?_set_ne (Ne.symm h), List.getD_eq_getElem?_getD]
      refine ⟨fun i g e hm => ?_, fun l hl => ?_⟩
      · rcases List.mem_append.mp hm with q | q
        · rw [dueT_set (far i g e q), gn _ (fun w => e3 (by rwa [show x = mn + (i : Int) by omega]))]
          exact ih1 i g e q
        · have q := List.mem_singleton.mp q
          have : i = i0 := by omega
          subst this
          rw [e] at e2
          cases e2
          rw [dueT_set farx, show (mn + (i : Int)).toNat = x.toNat by omega, gx]
      · rw [gn l (fun w => hl (List.mem_append_right _ (List.mem_singleton.mpr (by omega))))]
        exact ih2 l fun q => hl (List.mem_append_left _ q)
def g_late : List D → R (List D)
  | [d] => match toPlan d with
    | some (mn, gs) => R.when (planTame mn gs) (errR (planErr mn gs) (errR (ordErr mn gs) (.ok (intsOf (lateOf mn gs)))))
    | none => .bad
  | _ => .bad
def g_quiet : List D → R D
  | [d] => match toPlan d with
    | some (mn, gs) => R.when (planTame mn gs) (errR (planErr mn gs) (errR (ordErr mn gs) (.ok (.int (maxL (lateOf mn gs))))))
    | none => .bad
  | _ => .bad
theorem late_ev {mn : Int} {gs : List Gate} (h : planTame mn gs = true) : g_late [planD mn gs] = errR (planErr mn gs) (errR (ordErr mn gs) (.ok (intsOf (lateOf mn gs)))) := by
  show (match toPlan (planD mn gs) with
    | some (mn, gs) => R.when (planTame mn gs) (errR (planErr mn gs) (errR (ordErr mn gs) (R.ok (intsOf (lateOf mn gs)))))
    | none => R.bad) = _
  rw [toPlan_of]
  dsimp only
  rw [h]; rfl
theorem quiet_ev {mn : Int} {gs : List Gate} (h : planTame mn gs = true) : g_quiet [planD mn gs] = errR (planErr mn gs) (errR (ordErr mn gs) (.ok (.int (maxL (lateOf mn gs))))) := by
  show (match toPlan (planD mn gs) with
    | some (mn, gs) => R.when (planTame mn gs) (errR (planErr mn gs) (errR (ordErr mn gs) (R.ok (PyData.int (maxL (lateOf mn gs))))))
    | none => R.bad) = _
  rw [toPlan_of]
  dsimp only
  rw [h]; rfl
end SL
namespace SL
open PySem PySem.Spec PyProof.Rows L2
def ltE : DS → R D := (mBin gAdd (mVar 8) (mCall gMaxL (mCons (mL (mComp [9] 9 (mVar 7) mYes (mBin gIx (mVar 4) (mVar 9)))) mNil)))
def ltI : DS → R Out := (mIf (fun δ => ((mVar 7) δ).bind truD) (mSetAtI 4 ltE (mVar 5)) mSkip)
def ltB : DS → R Out := (mSeq (mAsg [4] (stTri 6 7 8) (mBin gIx (mVar 2) (mBin gSubI (mVar 5) (mVar 1)))) ltI)
def lt3 : DS → R Out := (mSeq (mFor [4] (mVar 3) (stName 5) ltB) (mRetO 4))
def lt2 : DS → R Out := (mSeq (mOwn [4] 4 (mRep (mLst (mCons (mC (.int 0)) mNil)) (mBin gAdd (mVar 1) (mCall gLen (mCons (mVar 2) mNil))))) lt3)
def lt1 : DS → R Out := (mSeq (mSet [4] 3 (mL (mCallN g_order (mCons (mVar 0) mNil)))) lt2)
def ltM : DS → R Out := (mSeq (mAsg [4] (stPair 1 2) (mVar 0)) lt1)
def ltS (mn : Int) (gs : List Gate) (F T : List Int) (l a b c : Option D) : DS := [some (planD mn gs), some (.int mn), some (.list (gatesD gs)), some (.list (intsOf F)), some (.list (intsOf T)), l, a, b, c, none]
theorem maxL_ev {xs : List Int} (h : xs ≠ []) : gMaxL [.list (intsOf xs)] = .ok (.int (maxL xs)) := by
  show (match intsD (intsOf xs) with
    | some (n :: ns) => R.ok (PyData.int (ns.foldl max n))
    | _ => R.bad) = _
  rw [ints_inv]
  cases xs with
  | nil => exact absurd rfl h
  | cons n ns => rfl
theorem at_gates {mn : Int} {gs : List Gate} {i : Nat} {g : Gate} (e : gs[i]? = some g) {k : Int} (hk : k = (i : Int)) : atI (gatesD gs) k = some (gateD g) := by
  have hi := (List.getElem?_eq_some_iff.mp e).1
  subst hk
  unfold atI
  rw [ix_in (by omega) (by rw [gates_map_len]; omega), Int.toNat_natCast]
  show (gatesD gs)[i]? = _
  unfold gatesD
  rw [List.getElem?_map, e]; rfl
/-- what is in a list at some numbers -/
theorem comp_at {δ : DS} {j : Nat} {me : DS → R D} {T : List Int} {ss : List Int} (h : ∀ s ∈ ss, me (δ.set j (some (.int s))) = atK (atI (intsOf T) s)) (hs : ∀ s ∈ ss, 0 ≤ s ∧ s < T.length) : compM j mYes me δ (intsOf ss) = .ok (intsOf (ss.map fun s => T.getD s.toNat 0)) := by
  rw [comp_map (f := fun d => match d with
    | .int s => .int (T.getD s.toNat 0)
    | d => d) fun x hx => ?_]
  · congr 1
    unfold intsOf
    rw [List.map_map, List.map_map]; rfl
  · unfold intsOf at hx
    obtain ⟨s, hsm, rfl⟩ := List.mem_map.mp hx
    rw [h s hsm, at_ints (hs s hsm).1 (hs s hsm).2]; rfl
section
variable {mn : Int} {gs : List Gate} {F T : List Int}
theorem lt_item {g : Gate} {l a : Option D} (hne : g.2.1 ≠ []) (hlen : g.2.1.length ≤ 1000) (hs : ∀ s ∈ g.2.1, 0 ≤ s ∧ s < T.length) : ltE (ltS mn gs F T l a (some (.tuple (intsOf g.2.1))) (some (.int g.2.2))) = .ok (.int (g.2.2 + maxL (srcsT T g))) := by
  have big : (1000 : Nat) < sizeLine := by decide
  have lt : ltOk (intsOf g.2.1).length = true := by rw [ints_len]; exact decide_eq_true (by omega)
  have e7 : mVar 7 (ltS mn gs F T l a (some (.tuple (intsOf g.2.1))) (some (.int g.2.2))) = .ok (.tuple (intsOf g.2.1)) := rfl
  have e8 : mVar 8 (ltS mn gs F T l a (some (.tuple (intsOf g.2.1))) (some (.int g.2.2))) = .ok (.int g.2.2) := rfl
  have ne2 : g.2.1.map (fun s => T.getD s.toNat 0) ≠ [] := fun q => hne (List.map_eq_nil_iff.mp q)
  unfold ltE
  rw [q_bin, e8, R.bind_ok, q_call, q_cons, q_mL, q_comp, e7, R.bind_ok, q_compT, lt, R.when_true, comp_at (T := T) (fun s hsm => rfl) hs, R.map_ok, R.bind_ok, q_nil, R.map_ok, R.bind_ok, maxL_ev ne2]
  rfl
theorem lt_body {x : Int} {i : Nat} {g : Gate} {a b c : Option D} (h0 : 0 ≤ mn) (e : gs[i]? = some g) (hx : x = mn + (i : Int)) (hT : T.length = (mn + gs.length).toNat) (hlen : g.2.1.length ≤ 1000) (hs : ∀ s ∈ g.2.1, 0 ≤ s ∧ s < T.length) :
    ltB (ltS mn gs F T (some (.int x)) a b c) = .ok (.nx (ltS mn gs F (stepT mn gs T x) (some (.int x)) (some (.str g.1)) (some (.tuple (intsOf g.2.1))) (some (.int g.2.2)))) := by
  have hi := (List.getElem?_eq_some_iff.mp e).1
  unfold ltB
  rw [cutR (ltS mn gs F T (some (.int x)) (some (.str g.1)) (some (.tuple (intsOf g.2.1))) (some (.int g.2.2))) (by
    show ((atK (atI (gatesD gs) (x - mn))).run _ fun d => _) = _
    rw [at_gates (mn := mn) e (by omega)]; rfl) rfl]
  have st : stepT mn gs T x = if g.2.1 = [] then T else T.set x.toNat (dueT T g) := by
    unfold stepT
    rw [show (x - mn).toNat = i by omega, e]
  have te : ∀ δ : DS, mVar 7 δ = .ok (.tuple (intsOf g.2.1)) → (mVar 7 δ).bind truD = .ok (!(intsOf g.2.1).isEmpty) := fun δ h => by
    rw [h]; rfl
  unfold ltI
  rw [q_if, te _ rfl, R.run_ok]
  by_cases hz : g.2.1 = []
  · rw [if_pos hz] at st
    rw [st, hz]; rfl
  · rw [if_neg hz] at st
    have ne : (intsOf g.2.1).isEmpty = false := by
      cases q : g.2.1 with
      | nil => exact absurd q hz
      | cons => rfl
    rw [ne, if_pos (by rfl), q_setAtI]
    show ((ltE (ltS mn gs F T (some (.int x)) (some (.str g.1)) (some (.tuple (intsOf g.2.1))) (some (.int g.2.2)))).run _ fun d => _) = _
    rw [lt_item hz hlen hs]
    show putK' 4 (intsOf T) _ (.int (g.2.2 + maxL (srcsT T g))) (ixN (intsOf T).length x) = _
    rw [ints_len, ix_in (by omega) (by omega), q_putK, ints_set, st]
    unfold dueT
    rw [if_neg hz]; rfl
theorem lt_loop (hok : rdOk mn gs = true) (hc : Chain mn gs F) : ∀ (n k : Nat) (l a b c : Option D), k + n = F.length → ∃ l' a' b' c', loopM (stName 5) ltB (intsOf (F.drop k)) (ltS mn gs F (timesOf mn gs (F.take k)) l a b c) = .ok (.nx (ltS mn gs F (timesOf mn gs F) l' a' b' c'))
  | 0, k, l, a, b, c, h => ⟨l, a, b, c, by rw [List.drop_eq_nil_of_le (by omega), List.take_of_length_le (by omega)]; rfl⟩
  | n + 1, k, l, a, b, c, h => by
    have hok2 := hok
    unfold rdOk at hok2
    rw [Bool.and_eq_true, List.all_eq_true] at hok2
    obtain ⟨m0, m1⟩ := of_decide_eq_true hok2.1
    obtain ⟨x, hx⟩ : ∃ x, F[k]? = some x := ⟨F[k], List.getElem?_eq_getElem (by omega)⟩
    obtain ⟨i, g, e1, e2, e3, e4⟩ := hc.turn hx
    have hgo := hok2.2 g (List.mem_of_getElem? e2)
    rw [Bool.and_eq_true, List.all_eq_true] at hgo
    have dr : F.drop k = x :: F.drop (k + 1) := take_next hx
    have tk : F.take (k + 1) = F.take k ++ [x] := by rw [List.take_add_one, hx]; rfl
    have ln := timesOf_len (mn := mn) (gs := gs) (F.take k)
    have body := lt_body (F := F) (T := timesOf mn gs (F.take k)) (a := a) (b := b) (c := c) m0 e2 e1 ln (of_decide_eq_true hgo.1) fun s hs => by
      have := of_decide_eq_true (hgo.2 s hs)
      rw [ln]; omega
    rw [← timesOf_snoc, ← tk] at body
    obtain ⟨l', a', b', c', ih⟩ := lt_loop hok hc n (k + 1) (some (.int x)) (some (.str g.1)) (some (.tuple (intsOf g.2.1))) (some (.int g.2.2)) (by omega)
    refine ⟨l', a', b', c', ?_⟩
    rw [dr]
    show loopM (stName 5) ltB (.int x :: intsOf (F.drop (k + 1))) _ = _
    rw [loop_nx (by rfl) body]
    exact ih
theorem rep_ints (n : Nat) : (List.replicate n [(.int 0 : D)]).flatten = intsOf (List.replicate n 0) := by
  induction n with
  | zero => rfl
  | succ n ih =>
    rw [List.replicate_succ, List.flatten_cons, ih]; rfl
theorem lt_ok (ht : planTame mn gs = true) : finL (ltM [some (planD mn gs), none, none, none, none, none, none, none, none, none]) = errR (planErr mn gs) (errR (ordErr mn gs) (.ok (intsOf (lateOf mn gs)))) := by
  unfold ltM
  rw [cutR [some (planD mn gs), some (.int mn), some (.list (gatesD gs)), none, none, none, none, none, none, none] (by rfl) rfl]
  unfold lt1
  have ho := order_ev ht
  have e0 : ∀ n : DS → R Out, mSeq (mSet [4] 3 (mL (mCallN g_order (mCons (mVar 0) mNil)))) n [some (planD mn gs), some (.int mn), some (.list (gatesD gs)), none, none, none, none, none, none, none] = (((g_order [planD mn gs]).map PyData.list).run [some (planD mn gs), some (.int mn), some (.list (gatesD gs)), none, none, none, none, none, none, none] fun d => R.ok (Out.nx [some (planD mn gs), some (.int mn), some (.list (gatesD gs)), some d, none, none, none, none, none, none])).bind (seqK n) := fun n => rfl
  rw [e0, ho]
  cases q : planErr mn gs with
  | some e => rfl
  | none =>
    cases q2 : ordErr mn gs with
    | some e => rfl
    | none =>
      have hok := ok_rd ht q
      have hok2 := hok
      unfold rdOk at hok2
      rw [Bool.and_eq_true, List.all_eq_true] at hok2
      obtain ⟨m0, m1⟩ := of_decide_eq_true hok2.1
      have big : (1000 : Nat) < sizeLine := by decide
      show finL (lt2 [some (planD mn gs), some (.int mn), some (.list (gatesD gs)), some (.list (intsOf (ordOf mn gs))), none, none, none, none, none, none]) = .ok (intsOf (lateOf mn gs))
      unfold lt2
      rw [cutR (ltS mn gs (ordOf mn gs) (timesOf mn gs []) none none none none) (by
        have rp : repOk 1 (mn + (gs.length : Int)) = true := decide_eq_true ⟨by omega, by omega, by omega⟩
        have er : mRep (mLst (mCons (mC (.int 0)) mNil)) (mBin gAdd (mVar 1) (mCall gLen (mCons (mVar 2) mNil))) [some (planD mn gs), some (.int mn), some (.list (gatesD gs)), some (.list (intsOf (ordOf mn gs))), none, none, none, none, none, none] = .ok (intsOf (timesOf mn gs [])) := by
          show R.when (repOk 1 (mn + (((gatesD gs).length : Nat) : Int))) (R.ok (List.replicate (mn + (((gatesD gs).length : Nat) : Int)).toNat [(.int 0 : D)]).flatten) = _
          rw [gates_map_len, rp, R.when_true, rep_ints]; rfl
        show ((mRep (mLst (mCons (mC (.int 0)) mNil)) (mBin gAdd (mVar 1) (mCall gLen (mCons (mVar 2) mNil))) [some (planD mn gs), some (.int mn), some (.list (gatesD gs)), some (.list (intsOf (ordOf mn gs))), none, none, none, none, none, none]).run _ fun ds => _) = _
        rw [er]; rfl) rfl]
      unfold lt3
      obtain ⟨l, a, b, c, h⟩ := lt_loop hok (ord_chain mn gs) (ordOf mn gs).length 0 none none none none (by omega)
      rw [List.drop_zero, List.take_zero] at h
      rw [cutR _ (by
        show loopM (stName 5) ltB (intsOf (ordOf mn gs)) _ = _
        exact h) rfl]
      rfl
theorem quiet_max (xs : List Int) : maxDK (.int 0) (.list (intsOf xs)) = .ok (.int (maxL xs)) := by
  show (match intsD (intsOf xs) with
    | some [] => R.ok (PyData.int 0)
    | some (n :: ns) => R.ok (PyData.int (ns.foldl max n))
    | none => R.bad) = _
  rw [ints_inv]
  cases xs <;> rfl
end
end SL
namespace SL
open PySem PySem.Spec PyProof.Rows L2
/-! ## gates answering anew -/
def srcsB (V : List Bool) (ss : List Int) : List Bool := ss.map fun s => V.getD s.toNat false
def ansG (V : List Bool) (g : Gate) : Bool := ansB ((kindIx g.1).getD 0) (srcsB V g.2.1)
def stepA (mn : Int) (gs : List Gate) (ns : List Int) (V : List Bool) (x : Int) : List Bool := if x ∈ ns then (match gs[(x - mn).toNat]? with
  | some g => V.set x.toNat (ansG V g)
  | none => V) else V
def againF (mn : Int) (gs : List Gate) (ns F : List Int) (V : List Bool) : List Bool := F.foldl (stepA mn gs ns) V
def againOf (mn : Int) (gs : List Gate) (V : List Bool) (ns : List Int) : List Bool := againF mn gs ns (ordOf mn gs) V
theorem stepA_len (mn : Int) (gs : List Gate) (ns : List Int) (V : List Bool) (x : Int) : (stepA mn gs ns V x).length = V.length := by
  unfold stepA
  split
  · split
    · rw [List.length_set]
    · rfl
  · rfl
theorem againF_snoc {mn : Int} {gs : List Gate} {ns F : List Int} {V : List Bool} {x : Int} : againF mn gs ns (F ++ [x]) V = stepA mn gs ns (againF mn gs ns F V) x := by
  unfold againF; rw [List.foldl_append]; rfl
theorem againF_len {mn : Int} {gs : List Gate} {ns : List Int} (F : List Int) (V : List Bool) : (againF mn gs ns F V).length = V.length := by
  unfold againF
  induction F generalizing V with
  | nil => rfl
  | cons x r ih => rw [List.foldl_cons, ih, stepA_len]
theorem srcsB_set {V : List Bool} {ss : List Int} {n : Nat} {v : Bool} (h : ∀ s ∈ ss, s.toNat ≠ n) : srcsB (V.set n v) ss = srcsB V ss := by
  unfold srcsB
  refine List.map_congr_left fun s hs => ?_
  rw [List.getD_eq_getElem?_getD, List.getElem?_set_ne (Ne.symm (h s hs)), List.getD_eq_getElem?_getD]
theorem ansG_set {V : List Bool} {g : Gate} {n : Nat} {v : Bool} (h : ∀ s ∈ g.2.1, s.toNat ≠ n) : ansG (V.set n v) g = ansG V g := by
  unfold ansG; rw [srcsB_set h]
/-- what is found and touched has its due value, all else is as it was -/
theorem again_due {mn : Int} {gs : List Gate} {ns F : List Int} {V : List Bool} (h0 : 0 ≤ mn) (hV : V.length = (mn + gs.length).toNat) (hs : ∀ g ∈ gs, ∀ s ∈ g.2.1, 0 ≤ s) (hc : Chain mn gs F) : ∀ k : Nat, k ≤ F.length →
    (∀ (i : Nat) (g : Gate), gs[i]? = some g → mn + (i : Int) ∈ F.take k → mn + (i : Int) ∈ ns → (againF mn gs ns (F.take k) V).getD (mn + (i : Int)).toNat false = ansG (againF mn gs ns (F.take k) V) g) ∧
    (∀ l : Nat, (l : Int) ∉ F.take k ∨ (l : Int) ∉ ns → (againF mn gs ns (F.take k) V).getD l false = V.getD l false)
  | 0, _ => ⟨fun i g e hm => absurd hm List.not_mem_nil, fun l _ => rfl⟩
  | k + 1, hk => by
    obtain ⟨ih1, ih2⟩ := again_due (ns := ns) h0 hV hs hc k (by omega)
    obtain ⟨x, hx⟩ : ∃ x, F[k]? = some x := ⟨F[k], List.getElem?_eq_getElem (by omega)⟩
    obtain ⟨i0, g0, e1, e2, e3, e4⟩ := hc.turn hx
    have tk : F.take (k + 1) = F.take k ++ [x] := by rw [List.take_add_one, hx]; rfl
    have ln := againF_len (mn := mn) (gs := gs) (ns := ns) (F.take k) V
    have i0l : i0 < gs.length := (List.getElem?_eq_some_iff.mp e2).1
    have far : ∀ (i : Nat) (g : Gate), gs[i]? = some g → mn + (i : Int) ∈ F.take k → ∀ s ∈ g.2.1, s.toNat ≠ x.toNat := fun i g e hm s hsm q => by
      obtain ⟨j, hj, ej⟩ := List.mem_iff_getElem.mp hm
      rw [List.length_take] at hj
      have hj2 : F[j]? = some (mn + (i : Int)) := by rw [List.getElem_take] at ej; rw [List.getElem?_eq_getElem (by omega), ej]
      obtain ⟨i2, g2, z1, z2, z3, z4⟩ := hc.turn hj2
      have : i2 = i := by omega
      subst this
      rw [e] at z2
      cases z2
      have sp := hs g (List.mem_of_getElem? e) s hsm
      have hsm2 := z4 s hsm (by omega)
      refine e3 ?_
      have : s = x := by omega
      rw [← this]
      have : F.take j = (F.take k).take j := by rw [List.take_take, Nat.min_eq_left (by omega)]
      rw [this] at hsm2
      exact List.mem_of_mem_take hsm2
    have farx : ∀ s ∈ g0.2.1, s.toNat ≠ x.toNat := fun s hsm q => by
      have sp := hs g0 (List.mem_of_getElem? e2) s hsm
      have := e4 s hsm (by omega)
      exact e3 (by rwa [show x = s by omega])
    have st : againF mn gs ns (F.take (k + 1)) V = if x ∈ ns then (againF mn gs ns (F.take k) V).set x.toNat (ansG (againF mn gs ns (F.take k) V) g0) else againF mn gs ns (F.take k) V := by
      rw [tk, againF_snoc]
      unfold stepA
      rw [show (x - mn).toNat = i0 by omega, e2]
    by_cases hz : x ∈ ns
    · rw [if_pos hz] at st
      rw [st, tk]
      have gx : ((againF mn gs ns (F.take k) V).set x.toNat (ansG (againF mn gs ns (F.take k) V) g0)).getD x.toNat false = ansG (againF mn gs ns (F.take k) V) g0 := by
        rw [List.getD_eq_getElem?_getD, List.getElem?_set_self (by rw [ln]; omega)]; rfl
      have gn : ∀ l : Nat, l ≠ x.toNat → ((againF mn gs ns (F.take k) V).set x.toNat (ansG (againF mn gs ns (F.take k) V) g0)).getD l false = (againF mn gs ns (F.take k) V).getD l false := fun l h => by
        rw [List.getD_eq_getElem?_getD, List.getElem?_set_ne (Ne.symm h), List.getD_eq_getElem?_getD]
      refine ⟨fun i g e hm hn => ?_, fun l hl => ?_⟩
      · rcases List.mem_append.mp hm with q | q
        · rw [ansG_set (far i g e q), gn _ (fun w => e3 (by rwa [show x = mn + (i : Int) by omega]))]
          exact ih1 i g e q hn
        · have q := List.mem_singleton.mp q
          have : i = i0 := by omega
          subst this
          rw [e] at e2
          cases e2
          rw [ansG_set farx, show (mn + (i : Int)).toNat = x.toNat by omega, gx]
      · rw [gn l (fun w => hl.elim (fun hl => hl (List.mem_append_right _ (List.mem_singleton.mpr (by omega)))) fun hl => hl (by rwa [show (l : Int) = x by omega]))]
        exact ih2 l (hl.imp (fun hl q => hl (List.mem_append_left _ q)) id)
    · rw [if_neg hz] at st
      rw [st, tk]
      refine ⟨fun i g e hm hn => ?_, fun l hl => ih2 l (hl.imp (fun hl q => hl (List.mem_append_left _ q)) id)⟩
      rcases List.mem_append.mp hm with q | q
      · exact ih1 i g e q hn
      · exact absurd (by rwa [← List.mem_singleton.mp q]) hz
def g_answeredP : List D → R (List D)
  | [d, .list bd, .list nd] => match toPlan d, boolsD bd, intsD nd with
    | some (mn, gs), some bs, some ns => R.when (planTame mn gs && (decide (bs.length = (mn + gs.length).toNat ∧ ns.length ≤ 4000))) (errR (planErr mn gs) (errR (ordErr mn gs) (.ok (boolsOf (againOf mn gs bs ns)))))
    | _, _, _ => .bad
  | _ => .bad
/-! ### the machine's way to it -/
def anE : DS → R D := (mCall g_answer (mCons (mVar 8) (mCons (mL (mComp [11] 11 (mVar 9) mYes (mBin gIx (mVar 5) (mVar 11)))) mNil)))
def anB : DS → R Out := (mSeq (mAsg [5] (stTri 8 9 10) (mBin gIx (mVar 4) (mBin gSubI (mVar 7) (mVar 3)))) (mSetAtI 5 anE (mVar 7)))
def an3 : DS → R Out := (mSetFor [5] 6 2 7 (mL (mCallN g_order (mCons (mVar 0) mNil))) anB (mRetO 5))
def an2 : DS → R Out := (mSeq (mOwn [5] 5 (mCallN gList (mCons (mVar 1) mNil))) an3)
def anM : DS → R Out := (mSeq (mAsg [5] (stPair 3 4) (mVar 0)) an2)
def anS (mn : Int) (gs : List Gate) (bs : List Bool) (ns : List Int) (V : List Bool) (l a b c : Option D) : DS := [some (planD mn gs), some (.list (boolsOf bs)), some (.list (intsOf ns)), some (.int mn), some (.list (gatesD gs)), some (.list (boolsOf V)), none, l, a, b, c, none]
theorem bools_len (A : List Bool) : (boolsOf A).length = A.length := List.length_map ..
theorem bools_set (A : List Bool) (n : Nat) (a : Bool) : (boolsOf A).set n (.bool a) = boolsOf (A.set n a) := by
  unfold boolsOf
  rw [List.map_set]
theorem comp_atB {δ : DS} {j : Nat} {me : DS → R D} {T : List Bool} {ss : List Int} (h : ∀ s ∈ ss, me (δ.set j (some (.int s))) = atK (atI (boolsOf T) s)) (hs : ∀ s ∈ ss, 0 ≤ s ∧ s < T.length) : compM j mYes me δ (intsOf ss) = .ok (boolsOf (srcsB T ss)) := by
  rw [comp_map (f := fun d => match d with
    | .int s => .bool (T.getD s.toNat false)
    | d => d) fun x hx => ?_]
  · congr 1
    unfold intsOf boolsOf srcsB
    rw [List.map_map, List.map_map]; rfl
  · unfold intsOf at hx
    obtain ⟨s, hsm, rfl⟩ := List.mem_map.mp hx
    rw [h s hsm, at_bools (hs s hsm).1 (hs s hsm).2]; rfl
theorem answer_ev {z : Str} {i : Nat} {bs : List Bool} (e : kindIx z = some i) (h : arOk i bs.length = true) : g_answer [.str z, .list (boolsOf bs)] = .ok (.bool (ansB i bs)) := by
  unfold g_answer boolsOf
  dsimp only
  rw [e, bools_of]
  dsimp only
  rw [h]; rfl
theorem gate_kind {lines : Int} {g : Gate} (h : gateErr lines g = none) : ∃ i, kindIx g.1 = some i ∧ arOk i g.2.1.length = true := by
  unfold gateErr at h
  split at h
  · cases h
  · rename_i i e
    split at h
    · cases h
    · rename_i q
      exact ⟨i, e, by rwa [Bool.not_eq_false] at q⟩
section
variable {mn : Int} {gs : List Gate} {bs V : List Bool} {ns : List Int}
theorem an_body {x : Int} {i : Nat} {g : Gate} {a b c : Option D} (h0 : 0 ≤ mn) (e : gs[i]? = some g) (hx : x = mn + (i : Int)) (hT : V.length = (mn + gs.length).toNat) (hlen : g.2.1.length ≤ 1000) (hg : gateErr (mn + gs.length) g = none) :
    anB (anS mn gs bs ns V (some (.int x)) a b c) = .ok (.nx (anS mn gs bs ns (V.set x.toNat (ansG V g)) (some (.int x)) (some (.str g.1)) (some (.tuple (intsOf g.2.1))) (some (.int g.2.2)))) := by
  have hi := (List.getElem?_eq_some_iff.mp e).1
  have big : (1000 : Nat) < sizeLine := by decide
  obtain ⟨ki, k1, k2⟩ := gate_kind hg
  have hs : ∀ s ∈ g.2.1, 0 ≤ s ∧ s < V.length := fun s hs => by
    have := err_src hg s hs
    rw [hT]; omega
  unfold anB
  rw [cutR (anS mn gs bs ns V (some (.int x)) (some (.str g.1)) (some (.tuple (intsOf g.2.1))) (some (.int g.2.2))) (by
    show ((atK (atI (gatesD gs) (x - mn))).run _ fun d => _) = _
    rw [at_gates (mn := mn) e (by omega)]; rfl) rfl]
  have ea : anE (anS mn gs bs ns V (some (.int x)) (some (.str g.1)) (some (.tuple (intsOf g.2.1))) (some (.int g.2.2))) = .ok (.bool (ansG V g)) := by
    have lt : ltOk (intsOf g.2.1).length = true := by rw [ints_len]; exact decide_eq_true (by omega)
    have e9 : mVar 9 (anS mn gs bs ns V (some (.int x)) (some (.str g.1)) (some (.tuple (intsOf g.2.1))) (some (.int g.2.2))) = .ok (.tuple (intsOf g.2.1)) := rfl
    have e8 : mVar 8 (anS mn gs bs ns V (some (.int x)) (some (.str g.1)) (some (.tuple (intsOf g.2.1))) (some (.int g.2.2))) = .ok (.str g.1) := rfl
    unfold anE
    rw [q_call, q_cons, e8, R.bind_ok, q_cons, q_mL, q_comp, e9, R.bind_ok, q_compT, lt, R.when_true, comp_atB (T := V) (fun s hsm => rfl) hs, R.map_ok, R.bind_ok, q_nil, R.map_ok, R.map_ok, R.bind_ok, answer_ev k1 (by unfold srcsB; rw [List.length_map]; exact k2)]
    unfold ansG
    rw [k1]; rfl
  rw [q_setAtI]
  show ((anE (anS mn gs bs ns V (some (.int x)) (some (.str g.1)) (some (.tuple (intsOf g.2.1))) (some (.int g.2.2)))).run _ fun d => _) = _
  rw [ea]
  show putK' 5 (boolsOf V) _ (.bool (ansG V g)) (ixN (boolsOf V).length x) = _
  rw [bools_len, ix_in (by omega) (by omega), q_putK, bools_set]; rfl
theorem an_loop {F : List Int} (ht : planTame mn gs = true) (he : planErr mn gs = none) (hV : V.length = (mn + gs.length).toNat) (hc : Chain mn gs F) : ∀ (n k : Nat) (l a b c : Option D), k + n = F.length → ∃ l' a' b' c', loopM (stName 7) (inM ns 7 anB) (intsOf (F.drop k)) (anS mn gs bs ns (againF mn gs ns (F.take k) V) l a b c) = .ok (.nx (anS mn gs bs ns (againF mn gs ns F V) l' a' b' c'))
  | 0, k, l, a, b, c, h => ⟨l, a, b, c, by rw [List.drop_eq_nil_of_le (by omega), List.take_of_length_le (by omega)]; rfl⟩
  | n + 1, k, l, a, b, c, h => by
    obtain ⟨m0, m1, m2⟩ := err_gates he
    obtain ⟨x, hx⟩ : ∃ x, F[k]? = some x := ⟨F[k], List.getElem?_eq_getElem (by omega)⟩
    obtain ⟨i, g, e1, e2, e3, e4⟩ := hc.turn hx
    have hg := List.mem_of_getElem? e2
    have hlen : g.2.1.length ≤ 1000 := by
      unfold planTame at ht
      rw [Bool.and_eq_true, List.all_eq_true] at ht
      have := ht.2 g hg
      unfold gateTame at this
      rw [Bool.and_eq_true] at this
      have := of_decide_eq_true this.2
      omega
    have dr : F.drop k = x :: F.drop (k + 1) := take_next hx
    have tk : F.take (k + 1) = F.take k ++ [x] := by rw [List.take_add_one, hx]; rfl
    have ln := againF_len (mn := mn) (gs := gs) (ns := ns) (F.take k) V
    have st : againF mn gs ns (F.take (k + 1)) V = if x ∈ ns then (againF mn gs ns (F.take k) V).set x.toNat (ansG (againF mn gs ns (F.take k) V) g) else againF mn gs ns (F.take k) V := by
      rw [tk, againF_snoc]
      unfold stepA
      rw [show (x - mn).toNat = i by omega, e2]
    by_cases hz : x ∈ ns
    · have body := an_body (bs := bs) (ns := ns) (V := againF mn gs ns (F.take k) V) (a := a) (b := b) (c := c) m0.1 e2 e1 (by rw [ln, hV]) hlen (m2 g hg)
      rw [if_pos hz] at st
      rw [← st] at body
      obtain ⟨l', a', b', c', ih⟩ := an_loop ht he hV hc n (k + 1) (some (.int x)) (some (.str g.1)) (some (.tuple (intsOf g.2.1))) (some (.int g.2.2)) (by omega)
      refine ⟨l', a', b', c', ?_⟩
      rw [dr]
      show loopM (stName 7) (inM ns 7 anB) (.int x :: intsOf (F.drop (k + 1))) _ = _
      rw [loop_nx (δ1 := anS mn gs bs ns (againF mn gs ns (F.take k) V) (some (.int x)) a b c) (by rfl) (by
        show (if x ∈ ns then nxOnly (anB (anS mn gs bs ns (againF mn gs ns (F.take k) V) (some (.int x)) a b c)) else _) = _
        rw [if_pos hz, body]; rfl)]
      exact ih
    · rw [if_neg hz] at st
      obtain ⟨l', a', b', c', ih⟩ := an_loop ht he hV hc n (k + 1) (some (.int x)) a b c (by omega)
      refine ⟨l', a', b', c', ?_⟩
      rw [dr]
      show loopM (stName 7) (inM ns 7 anB) (.int x :: intsOf (F.drop (k + 1))) _ = _
      rw [loop_nx (δ1 := anS mn gs bs ns (againF mn gs ns (F.take k) V) (some (.int x)) a b c) (by rfl) (by
        show (if x ∈ ns then nxOnly (anB (anS mn gs bs ns (againF mn gs ns (F.take k) V) (some (.int x)) a b c)) else R.ok (Out.nx (anS mn gs bs ns (againF mn gs ns (F.take k) V) (some (.int x)) a b c))) = _
        rw [if_neg hz])]
      rw [← st]
      exact ih
theorem an_ok (ht : planTame mn gs = true) (hV : bs.length = (mn + gs.length).toNat) (hn : ns.length ≤ 4000) : finL (anM [some (planD mn gs), some (.list (boolsOf bs)), some (.list (intsOf ns)), none, none, none, none, none, none, none, none, none]) = errR (planErr mn gs) (errR (ordErr mn gs) (.ok (boolsOf (againOf mn gs bs ns)))) := by
  unfold anM
  rw [cutR [some (planD mn gs), some (.list (boolsOf bs)), some (.list (intsOf ns)), some (.int mn), some (.list (gatesD gs)), none, none, none, none, none, none, none] (by rfl) rfl]
  unfold an2
  rw [cutR (anS mn gs bs ns bs none none none none) (by rfl) rfl]
  unfold an3
  have ho := order_ev ht
  have e0 : mSetFor [5] 6 2 7 (mL (mCallN g_order (mCons (mVar 0) mNil))) anB (mRetO 5) (anS mn gs bs ns bs none none none none) =
      (R.when (decide (ns.length ≤ 4000) && true) (mSeq (mForL [5] (mL (mCallN g_order (mCons (mVar 0) mNil))) (stName 7) (inM ns 7 anB)) (mRetO 5) (anS mn gs bs ns bs none none none none))) := by
    unfold mSetFor
    rw [show (anS mn gs bs ns bs none none none none)[2]? = some (some (.list (intsOf ns))) from rfl]
    dsimp only
    rw [ints_inv]
    rfl
  rw [e0, decide_eq_true hn]
  show finL (mSeq (mForL [5] (mL (mCallN g_order (mCons (mVar 0) mNil))) (stName 7) (inM ns 7 anB)) (mRetO 5) (anS mn gs bs ns bs none none none none)) = _
  have e1 : mForL [5] (mL (mCallN g_order (mCons (mVar 0) mNil))) (stName 7) (inM ns 7 anB) (anS mn gs bs ns bs none none none none) = (((g_order [planD mn gs]).map PyData.list).run (anS mn gs bs ns bs none none none none) fun d => match d with
      | .list ds => loopM (stName 7) (inM ns 7 anB) ds (anS mn gs bs ns bs none none none none)
      | _ => .bad) := rfl
  unfold mSeq
  rw [e1, ho]
  cases q : planErr mn gs with
  | some e => rfl
  | none =>
    cases q2 : ordErr mn gs with
    | some e => rfl
    | none =>
      obtain ⟨l, a, b, c, h⟩ := an_loop (bs := bs) (ns := ns) ht q hV (ord_chain mn gs) (ordOf mn gs).length 0 none none none none (by omega)
      rw [List.drop_zero, List.take_zero] at h
      have h2 : loopM (stName 7) (inM ns 7 anB) (intsOf (ordOf mn gs)) (anS mn gs bs ns bs none none none none) = .ok (.nx (anS mn gs bs ns (againF mn gs ns (ordOf mn gs) bs) l a b c)) := h
      show finL ((loopM (stName 7) (inM ns 7 anB) (intsOf (ordOf mn gs)) (anS mn gs bs ns bs none none none none)).bind _) = _
      rw [h2]; rfl
end
theorem answered_ev {mn : Int} {gs : List Gate} {bs : List Bool} {ns : List Int} (ht : planTame mn gs = true) (hV : bs.length = (mn + gs.length).toNat) (hn : ns.length ≤ 4000) : g_answeredP [planD mn gs, .list (boolsOf bs), .list (intsOf ns)] = errR (planErr mn gs) (errR (ordErr mn gs) (.ok (boolsOf (againOf mn gs bs ns)))) := by
  show (match toPlan (planD mn gs), boolsD (boolsOf bs), intsD (intsOf ns) with
    | some (mn, gs), some bs, some ns => R.when (planTame mn gs && (decide (bs.length = (mn + gs.length).toNat ∧ ns.length ≤ 4000))) (errR (planErr mn gs) (errR (ordErr mn gs) (R.ok (boolsOf (againOf mn gs bs ns)))))
    | _, _, _ => R.bad) = _
  rw [toPlan_of, ints_inv, show boolsD (boolsOf bs) = some bs from bools_of ..]
  dsimp only
  rw [ht, decide_eq_true ⟨hV, hn⟩]; rfl
end SL
namespace L2
open PySem PySem.Spec PyProof.Rows
theorem SS.wipe1 {K : PySem.W.Frag} {A0 : Addr → Prop} {T : List Tm} {H0 H : Hp} {σ : St} {δ : DS} {i : Nat} (s : SS K A0 [] T H0 σ δ H) : SS K A0 [] T H0 (σ.set i none) (δ.set i none) H := by
  obtain ⟨w, h1, h2, h3, h4⟩ := s.ex
  have e : ∀ {δ : DS}, (fun a => A0 a ∨ ∃ j ∈ ([] : List Nat), (∃ d, δ[j]? = some (some d)) ∧ a = w j) = A0 := fun {δ} => by
    funext a
    exact propext ⟨fun q => q.elim id fun ⟨j, jo, _⟩ => absurd jo List.not_mem_nil, .inl⟩
  refine ⟨⟨w, fun k x ko q => ?_, fun k x ko q => absurd ko List.not_mem_nil, fun k j ko => absurd ko List.not_mem_nil, fun p hp => ?_⟩, by rw [List.length_set, List.length_set]; exact s.len, s.same, s.cov⟩
  · rw [e]
    by_cases hk : i = k
    · subst hk
      by_cases hl : i < δ.length
      · rw [List.getElem?_set_self hl] at q; cases q
      · rw [List.getElem?_eq_none (by simpa using hl)] at q; cases q
    · rw [List.getElem?_set_ne hk] at q ⊢
      have z := h1 k x ko q
      rw [e] at z
      exact z
  · rw [e]
    have z := h4 p hp
    rw [e] at z
    exact z
theorem SS.putI {K : PySem.W.Frag} {A0 : Addr → Prop} {T : List Tm} {H0 H : Hp} {σ : St} {δ : DS} {j : Nat} {z : Int} (s : SS K A0 [] T H0 σ δ H) (hj : j < δ.length) : SS K A0 [] T H0 (σ.set j (some (.int z))) (δ.set j (some (.int z))) H := by
  obtain ⟨w, h1, h2, h3, h4⟩ := s.ex
  have e : ∀ {δ : DS}, (fun a => A0 a ∨ ∃ j ∈ ([] : List Nat), (∃ d, δ[j]? = some (some d)) ∧ a = w j) = A0 := fun {δ} => by
    funext a
    exact propext ⟨fun q => q.elim id fun ⟨j, jo, _⟩ => absurd jo List.not_mem_nil, .inl⟩
  refine ⟨⟨w, fun k x ko q => ?_, fun k x ko q => absurd ko List.not_mem_nil, fun k j ko => absurd ko List.not_mem_nil, fun p hp => ?_⟩, by rw [List.length_set, List.length_set]; exact s.len, s.same, s.cov⟩
  · rw [e]
    by_cases hk : j = k
    · subst hk
      rw [List.getElem?_set_self hj] at q
      cases q
      exact ⟨.int z, List.getElem?_set_self (by rw [s.len]; exact hj), .int z⟩
    · rw [List.getElem?_set_ne hk] at q ⊢
      have z := h1 k x ko q
      rw [e] at z
      exact z
  · rw [e]
    have z := h4 p hp
    rw [e] at z
    exact z
section
variable {X : Cx} {Y : Wy}
/-! ## try: .. except X as n: t = t + int(isinstance(n, ValueError)) -/
def tryAddK (i j : Nat) (p : Nat → Option Bool) : R Out → R Out := fun r => match r with
  | .ok (.ex k δ') => match p k with
    | some true => match δ'[j]? with
      | some (some (.int v)) => R.when (inB i δ' && decide (i ≠ j)) (.ok (.nx ((δ'.set j (some (.int (v + 1)))).set i none)))
      | _ => .bad
    | some false => .ok (.ex k δ')
    | none => .bad
  | r => r
def mTryAdd (i j : Nat) (m : DS → R Out) (p : Nat → Option Bool) : DS → R Out := fun δ => tryAddK i j p (m δ)
theorem ds_tryAdd {i j : Nat} {x n t : Str} {c : Value} {p : Nat → Option Bool} {body : List Stmt} {m : DS → R Out} {np p1 p2 p3 p4 q1 q2 q3 q4 q5 q6 pos pos' : Pos} (h1 : X.stack = X.env :: X.outer) (hf : X.env.frame = some X.env.locals) (tk : Takes X Y.wx) (hN : X.N.Nodup) (hi : X.N[i]? = some n) (hln : X.env.kindOf n = some .local) (hv : Vis X.env.scope n)
    (hj : X.N[j]? = some t) (hlt : Loc X.env.scope t) (hvt : Vis X.env.scope t)
    (hc : Names X x c) (hp : ∀ k b, p k = some b → PySem.W.exmOne X.K (Y.cv k) c = some b) (hE : ∀ k, p k = some true → IsErr X.K (Y.cv k))
    (hb : ∀ (W : WX) (pn : List (Addr × Obj)) (xe : Value → Shared → Prop), Takes (X.tr pn xe) W → PassesOwn (model X.prog X.w) X.A X.env xe → DSs (X.tr pn xe) (inTry Y W) [] body m)
    (mi : X.mg "isinstance" = none) (mv : X.mg "ValueError" = none) (mt : X.mg "int" = none) (gi : Gl X "isinstance" := by rfl) (gv : Gl X "ValueError" := by rfl) (gt : Gl X "int" := by rfl) (hd : (n == ("__debug__" : Str)) = false := by decide) (hcd : (n == ("__classdict__" : Str)) = false := by decide) (hdt : (t == ("__debug__" : Str)) = false := by decide) (hcdt : (t == ("__classdict__" : Str)) = false := by decide)
    (he : starEach [.Name n p2, .Name "ValueError" p3] X.env = [(false, eval (.Name n p2) X.env), (false, eval (.Name "ValueError" p3) X.env)] := by rfl) (he2 : starEach [.Name "ValueError" p3] X.env = [(false, eval (.Name "ValueError" p3) X.env)] := by rfl) (hpl : (backTo p4 (starEach [.Name "ValueError" p3] X.env)).any (·.1) = false := by rfl)
    (hei : starEach [.Call (.Name "isinstance" p1) [.Name n p2, .Name "ValueError" p3] [] p4] X.env = (false, eval (.Call (.Name "isinstance" p1) [.Name n p2, .Name "ValueError" p3] [] p4) X.env) :: starEach [] X.env := by rfl) (hpi : (backTo q4 (starEach [] X.env)).any (·.1) = false := by rfl)
    (hsw : swapsWith (.BinOp (.Name t q2) .Add (.Call (.Name "int" q3) [.Call (.Name "isinstance" p1) [.Name n p2, .Name "ValueError" p3] [] p4] [] q4) q5) (some (.Name t q1)) q6.line X.env = pure false := by rfl) (hfn : X.fn t = true ∨ X.env.scope.names.lookup t = some .local := by first | exact .inl rfl | exact .inr rfl | assumption) :
    DSt X Y [] (.Try body [.ExceptHandler (some (.Name x np)) (some n) [.Assign [.Name t q1] (.BinOp (.Name t q2) .Add (.Call (.Name "int" q3) [.Call (.Name "isinstance" p1) [.Name n p2, .Name "ValueError" p3] [] p4] [] q4) q5) q6] pos'] [] [] pos) (mTryAdd i j m p) := by
  refine ⟨_, ps_try_as (i := i) (tb := fun W => canS X.K (inTry Y W) [] m) (ts := fun a cls d => fun Dn σ H => σ[i]? = some (some (.ref a)) ∧ (d = none ∧ IsErr X.K cls) ∧ ∃ v, σ[j]? = some (some (.int v)) ∧ Dn.nx (σ.set j (some (.int (v + 1)))) H) h1 hf hN hi hln hc tk (fun W pn xe t q => (hb W pn xe t q).can) (fun a oe cls d pn hz hff => ⟨fun pins s σ H Dn I h => ?_⟩), fun A0 T H0 σ δ H Dn s w => ⟨A0, T, H0, δ, s, ?_⟩⟩
  · obtain ⟨hs, ⟨hd0, D, hD, C, k⟩, v, hjv, q⟩ := h
    subst hd0
    subst hD
    have pis := pe_callB (X := X.suite a ((a, oe) :: pn)) (p := p1) (r := rIsE X.K D a) (call_isE (X := X) (a := a) (pn := pn) C hz hff) gi mi (by decide +kernel) (pa_cons (pe_var hi hv hd hcd) (pa_cons (pe_bltn (v := .ty "ValueError") gv mv (u := .type "ValueError") (by decide +kernel) rfl (by decide) (by decide)) pa_nil (by rw [he2]; rfl)) (by rw [he, he2])) (by decide) (by decide) (by rw [he, he2]) hpl
    have pint := pe_callTy (X := X.suite a ((a, oe) :: pn)) (p := q3) call_int1 gt mt (by decide +kernel) (pa_cons pis pa_nil hei) (by decide) (by decide) hei hpi
    refine (pss_one (ps_set (X := X.suite a ((a, oe) :: pn)) hN hj hlt (pe_op op_add (pe_var hj hvt hdt hcdt) pint) hsw hfn)).run pins s σ H Dn I ?_
    refine ⟨.int v, hjv, ?_⟩
    refine ⟨_, hs, .ty "ValueError", .type "ValueError", true, rfl, fun u r => r, k, ?_⟩
    exact .inr ⟨true, rfl, v, 1, rfl, rfl, q⟩
  · unfold mTryAdd at w
    cases e : m δ with
    | bad => rw [e] at w; exact w
    | ex k => rw [e] at w; exact w
    | ok o =>
      rw [e] at w
      cases o with
      | ex k δ' =>
        refine fun σ' H' s' => ?_
        unfold tryAddK at w
        dsimp only at w
        cases e2 : p k with
        | none => rw [e2] at w; exact w.elim
        | some b =>
          rw [e2] at w
          refine ⟨b, hp k b e2, fun hb a _ => ?_, fun hb => ?_⟩
          · subst hb
            dsimp only at w
            split at w
            · rename_i v hv
              obtain ⟨hin, w⟩ := R.when_ok (fun r => WpS X.K Y A0 [] T H0 r Dn) w id
              rw [Bool.and_eq_true] at hin
              have hne : i ≠ j := of_decide_eq_true hin.2
              have hl : i < σ'.length := by rw [s'.len]; exact of_decide_eq_true hin.1
              have hjl : j < δ'.length := (List.getElem?_eq_some_iff.mp hv).1
              obtain ⟨u, q1, q2⟩ := s'.read.1 j _ hv
              cases q2
              refine ⟨List.getElem?_set_self hl, ⟨rfl, hE k e2⟩, v, by rw [List.getElem?_set_ne hne]; exact q1, ?_⟩
              have e3 : ((σ'.set i (some (.ref a))).set j (some (.int (v + 1)))).set i none = (σ'.set j (some (.int (v + 1)))).set i none := by
                rw [List.set_comm _ _ hne, List.set_set]
              show Dn.nx (((σ'.set i (some (.ref a))).set j (some (.int (v + 1)))).set i none) H'
              rw [e3]
              exact w _ H' (s'.putI hjl).wipe1
            · exact w.elim
          · subst hb
            exact w σ' H' s'
      | _ => exact w
end
end L2
namespace SL
open PySem PySem.Spec PyProof.Rows L2
def lsC : DS → R Bool := (mAnd (mNot (mB (mBin gIx (mVar 2) (mVar 5)))) (mB (mCall gAny (mCons (mL (mComp [6] 6 (mBin gIx (mBin gIx (mBin gIx (mVar 0) (mC (.int 1))) (mBin gSubI (mVar 5) (mBin gIx (mVar 0) (mC (.int 0))))) (mC (.int 1))) mYes (mBin (gInA false) (mVar 6) (mVar 3)))) mNil))))
def lsB : DS → R Out := (mIf lsC (mApp [2, 4] 4 (mVar 5)) mSkip)
def lsG : DS → R Out := (mSeq (mFor [2] (mVar 4) (stName 5) (mSetAt [2] 2 (mC (.bool true)) (mVar 5))) (mSet [2] 3 (mVar 4)))
def lsT : DS → R Out := (mSeq (mOwn [2, 4] 4 (mLst mNil))
    (mSeq (mForR (mCons (mBin gIx (mVar 0) (mC (.int 0))) (mCons (mCall gLen (mCons (mVar 2) mNil)) mNil)) (stName 5) lsB) (mGive 4 lsG)))
def lsW : DS → R Bool := (mB (mBin (gCmp fun i j => decide (j < i)) (mCall gLen (mCons (mVar 3) mNil)) (mC (.int 0))))
def ls3 : DS → R Out := (mRetL (mCompR [5] 5 (mCons (mCall gLen (mCons (mVar 2) mNil)) mNil) (mB (mBin gIx (mVar 2) (mVar 5))) (mVar 5)))
def ls2 : DS → R Out := (mSeq (fun δ => whileM lsW lsT ((fun _ => 2000) δ) δ) ls3)
def ls1 : DS → R Out := (mSeq (mSet [2, 4] 3 (mL (mLst (mCons (mVar 1) mNil)))) ls2)
def lsM : DS → R Out := (mSeq (mOwn [2, 4] 2 (mRep (mLst (mCons (mC (.bool false)) mNil)) (mBin gAdd (mBin gIx (mVar 0) (mC (.int 0))) (mCall gLen (mCons (mBin gIx (mVar 0) (mC (.int 1))) mNil))))) ls1)
def lsS (mn x : Int) (gs : List Gate) (S : List Bool) (Nw : List Int) (fr o : Option D) : DS := [some (planD mn gs), some (.int x), some (.list (boolsOf S)), some (.list (intsOf Nw)), fr, o, none]
def freshK (mn : Int) (S : List Bool) (Nw : List Int) : Nat → List Gate → List Int
  | _, [] => []
  | k, g :: gs => if (!S.getD (mn + (k : Int)).toNat false && g.2.1.any fun s => decide (s ∈ Nw)) = true then (mn + (k : Int)) :: freshK mn S Nw (k + 1) gs else freshK mn S Nw (k + 1) gs
theorem freshK_mem {mn z : Int} {S : List Bool} {Nw : List Int} : ∀ {gs : List Gate} {k : Nat}, z ∈ freshK mn S Nw k gs ↔ ∃ (j : Nat) (g : Gate), gs[j]? = some g ∧ z = mn + ((k + j : Nat) : Int) ∧ S.getD z.toNat false = false ∧ ∃ s ∈ g.2.1, s ∈ Nw
  | [], k => by simp [freshK]
  | g :: gs, k => by
    have ih := @freshK_mem mn z S Nw gs (k + 1)
    have cond : (!S.getD (mn + (k : Int)).toNat false && g.2.1.any fun s => decide (s ∈ Nw)) = true ↔ S.getD (mn + (k : Int)).toNat false = false ∧ ∃ s ∈ g.2.1, s ∈ Nw := by
      rw [Bool.and_eq_true, Bool.not_eq_true', List.any_eq_true]
      exact ⟨fun q => ⟨q.1, q.2.imp fun s r => ⟨r.1, of_decide_eq_true r.2⟩⟩, fun q => ⟨q.1, q.2.imp fun s r => ⟨r.1, decide_eq_true r.2⟩⟩⟩
    have step : (∃ (j : Nat) (g' : Gate), (g :: gs)[j]? = some g' ∧ z = mn + ((k + j : Nat) : Int) ∧ S.getD z.toNat false = false ∧ ∃ s ∈ g'.2.1, s ∈ Nw) ↔ (z = mn + (k : Int) ∧ S.getD (mn + (k : Int)).toNat false = false ∧ ∃ s ∈ g.2.1, s ∈ Nw) ∨ ∃ (j : Nat) (g' : Gate), gs[j]? = some g' ∧ z = mn + ((k + 1 + j : Nat) : Int) ∧ S.getD z.toNat false = false ∧ ∃ s ∈ g'.2.1, s ∈ Nw := by
      constructor
      · rintro ⟨j, g', h1, h2, h3, h4⟩
        cases j with
        | zero => cases h1; subst h2; exact .inl ⟨by omega, h3, h4⟩
        | succ j => exact .inr ⟨j, g', h1, by omega, h3, h4⟩
      · rintro (⟨rfl, h3, h4⟩ | ⟨j, g', h1, h2, h3, h4⟩)
        · exact ⟨0, g, rfl, by omega, h3, h4⟩
        · exact ⟨j + 1, g', h1, by omega, h3, h4⟩
    rw [step, freshK]
    by_cases q : (!S.getD (mn + (k : Int)).toNat false && g.2.1.any fun s => decide (s ∈ Nw)) = true
    · rw [if_pos q, List.mem_cons, ih]
      have c := cond.mp q
      exact ⟨fun r => r.elim (fun e => .inl ⟨e, c⟩) .inr, fun r => r.elim (fun e => .inl e.1) .inr⟩
    · rw [if_neg q, ih]
      exact ⟨.inr, fun r => r.elim (fun e => absurd (cond.mpr e.2) q) id⟩
def markAll (S : List Bool) (fr : List Int) : List Bool := fr.foldl (fun S z => S.set z.toNat true) S
theorem markAll_len (fr : List Int) : ∀ S : List Bool, (markAll S fr).length = S.length := by
  induction fr with
  | nil => intro S; rfl
  | cons z r ih => intro S; show (markAll (S.set z.toNat true) r).length = _; rw [ih, List.length_set]
theorem markAll_get : ∀ {fr : List Int} {S : List Bool} {l : Nat}, l < S.length → ((markAll S fr).getD l false = true ↔ S.getD l false = true ∨ ∃ z ∈ fr, z.toNat = l)
  | [], S, l, h => ⟨.inl, fun q => q.elim id fun ⟨z, hz, _⟩ => absurd hz List.not_mem_nil⟩
  | z :: r, S, l, h => by
    have ih := markAll_get (fr := r) (S := S.set z.toNat true) (l := l) (by rw [List.length_set]; exact h)
    show (markAll (S.set z.toNat true) r).getD l false = true ↔ _
    rw [ih]
    have e : (S.set z.toNat true).getD l false = true ↔ S.getD l false = true ∨ z.toNat = l := by
      rw [List.getD_eq_getElem?_getD, List.getD_eq_getElem?_getD]
      by_cases q : z.toNat = l
      · subst q
        rw [List.getElem?_set_self h]
        exact ⟨fun _ => .inr rfl, fun _ => rfl⟩
      · rw [List.getElem?_set_ne q]
        exact ⟨.inl, fun w => w.elim id fun w => absurd w q⟩
    rw [e]
    constructor
    · rintro ((q | q) | ⟨y, hy, q⟩)
      · exact .inl q
      · exact .inr ⟨z, List.mem_cons_self, q⟩
      · exact .inr ⟨y, List.mem_cons_of_mem _ hy, q⟩
    · rintro (q | ⟨y, hy, q⟩)
      · exact .inl (.inl q)
      · rcases List.mem_cons.mp hy with rfl | hy
        · exact .inl (.inr q)
        · exact .inr ⟨y, hy, q⟩
def openN : List Bool → Nat
  | [] => 0
  | b :: r => (if b = true then 0 else 1) + openN r
theorem openN_le : ∀ S : List Bool, openN S ≤ S.length
  | [] => Nat.le_refl _
  | b :: r => by
    have := openN_le r
    rw [openN, List.length_cons]
    split <;> omega
theorem openN_set : ∀ (S : List Bool) (i : Nat), openN (S.set i true) ≤ openN S
  | [], i => Nat.le_refl _
  | b :: r, 0 => by
    show (if true = true then 0 else 1) + openN r ≤ (if b = true then 0 else 1) + openN r
    rw [if_pos rfl]; omega
  | b :: r, i + 1 => by
    have := openN_set r i
    show (if b = true then 0 else 1) + openN (r.set i true) ≤ (if b = true then 0 else 1) + openN r
    omega
theorem openN_lt : ∀ {S : List Bool} {i : Nat}, i < S.length → S.getD i false = false → openN (S.set i true) < openN S
  | [], i, h, _ => absurd h (Nat.not_lt_zero _)
  | b :: r, 0, _, h => by
    have : b = false := h
    subst this
    show (if true = true then 0 else 1) + openN r < (if false = true then 0 else 1) + openN r
    rw [if_pos rfl, if_neg (by decide)]; omega
  | b :: r, i + 1, h, q => by
    have := openN_lt (S := r) (i := i) (Nat.lt_of_succ_lt_succ h) q
    show (if b = true then 0 else 1) + openN (r.set i true) < (if b = true then 0 else 1) + openN r
    omega
theorem openN_all (fr : List Int) : ∀ S : List Bool, openN (markAll S fr) ≤ openN S := by
  induction fr with
  | nil => intro S; exact Nat.le_refl _
  | cons z r ih => intro S; exact Nat.le_trans (ih _) (openN_set S _)
section
variable {mn x : Int} {gs : List Gate}
structure LInv (mn x : Int) (gs : List Gate) (S : List Bool) (Nw : List Int) : Prop where
  len : S.length = (mn + gs.length).toNat
  mark : ∀ l : Nat, S.getD l false = true → Sees mn gs x (l : Int)
  news : ∀ y ∈ Nw, y = x ∨ Sees mn gs x y
  done : ∀ y, (y = x ∨ (0 ≤ y ∧ S.getD y.toNat false = true)) → y ∉ Nw → ∀ (i : Nat) (g : Gate), gs[i]? = some g → y ∈ g.2.1 → S.getD (mn + (i : Int)).toNat false = true
theorem LInv.step {S : List Bool} {Nw : List Int} (m0 : 0 ≤ mn) (v : LInv mn x gs S Nw) : LInv mn x gs (markAll S (freshK mn S Nw 0 gs)) (freshK mn S Nw 0 gs) := by
  have fs : ∀ z ∈ freshK mn S Nw 0 gs, Sees mn gs x z := fun z hz => by
    obtain ⟨j, g, e, rfl, _, s, hs, hn⟩ := freshK_mem.mp hz
    rw [Nat.zero_add]
    rcases v.news s hn with q | q
    · exact .one e (q ▸ hs)
    · exact .more q e hs
  refine ⟨by rw [markAll_len]; exact v.len, fun l hl => ?_, fun y hy => .inr (fs y hy), fun y hy hn i g e h => ?_⟩
  · by_cases hb : l < S.length
    · rcases (markAll_get hb).mp hl with q | ⟨z, hz, q⟩
      · exact v.mark l q
      · have := fs z hz
        have r := this.range
        rwa [show ((l : Nat) : Int) = z by omega]
    · rw [List.getD_eq_getElem?_getD, List.getElem?_eq_none (by rw [markAll_len]; omega)] at hl
      cases hl
  · have hi := (List.getElem?_eq_some_iff.mp e).1
    have hb : (mn + (i : Int)).toNat < S.length := by rw [v.len]; omega
    rw [markAll_get hb]
    by_cases hw : y ∈ Nw
    · cases q : S.getD (mn + (i : Int)).toNat false with
      | true => exact .inl rfl
      | false => exact .inr ⟨mn + (i : Int), freshK_mem.mpr ⟨i, g, e, by rw [Nat.zero_add], q, y, h, hw⟩, rfl⟩
    · refine .inl (v.done y ?_ hw i g e h)
      rcases hy with q | ⟨q1, q2⟩
      · exact .inl q
      · refine .inr ⟨q1, ?_⟩
        by_cases hb2 : y.toNat < S.length
        · rcases (markAll_get hb2).mp q2 with q | ⟨z, hz, q⟩
          · exact q
          · have r := (fs z hz).range
            exact absurd hz (by rwa [show z = y by omega])
        · rw [List.getD_eq_getElem?_getD, List.getElem?_eq_none (by rw [markAll_len]; omega)] at q2
          cases q2
theorem ls_cond (hok : rdOk mn gs = true) {S : List Bool} {Nw : List Int} {fr : Option D} {k : Nat} {g : Gate} (hl : S.length = (mn + gs.length).toNat) (hg : gs[k]? = some g) : lsC (lsS mn x gs S Nw fr (some (.int (mn + (k : Int))))) = .ok (!S.getD (mn + (k : Int)).toNat false && g.2.1.any fun s => decide (s ∈ Nw)) := by
  have hok2 := hok
  unfold rdOk at hok2
  rw [Bool.and_eq_true, List.all_eq_true] at hok2
  obtain ⟨m0, m1⟩ := of_decide_eq_true hok2.1
  have hk := (List.getElem?_eq_some_iff.mp hg).1
  have hgo := hok2.2 g (List.mem_of_getElem? hg)
  rw [Bool.and_eq_true, List.all_eq_true] at hgo
  have hlen := of_decide_eq_true hgo.1
  have big : (1000 : Nat) < sizeLine := by decide
  have lt : ltOk (intsOf g.2.1).length = true := by rw [ints_len]; exact decide_eq_true (by omega)
  have t1 : mB (mBin gIx (mVar 2) (mVar 5)) (lsS mn x gs S Nw fr (some (.int (mn + (k : Int))))) = .ok (S.getD (mn + (k : Int)).toNat false) := by
    show ((atK (atI (boolsOf S) (mn + (k : Int)))).bind boolD) = _
    rw [at_bools (by omega) (by omega)]; rfl
  have e : mBin gIx (mBin gIx (mBin gIx (mVar 0) (mC (.int 1))) (mBin gSubI (mVar 5) (mBin gIx (mVar 0) (mC (.int 0))))) (mC (.int 1)) (lsS mn x gs S Nw fr (some (.int (mn + (k : Int))))) = .ok (.tuple (intsOf g.2.1)) := by
    show ((atK (atI (gatesD gs) (mn + (k : Int) - mn))).bind fun y => gIx y (.int 1)) = _
    rw [at_gates (mn := mn) hg (by omega)]; rfl
  have t2 : mB (mCall gAny (mCons (mL (mComp [6] 6 (mBin gIx (mBin gIx (mBin gIx (mVar 0) (mC (.int 1))) (mBin gSubI (mVar 5) (mBin gIx (mVar 0) (mC (.int 0))))) (mC (.int 1))) mYes (mBin (gInA false) (mVar 6) (mVar 3)))) mNil)) (lsS mn x gs S Nw fr (some (.int (mn + (k : Int))))) = .ok (g.2.1.any fun s => decide (s ∈ Nw)) := by
    rw [q_B, q_call, q_cons, q_mL, q_comp, e, R.bind_ok, q_compT, lt, R.when_true, comp_map (f := fun d => match d with
      | .int s => .bool (decide (s ∈ Nw))
      | d => d) fun y hy => ?_]
    · have : (intsOf g.2.1).map (fun d => match d with
        | .int s => .bool (decide (s ∈ Nw))
        | d => d) = (g.2.1.map fun s => decide (s ∈ Nw)).map PyData.bool := by
        unfold intsOf
        rw [List.map_map, List.map_map]; rfl
      rw [this, R.map_ok, R.bind_ok, q_nil, R.map_ok, R.bind_ok, g_any, bools_of, g_anyK, R.bind_ok, q_boolD, List.any_map]; rfl
    · unfold intsOf at hy
      obtain ⟨s, hs, rfl⟩ := List.mem_map.mp hy
      show gInA false (.int s) (.list (intsOf Nw)) = _
      exact in_ints s Nw
  unfold lsC
  rw [q_and, q_not, t1, R.map_ok, R.bind_ok, t2]
  cases S.getD (mn + (k : Int)).toNat false
  · rfl
  · rfl
theorem ls_find (hok : rdOk mn gs = true) {S : List Bool} {Nw : List Int} (hl : S.length = (mn + gs.length).toNat) : ∀ (n k : Nat) (acc : List Int) (o : Option D), k + n = gs.length → acc.length ≤ k → ∃ o', loopM (stName 5) lsB ((List.range' k n).map fun (i : Nat) => .int (mn + (i : Int))) (lsS mn x gs S Nw (some (.list (intsOf acc))) o) = .ok (.nx (lsS mn x gs S Nw (some (.list (intsOf (acc ++ freshK mn S Nw k (gs.drop k))))) o'))
  | 0, k, acc, o, h, _ => ⟨o, by
    rw [List.drop_eq_nil_of_le (by omega)]
    show _ = R.ok (Out.nx (lsS mn x gs S Nw (some (.list (intsOf (acc ++ [])))) o))
    rw [List.append_nil]; rfl⟩
  | n + 1, k, acc, o, h, ha => by
    have hok2 := hok
    unfold rdOk at hok2
    rw [Bool.and_eq_true] at hok2
    obtain ⟨m0, m1⟩ := of_decide_eq_true hok2.1
    have hk : k < gs.length := by omega
    obtain ⟨g, hg⟩ : ∃ g, gs[k]? = some g := ⟨gs[k], List.getElem?_eq_getElem hk⟩
    have dr : gs.drop k = g :: gs.drop (k + 1) := take_next hg
    have c := ls_cond (x := x) (Nw := Nw) (fr := some (.list (intsOf acc))) hok hl hg
    rw [List.range'_succ, List.map_cons, dr, freshK]
    by_cases q : (!S.getD (mn + (k : Int)).toNat false && g.2.1.any fun s => decide (s ∈ Nw)) = true
    · rw [q] at c
      have body : lsB (lsS mn x gs S Nw (some (.list (intsOf acc))) (some (.int (mn + (k : Int))))) = .ok (.nx (lsS mn x gs S Nw (some (.list (intsOf (acc ++ [mn + (k : Int)])))) (some (.int (mn + (k : Int)))))) := by
        unfold lsB
        rw [q_if, c, R.run_ok, if_pos rfl]
        have big : (1000 : Nat) < sizeLine := by decide
        have lt : ltOk (intsOf acc).length = true := by rw [ints_len]; exact decide_eq_true (by omega)
        show R.when (ltOk (intsOf acc).length) (R.ok (Out.nx ((lsS mn x gs S Nw (some (.list (intsOf acc))) (some (.int (mn + (k : Int))))).set 4 (some (.list (intsOf acc ++ [.int (mn + (k : Int))])))))) = _
        rw [lt, R.when_true, show intsOf acc ++ [.int (mn + (k : Int))] = intsOf (acc ++ [mn + (k : Int)]) from by unfold intsOf; rw [List.map_append]; rfl]; rfl
      obtain ⟨o', ih⟩ := ls_find hok hl n (k + 1) (acc ++ [mn + (k : Int)]) (some (.int (mn + (k : Int)))) (by omega) (by rw [List.length_append, List.length_singleton]; omega)
      refine ⟨o', ?_⟩
      rw [if_pos q, loop_nx (by rfl) body, ih, List.append_assoc]; rfl
    · have q' := Bool.eq_false_iff.mpr q
      rw [q'] at c
      have body : lsB (lsS mn x gs S Nw (some (.list (intsOf acc))) (some (.int (mn + (k : Int))))) = .ok (.nx (lsS mn x gs S Nw (some (.list (intsOf acc))) (some (.int (mn + (k : Int)))))) := by
        unfold lsB
        rw [q_if, c, R.run_ok, if_neg (by decide)]; rfl
      obtain ⟨o', ih⟩ := ls_find hok hl n (k + 1) acc (some (.int (mn + (k : Int)))) (by omega) (by omega)
      refine ⟨o', ?_⟩
      rw [if_neg q, loop_nx (by rfl) body, ih]
theorem ls_mark {Nw : List Int} {fr : Option D} : ∀ (zs : List Int) (S : List Bool) (o : Option D), (∀ z ∈ zs, 0 ≤ z ∧ z < S.length) → ∃ o', loopM (stName 5) (mSetAt [2] 2 (mC (.bool true)) (mVar 5)) (intsOf zs) (lsS mn x gs S Nw fr o) = .ok (.nx (lsS mn x gs (markAll S zs) Nw fr o'))
  | [], S, o, _ => ⟨o, rfl⟩
  | z :: zs, S, o, h => by
    obtain ⟨h0, h1⟩ := h z List.mem_cons_self
    have body : mSetAt [2] 2 (mC (.bool true)) (mVar 5) (lsS mn x gs S Nw fr (some (.int z))) = .ok (.nx (lsS mn x gs (S.set z.toNat true) Nw fr (some (.int z)))) := by
      show putK' 2 (boolsOf S) _ (.bool true) (ixN (boolsOf S).length z) = _
      have l : (boolsOf S).length = S.length := List.length_map ..
      have es : (boolsOf S).set z.toNat (.bool true) = boolsOf (S.set z.toNat true) := by unfold boolsOf; rw [List.map_set]
      rw [l, ix_in h0 h1, q_putK, es]; rfl
    obtain ⟨o', ih⟩ := ls_mark (Nw := Nw) (fr := fr) zs (S.set z.toNat true) (some (.int z)) fun y hy => by rw [List.length_set]; exact h y (List.mem_cons_of_mem _ hy)
    refine ⟨o', ?_⟩
    show loopM (stName 5) _ (.int z :: intsOf zs) _ = _
    rw [loop_nx (by rfl) body]
    exact ih
theorem ls_turn (hok : rdOk mn gs = true) {S : List Bool} {Nw : List Int} {fr o : Option D} (v : LInv mn x gs S Nw) : ∃ o', lsT (lsS mn x gs S Nw fr o) = .ok (.nx (lsS mn x gs (markAll S (freshK mn S Nw 0 gs)) (freshK mn S Nw 0 gs) none o')) := by
  have hok2 := hok
  unfold rdOk at hok2
  rw [Bool.and_eq_true] at hok2
  obtain ⟨m0, m1⟩ := of_decide_eq_true hok2.1
  unfold lsT
  rw [cutR (lsS mn x gs S Nw (some (.list (intsOf []))) o) (by rfl) rfl]
  obtain ⟨o1, h1⟩ := ls_find (x := x) (Nw := Nw) hok v.len gs.length 0 [] o (by omega) (Nat.le_refl _)
  rw [List.drop_zero, List.nil_append] at h1
  have ea : mCons (mBin gIx (mVar 0) (mC (.int 0))) (mCons (mCall gLen (mCons (mVar 2) mNil)) mNil) (lsS mn x gs S Nw (some (.list (intsOf []))) o) = .ok [.int mn, .int ((boolsOf S).length : Nat)] := rfl
  have lb : (boolsOf S).length = S.length := List.length_map ..
  have hb := v.len
  rw [cutR (lsS mn x gs S Nw (some (.list (intsOf (freshK mn S Nw 0 gs)))) o1) (by
    rw [q_forR, ea, R.run_ok]
    show R.when (decide (-(2 ^ 62) ≤ mn ∧ mn < 2 ^ 62 ∧ -(2 ^ 62) ≤ (((boolsOf S).length : Nat) : Int) ∧ (((boolsOf S).length : Nat) : Int) < 2 ^ 62)) (loopM (stName 5) lsB ((List.range ((((boolsOf S).length : Nat) : Int) - mn).toNat).map fun (i : Nat) => .int (mn + (i : Int))) _) = _
    rw [lb, decide_eq_true (by omega), R.when_true, show ((S.length : Int) - mn).toNat = gs.length by omega, List.range_eq_range']
    exact h1) rfl]
  obtain ⟨o2, h2⟩ := ls_mark (mn := mn) (x := x) (gs := gs) (Nw := Nw) (fr := some (.list (intsOf (freshK mn S Nw 0 gs)))) (freshK mn S Nw 0 gs) S o1 fun z hz => by
    obtain ⟨j, g, e, rfl, _⟩ := freshK_mem.mp hz
    have := (List.getElem?_eq_some_iff.mp e).1
    omega
  refine ⟨o2, ?_⟩
  have hG : lsG (lsS mn x gs S Nw (some (.list (intsOf (freshK mn S Nw 0 gs)))) o1) = .ok (.nx (lsS mn x gs (markAll S (freshK mn S Nw 0 gs)) (freshK mn S Nw 0 gs) (some (.list (intsOf (freshK mn S Nw 0 gs)))) o2)) := by
    unfold lsG
    rw [cutR (lsS mn x gs (markAll S (freshK mn S Nw 0 gs)) Nw (some (.list (intsOf (freshK mn S Nw 0 gs)))) o2) (by
      show loopM (stName 5) _ (intsOf (freshK mn S Nw 0 gs)) _ = _
      exact h2) rfl]
    rfl
  rw [q_give, hG]; rfl
theorem ls_loop (hok : rdOk mn gs = true) : ∀ (n : Nat) (S : List Bool) (Nw : List Int) (fr o : Option D), LInv mn x gs S Nw → openN S + (if Nw = [] then 0 else 1) < n → ∃ fr' o', whileM lsW lsT n (lsS mn x gs S Nw fr o) = .ok (.nx (lsS mn x gs (seesB mn gs x) [] fr' o'))
  | 0, _, _, _, _, _, h => absurd h (Nat.not_lt_zero _)
  | n + 1, S, Nw, fr, o, v, h => by
    have hok2 := hok
    unfold rdOk at hok2
    rw [Bool.and_eq_true] at hok2
    obtain ⟨m0, m1⟩ := of_decide_eq_true hok2.1
    have te : lsW (lsS mn x gs S Nw fr o) = .ok (decide ((0 : Int) < ((intsOf Nw).length : Nat))) := rfl
    unfold whileM
    rw [te, R.run_ok, ints_len]
    by_cases hz : Nw = []
    · subst hz
      have : S = seesB mn gs x := seesB_of v.len m0 v.mark (closed_all (fun y hy i g e h => v.done y hy List.not_mem_nil i g e h) m0)
      refine ⟨fr, o, ?_⟩
      rw [this]; rfl
    · rw [if_neg hz] at h
      obtain ⟨o1, t⟩ := ls_turn (fr := fr) (o := o) hok v
      have hlt : openN (markAll S (freshK mn S Nw 0 gs)) + (if freshK mn S Nw 0 gs = [] then 0 else 1) < n := by
        cases q : freshK mn S Nw 0 gs with
        | nil => rw [if_pos rfl]; show openN S + 0 < n; omega
        | cons z r =>
          rw [if_neg (by intro w; cases w)]
          obtain ⟨j, g, e, ez, zf, _⟩ := freshK_mem.mp (show z ∈ freshK mn S Nw 0 gs by rw [q]; exact List.mem_cons_self)
          have hj := (List.getElem?_eq_some_iff.mp e).1
          have a := openN_lt (S := S) (i := z.toNat) (by rw [v.len]; omega) zf
          have b := openN_all r (S.set z.toNat true)
          show openN (markAll (S.set z.toNat true) r) + 1 < n
          omega
      obtain ⟨fr2, o2, ih⟩ := ls_loop hok n _ _ none o1 (v.step m0) hlt
      refine ⟨fr2, o2, ?_⟩
      rw [decide_eq_true (by have := List.length_pos_iff.mpr hz; omega), if_pos rfl, t]
      exact ih
theorem comp_trueAt {δ : DS} {S : List Bool} (hl : δ.length = 7) (h2 : δ[2]? = some (some (.list (boolsOf S)))) : ∀ (n k : Nat), k + n = S.length → compM 5 (mB (mBin gIx (mVar 2) (mVar 5))) (mVar 5) δ ((List.range' k n).map fun (i : Nat) => .int (i : Int)) = .ok (intsOf (trueAt k (S.drop k)))
  | 0, k, h => by rw [List.drop_eq_nil_of_le (by omega)]; rfl
  | n + 1, k, h => by
    have ih := comp_trueAt hl h2 n (k + 1) (by omega)
    have hk : k < S.length := by omega
    have dr : S.drop k = S[k] :: S.drop (k + 1) := List.drop_eq_getElem_cons hk
    have e5 : mVar 5 (δ.set 5 (some (.int (k : Int)))) = .ok (.int (k : Int)) := by rw [q_var, List.getElem?_set_self (by rw [hl]; decide)]; rfl
    have e2 : mVar 2 (δ.set 5 (some (.int (k : Int)))) = .ok (.list (boolsOf S)) := by rw [q_var, List.getElem?_set_ne (by decide), h2]; rfl
    have t : mB (mBin gIx (mVar 2) (mVar 5)) (δ.set 5 (some (.int (k : Int)))) = .ok S[k] := by
      rw [q_B, q_bin, e2, R.bind_ok, e5, R.bind_ok, g_ixL, at_bools (by omega) (by omega), Int.toNat_natCast, List.getD_eq_getElem?_getD, List.getElem?_eq_getElem hk]; rfl
    rw [List.range'_succ, List.map_cons, compM, t, dr, trueAt]
    cases S[k] with
    | true =>
      dsimp only
      rw [e5, ih]; rfl
    | false =>
      dsimp only
      rw [ih]; rfl
end
noncomputable def g_lawseen : List D → R (List D)
  | [d, .int x] => match toPlan d with
    | some (mn, gs) => R.when (rdOk mn gs && decide (0 ≤ x ∧ x < mn + gs.length)) (.ok (intsOf (seersOf mn gs x)))
    | none => .bad
  | _ => .bad
theorem lawseen_ev {mn x : Int} {gs : List Gate} (hok : rdOk mn gs = true) (hx : 0 ≤ x ∧ x < mn + gs.length) : g_lawseen [planD mn gs, .int x] = .ok (intsOf (seersOf mn gs x)) := by
  show (match toPlan (planD mn gs) with
    | some (mn, gs) => R.when (rdOk mn gs && decide (0 ≤ x ∧ x < mn + gs.length)) (R.ok (intsOf (seersOf mn gs x)))
    | none => R.bad) = _
  rw [toPlan_of]
  dsimp only
  rw [hok, decide_eq_true hx]; rfl
theorem rep_bools (n : Nat) : (List.replicate n [(.bool false : D)]).flatten = boolsOf (List.replicate n false) := by
  induction n with
  | zero => rfl
  | succ n ih => rw [List.replicate_succ, List.flatten_cons, ih]; rfl
theorem ls_ok {mn x : Int} {gs : List Gate} (hok : rdOk mn gs = true) (hx : 0 ≤ x ∧ x < mn + gs.length) : finL (lsM [some (planD mn gs), some (.int x), none, none, none, none, none]) = .ok (intsOf (seersOf mn gs x)) := by
  have hok2 := hok
  unfold rdOk at hok2
  rw [Bool.and_eq_true] at hok2
  obtain ⟨m0, m1⟩ := of_decide_eq_true hok2.1
  have big : (1000 : Nat) < sizeLine := by decide
  have gf : ∀ l : Nat, (List.replicate (mn + gs.length).toNat false).getD l false = false := fun l => by
    rw [List.getD_eq_getElem?_getD, List.getElem?_replicate]
    split <;> rfl
  unfold lsM
  rw [cutR [some (planD mn gs), some (.int x), some (.list (boolsOf (List.replicate (mn + gs.length).toNat false))), none, none, none, none] (by
    have er : mRep (mLst (mCons (mC (.bool false)) mNil)) (mBin gAdd (mBin gIx (mVar 0) (mC (.int 0))) (mCall gLen (mCons (mBin gIx (mVar 0) (mC (.int 1))) mNil))) [some (planD mn gs), some (.int x), none, none, none, none, none] = .ok (boolsOf (List.replicate (mn + gs.length).toNat false)) := by
      show R.when (repOk 1 (mn + (((gatesD gs).length : Nat) : Int))) (R.ok (List.replicate (mn + (((gatesD gs).length : Nat) : Int)).toNat [(.bool false : D)]).flatten) = _
      rw [gates_map_len, show repOk 1 (mn + (gs.length : Int)) = true from decide_eq_true ⟨by omega, by omega, by omega⟩, R.when_true, rep_bools]
    show ((mRep (mLst (mCons (mC (.bool false)) mNil)) (mBin gAdd (mBin gIx (mVar 0) (mC (.int 0))) (mCall gLen (mCons (mBin gIx (mVar 0) (mC (.int 1))) mNil))) [some (planD mn gs), some (.int x), none, none, none, none, none]).run _ fun ds => _) = _
    rw [er]; rfl) rfl]
  unfold ls1
  rw [cutR (lsS mn x gs (List.replicate (mn + gs.length).toNat false) [x] none none) (by rfl) rfl]
  have v : LInv mn x gs (List.replicate (mn + gs.length).toNat false) [x] := by
    refine ⟨List.length_replicate, fun l hl => (by rw [gf] at hl; cases hl), fun y hy => .inl (List.mem_singleton.mp hy), fun y hy hn i g e h => ?_⟩
    rcases hy with rfl | ⟨_, q⟩
    · exact absurd (List.mem_singleton.mpr rfl) hn
    · rw [gf] at q; cases q
  obtain ⟨fr', o', k⟩ := ls_loop hok 2000 _ _ none none v (by
    have := openN_le (List.replicate (mn + (gs.length : Int)).toNat false)
    rw [List.length_replicate] at this
    rw [if_neg (by intro w; cases w)]; omega)
  unfold ls2
  rw [cutR _ k rfl]
  have ls : (seesB mn gs x).length = (mn + gs.length).toNat := by unfold seesB; rw [List.length_map, List.length_range]
  have lb : (boolsOf (seesB mn gs x)).length = (seesB mn gs x).length := List.length_map ..
  have ce := comp_trueAt (δ := wipeD (lsS mn x gs (seesB mn gs x) [] fr' o') [5]) (S := seesB mn gs x) rfl rfl (seesB mn gs x).length 0 (by omega)
  rw [List.drop_zero] at ce
  unfold ls3
  have ea : mCons (mCall gLen (mCons (mVar 2) mNil)) mNil (lsS mn x gs (seesB mn gs x) [] fr' o') = .ok [.int ((boolsOf (seesB mn gs x)).length : Nat)] := rfl
  rw [q_retL, q_compR, ea, R.bind_ok, q_compRI, lb, decide_eq_true (by omega), R.when_true, Int.toNat_natCast]
  unfold rangeD
  rw [List.range_eq_range', ce]
  rfl
/-! ## two lists of numbers, held against each other -/
def g_numbers : List D → R D
  | [.list xs, .list ys] => match intsD xs, intsD ys with
    | some a, some b => R.when (decide (a = b ∧ a.length ≤ 100000)) (.ok (.bool true))
    | _, _ => .bad
  | _ => .bad
theorem numbers_ev {a : List Int} (h : a.length ≤ 100000) : g_numbers [.list (intsOf a), .list (intsOf a)] = .ok (.bool true) := by
  show (match intsD (intsOf a), intsD (intsOf a) with
    | some a, some b => R.when (decide (a = b ∧ a.length ≤ 100000)) (R.ok (PyData.bool true))
    | _, _ => R.bad) = _
  rw [ints_inv]
  dsimp only
  rw [decide_eq_true ⟨rfl, h⟩]; rfl
theorem trueAt_len : ∀ (S : List Bool) (c : Nat), (trueAt c S).length ≤ S.length
  | [], _ => Nat.le_refl _
  | b :: r, c => by
    have := trueAt_len r (c + 1)
    rw [trueAt, List.length_cons]
    split
    · rw [List.length_cons]; omega
    · omega
theorem seers_len {mn x : Int} {gs : List Gate} : (seersOf mn gs x).length ≤ (mn + gs.length).toNat := by
  unfold seersOf
  refine Nat.le_trans (trueAt_len _ _) ?_
  unfold seesB
  rw [List.length_map, List.length_range]; exact Nat.le_refl _
end SL
namespace SL
open PySem PySem.Spec PyProof.Rows L2
/-! ## plans settled -/
def g_checkvalues : List D → R D
  | [.list xs, .int n] => if (xs.length : Int) = n then .ok .none else R.when (decide (xs.length ≤ 1000 ∧ 0 ≤ n ∧ n ≤ 1000)) (.ex 5)
  | _ => .bad
def settledOf (mn : Int) (gs : List Gate) (bs : List Bool) : List Bool := againOf mn gs (bs ++ List.replicate gs.length false) (upV mn (mn + gs.length))
def g_settled : List D → R (List D)
  | [d, .list bd] => match toPlan d, boolsD bd with
    | some (mn, gs), some bs => R.when (planTame mn gs && decide (bs.length ≤ 1000)) (errR (planErr mn gs) (if (bs.length : Int) = mn then errR (ordErr mn gs) (.ok (boolsOf (settledOf mn gs bs))) else .ex 5))
    | _, _ => .bad
  | _ => .bad
theorem settled_ev {mn : Int} {gs : List Gate} {bs : List Bool} (ht : planTame mn gs = true) (hl : bs.length ≤ 1000) : g_settled [planD mn gs, .list (boolsOf bs)] = errR (planErr mn gs) (if (bs.length : Int) = mn then errR (ordErr mn gs) (.ok (boolsOf (settledOf mn gs bs))) else .ex 5) := by
  show (match toPlan (planD mn gs), boolsD (boolsOf bs) with
    | some (mn, gs), some bs => R.when (planTame mn gs && decide (bs.length ≤ 1000)) (errR (planErr mn gs) (if (bs.length : Int) = mn then errR (ordErr mn gs) (R.ok (boolsOf (settledOf mn gs bs))) else R.ex 5))
    | _, _ => R.bad) = _
  rw [toPlan_of, show boolsD (boolsOf bs) = some bs from bools_of ..]
  dsimp only
  rw [ht, decide_eq_true hl]; rfl
theorem upV_mem {lo hi x : Int} : x ∈ upV lo hi ↔ lo ≤ x ∧ x < hi := by
  unfold upV
  rw [List.mem_map]
  constructor
  · rintro ⟨i, hi, rfl⟩
    have := List.mem_range.mp hi
    omega
  · rintro ⟨h1, h2⟩
    exact ⟨(x - lo).toNat, List.mem_range.mpr (by omega), by omega⟩
theorem upV_len {lo hi : Int} : (upV lo hi).length = (hi - lo).toNat := by unfold upV; rw [List.length_map, List.length_range]
/-- each input's value, and for each gate what its kind answers -/
def Settled (mn : Int) (gs : List Gate) (bs vs : List Bool) : Prop := vs.length = (mn + gs.length).toNat ∧ bs.length = mn.toNat ∧ (∀ l : Nat, l < mn.toNat → vs.getD l false = bs.getD l false) ∧ ∀ (i : Nat) (g : Gate), gs[i]? = some g → vs.getD (mn + (i : Int)).toNat false = ansG vs g
theorem none_all {mn : Int} {gs : List Gate} (h : ordErr mn gs = none) : ∀ i : Nat, i < gs.length → mn + (i : Int) ∈ ordOf mn gs := by
  have hl : gs.length ≤ (ordOf mn gs).length := by
    unfold ordErr at h
    split at h
    · cases h
    · omega
  intro i hi
  refine Classical.byContradiction fun hn => ?_
  -- the found with that one more are too many
  have hc := ord_chain mn gs
  have := few_ints gs.length mn ((mn + (i : Int)) :: ordOf mn gs) (List.nodup_cons.mpr ⟨hn, hc.nodup⟩) fun x hx => by
    rcases List.mem_cons.mp hx with rfl | hx
    · omega
    · exact hc.range hx
  rw [List.length_cons] at this
  omega
theorem settled_len {mn : Int} {gs : List Gate} {bs : List Bool} (hb : (bs.length : Int) = mn) : (settledOf mn gs bs).length = (mn + gs.length).toNat := by
  unfold settledOf againOf
  rw [againF_len, List.length_append, List.length_replicate]; omega
theorem settled_ok {mn : Int} {gs : List Gate} {bs : List Bool} (he : planErr mn gs = none) (ho : ordErr mn gs = none) (hb : (bs.length : Int) = mn) : Settled mn gs bs (settledOf mn gs bs) := by
  obtain ⟨m0, m1, m2⟩ := err_gates he
  have hs : ∀ g ∈ gs, ∀ s ∈ g.2.1, 0 ≤ s := fun g hg s hs => (err_src (m2 g hg) s hs).1
  have hV : (bs ++ List.replicate gs.length false).length = (mn + gs.length).toNat := by rw [List.length_append, List.length_replicate]; omega
  obtain ⟨d1, d2⟩ := again_due (ns := upV mn (mn + gs.length)) m0.1 hV hs (ord_chain mn gs) (ordOf mn gs).length (Nat.le_refl _)
  rw [List.take_length] at d1 d2
  refine ⟨settled_len hb, by omega, fun l hl => ?_, fun i g e => ?_⟩
  · have := d2 l (.inr fun q => by have := upV_mem.mp q; omega)
    unfold settledOf againOf
    rw [this, List.getD_eq_getElem?_getD, List.getElem?_append_left (by omega), List.getD_eq_getElem?_getD]
  · have hi := (List.getElem?_eq_some_iff.mp e).1
    exact d1 i g e (none_all ho i hi) (upV_mem.mpr (by omega))
theorem neB {a : Bool} : gNe (.bool a) (.bool a) = .ok (.bool false) := by cases a <;> rfl
/-! ### the question whether values are settled -/
noncomputable def ckS (mn : Int) (gs : List Gate) (bs vs : List Bool) : Bool := @decide (planErr mn gs = none ∧ Settled mn gs bs vs) (Classical.propDecidable _)
noncomputable def g_lawsettled : List D → R D
  | [d, .list bd, .list vd] => match toPlan d, boolsD bd, boolsD vd with
    | some (mn, gs), some bs, some vs => R.when (planTame mn gs && ckS mn gs bs vs) (.ok (.bool true))
    | _, _, _ => .bad
  | _ => .bad
theorem lawsettled_ev {mn : Int} {gs : List Gate} {bs vs : List Bool} (ht : planTame mn gs = true) (he : planErr mn gs = none) (hs : Settled mn gs bs vs) : g_lawsettled [planD mn gs, .list (boolsOf bs), .list (boolsOf vs)] = .ok (.bool true) := by
  show (match toPlan (planD mn gs), boolsD (boolsOf bs), boolsD (boolsOf vs) with
    | some (mn, gs), some bs, some vs => R.when (planTame mn gs && ckS mn gs bs vs) (R.ok (PyData.bool true))
    | _, _, _ => R.bad) = _
  rw [toPlan_of, show boolsD (boolsOf bs) = some bs from bools_of .., show boolsD (boolsOf vs) = some vs from bools_of ..]
  dsimp only
  rw [ht, show ckS mn gs bs vs = true from @decide_eq_true _ (Classical.propDecidable _) ⟨he, hs⟩]; rfl
def ssT : DS → R Bool := (mOr (mNot (mB (fun δ => ((mVar 2) δ).bind (gIs "list")))) (mB (mBin gNe (mCall gLen (mCons (mVar 2) mNil)) (mBin gAdd (mBin gIx (mVar 0) (mC (.int 0))) (mCall gLen (mCons (mBin gIx (mVar 0) (mC (.int 1))) mNil))))))
def ssE : DS → R D := (mCall g_answered (mCons (mBin gIx (mVar 5) (mC (.int 0))) (mCons (mL (mComp [6] 6 (mBin gIx (mVar 5) (mC (.int 1))) mYes (mBin gIx (mVar 2) (mVar 6)))) mNil)))
def ssI : DS → R Out := (mIf (mB (mBin (gCmp fun i j => decide (i < j)) (mVar 3) (mBin gIx (mVar 0) (mC (.int 0))))) (mSet [] 4 (mBin gIx (mVar 1) (mVar 3))) (mSeq (mSet [] 5 (mBin gIx (mBin gIx (mVar 0) (mC (.int 1))) (mBin gSubI (mVar 3) (mBin gIx (mVar 0) (mC (.int 0))))))
    (mSet [] 4 ssE)))
def ssQ : DS → R Out := (mIf (mB (mBin gNe (mBin gIx (mVar 2) (mVar 3)) (mVar 4))) (mRet (mC (.bool false))) mSkip)
def ssB : DS → R Out := (mSeq (mIf (mNot (mB (fun δ => ((mBin gIx (mVar 2) (mVar 3)) δ).bind (gIs "bool")))) (mRet (mC (.bool false))) mSkip)
    (mSeq (mSet [] 4 (mC (.bool false)))
    (mSeq ssI ssQ)))
def ssM : DS → R Out := (mSeq (mIf ssT (mRet (mC (.bool false))) mSkip)
    (mSeq (mForR (mCons (mCall gLen (mCons (mVar 2) mNil)) mNil) (stName 3) ssB)
    (mRet (mC (.bool true)))))
def ssS (mn : Int) (gs : List Gate) (bs vs : List Bool) (l d g : Option D) : DS := [some (planD mn gs), some (.list (boolsOf bs)), some (.list (boolsOf vs)), l, d, g, none]
section
variable {mn : Int} {gs : List Gate} {bs vs : List Bool}
theorem ss_body (ht : planTame mn gs = true) (he : planErr mn gs = none) (hs : Settled mn gs bs vs) {k : Nat} (hk : k < vs.length) (d g : Option D) : ∃ d' g', ssB (ssS mn gs bs vs (some (.int (k : Int))) d g) = .ok (.nx (ssS mn gs bs vs (some (.int (k : Int))) d' g')) := by
  obtain ⟨m0, m1, m2⟩ := err_gates he
  obtain ⟨s1, s2, s3, s4⟩ := hs
  have big : (1000 : Nat) < sizeLine := by decide
  have av : atI (boolsOf vs) (k : Int) = some (.bool (vs.getD k false)) := by rw [at_bools (by omega) (by omega), Int.toNat_natCast]
  have t1 : ∀ d g, mNot (mB (fun δ => ((mBin gIx (mVar 2) (mVar 3)) δ).bind (gIs "bool"))) (ssS mn gs bs vs (some (.int (k : Int))) d g) = .ok false := fun d g => by
    show ((((atK (atI (boolsOf vs) (k : Int))).bind (gIs "bool")).bind boolD).map (!·)) = _
    rw [av]; rfl
  have q1 : ∀ g, ssQ (ssS mn gs bs vs (some (.int (k : Int))) (some (.bool (vs.getD k false))) g) = .ok (.nx (ssS mn gs bs vs (some (.int (k : Int))) (some (.bool (vs.getD k false))) g)) := fun g => by
    have t : mB (mBin gNe (mBin gIx (mVar 2) (mVar 3)) (mVar 4)) (ssS mn gs bs vs (some (.int (k : Int))) (some (.bool (vs.getD k false))) g) = .ok false := by
      show ((atK (atI (boolsOf vs) (k : Int))).bind fun u => gNe u (.bool (vs.getD k false))).bind boolD = _
      rw [av, g_atK, R.bind_ok, neB]; rfl
    unfold ssQ
    rw [q_if, t]; rfl
  have t2 : ∀ d g, mB (mBin (gCmp fun i j => decide (i < j)) (mVar 3) (mBin gIx (mVar 0) (mC (.int 0)))) (ssS mn gs bs vs (some (.int (k : Int))) d g) = .ok (decide ((k : Int) < mn)) := fun d g => rfl
  by_cases h : (k : Int) < mn
  · refine ⟨some (.bool (vs.getD k false)), g, ?_⟩
    unfold ssB
    rw [cutR (ssS mn gs bs vs (some (.int (k : Int))) d g) (by rw [q_if, t1]; rfl) rfl, cutR (ssS mn gs bs vs (some (.int (k : Int))) (some (.bool false)) g) (by rfl) rfl]
    refine cutR (ssS mn gs bs vs (some (.int (k : Int))) (some (.bool (vs.getD k false))) g) ?_ (q1 g)
    unfold ssI
    rw [q_if, t2, R.run_ok, decide_eq_true h, if_pos rfl]
    show ((atK (atI (boolsOf bs) (k : Int))).run _ fun d => _) = _
    rw [at_bools (by omega) (by omega), Int.toNat_natCast, ← s3 k (by omega)]; rfl
  · obtain ⟨gt, hg⟩ : ∃ gt, gs[((k : Int) - mn).toNat]? = some gt := ⟨gs[((k : Int) - mn).toNat], List.getElem?_eq_getElem (by omega)⟩
    have hgm := List.mem_of_getElem? hg
    obtain ⟨ki, k1, k2⟩ := gate_kind (m2 gt hgm)
    have ez := kd_find k1
    have hlen : gt.2.1.length ≤ 1000 := by
      unfold planTame at ht
      rw [Bool.and_eq_true, List.all_eq_true] at ht
      have := ht.2 gt hgm
      unfold gateTame at this
      rw [Bool.and_eq_true] at this
      have := of_decide_eq_true this.2
      omega
    have due := s4 _ gt hg
    rw [show (mn + ((((k : Int) - mn).toNat : Nat) : Int)).toNat = k by omega] at due
    refine ⟨some (.bool (vs.getD k false)), some (gateD gt), ?_⟩
    unfold ssB
    rw [cutR (ssS mn gs bs vs (some (.int (k : Int))) d g) (by rw [q_if, t1]; rfl) rfl, cutR (ssS mn gs bs vs (some (.int (k : Int))) (some (.bool false)) g) (by rfl) rfl]
    refine cutR (ssS mn gs bs vs (some (.int (k : Int))) (some (.bool (vs.getD k false))) (some (gateD gt))) ?_ (q1 _)
    unfold ssI
    rw [q_if, t2, R.run_ok, decide_eq_false h, if_neg (by decide)]
    rw [cutR (ssS mn gs bs vs (some (.int (k : Int))) (some (.bool false)) (some (gateD gt))) (by
      show ((atK (atI (gatesD gs) ((k : Int) - mn))).run _ fun d => _) = _
      rw [at_gates (mn := mn) hg (by omega)]; rfl) rfl]
    have lt : ltOk (intsOf gt.2.1).length = true := by rw [ints_len]; exact decide_eq_true (by omega)
    have e5 : mBin gIx (mVar 5) (mC (.int 1)) (ssS mn gs bs vs (some (.int (k : Int))) (some (.bool false)) (some (gateD gt))) = .ok (.tuple (intsOf gt.2.1)) := rfl
    have e50 : mBin gIx (mVar 5) (mC (.int 0)) (ssS mn gs bs vs (some (.int (k : Int))) (some (.bool false)) (some (gateD gt))) = .ok (.str gt.1) := rfl
    have ea : ssE (ssS mn gs bs vs (some (.int (k : Int))) (some (.bool false)) (some (gateD gt))) = .ok (.bool (vs.getD k false)) := by
      unfold ssE
      rw [q_call, q_cons, e50, R.bind_ok, q_cons, q_mL, q_comp, e5, R.bind_ok, q_compT, lt, R.when_true, comp_atB (T := vs) (fun s hsm => rfl) (fun s hsm => by have := err_src (m2 gt hgm) s hsm; omega), R.map_ok, R.bind_ok, q_nil, R.map_ok, R.map_ok, R.bind_ok]
      show (match kindIx gt.1, boolsD (boolsOf (srcsB vs gt.2.1)) with
        | some i, some bs => R.when (arOk i bs.length && decide (gt.1 = kd i)) (R.ok (PyData.bool (ansB i bs)))
        | _, _ => R.bad) = _
      rw [k1, show boolsD (boolsOf (srcsB vs gt.2.1)) = some (srcsB vs gt.2.1) from bools_of ..]
      dsimp only
      rw [show (srcsB vs gt.2.1).length = gt.2.1.length from List.length_map .., k2, decide_eq_true ez.symm, due]
      unfold ansG
      rw [k1]; rfl
    rw [q_set, q_hideN, ea]; rfl
theorem ss_loop (ht : planTame mn gs = true) (he : planErr mn gs = none) (hs : Settled mn gs bs vs) : ∀ (n k : Nat) (l d g : Option D), k + n = vs.length → ∃ l' d' g', loopM (stName 3) ssB ((List.range' k n).map fun (i : Nat) => .int (i : Int)) (ssS mn gs bs vs l d g) = .ok (.nx (ssS mn gs bs vs l' d' g'))
  | 0, k, l, d, g, h => ⟨l, d, g, rfl⟩
  | n + 1, k, l, d, g, h => by
    obtain ⟨d1, g1, body⟩ := ss_body ht he hs (k := k) (by omega) d g
    obtain ⟨l', d', g', ih⟩ := ss_loop ht he hs n (k + 1) (some (.int (k : Int))) d1 g1 (by omega)
    refine ⟨l', d', g', ?_⟩
    rw [List.range'_succ, List.map_cons, loop_nx (by rfl) body]
    exact ih
theorem ss_ok (ht : planTame mn gs = true) (he : planErr mn gs = none) (hs : Settled mn gs bs vs) : fin (ssM [some (planD mn gs), some (.list (boolsOf bs)), some (.list (boolsOf vs)), none, none, none, none]) = .ok (.bool true) := by
  obtain ⟨m0, m1, m2⟩ := err_gates he
  have s1 := hs.1
  unfold ssM
  have t0 : ssT (ssS mn gs bs vs none none none) = .ok false := by
    show (gNe (.int ((boolsOf vs).length : Nat)) (.int (mn + (((gatesD gs).length : Nat) : Int)))).bind boolD = _
    rw [neI, bools_len, gates_map_len, decide_eq_true (by omega)]; rfl
  rw [cutR (ssS mn gs bs vs none none none) (by
    show mIf ssT _ _ (ssS mn gs bs vs none none none) = _
    rw [q_if, t0]; rfl) rfl]
  obtain ⟨l', d', g', h⟩ := ss_loop ht he hs vs.length 0 none none none (by omega)
  have ea : mCons (mCall gLen (mCons (mVar 2) mNil)) mNil (ssS mn gs bs vs none none none) = .ok [.int ((boolsOf vs).length : Nat)] := rfl
  rw [cutR (ssS mn gs bs vs l' d' g') (by
    rw [q_forR, ea, R.run_ok, q_forRK1, bools_len, decide_eq_true (by omega), R.when_true, Int.toNat_natCast]
    unfold rangeD
    rw [List.range_eq_range']
    exact h) rfl]
  rfl
end
end SL
namespace SL
open PySem PySem.Spec PyProof.Rows L2
/-! ## whether a plan has a ring -/
def rgS (mn : Int) (gs : List Gate) (Dn : List Bool) (i : Nat) : List Bool := match gs[i]? with
  | some g => if (!Dn.getD (mn + (i : Int)).toNat false && g.2.1.all fun s => Dn.getD s.toNat false) = true then Dn.set (mn + (i : Int)).toNat true else Dn
  | none => Dn
def rgR (mn : Int) (gs : List Gate) (Dn : List Bool) : List Bool := (List.range gs.length).foldl (rgS mn gs) Dn
def rgN (mn : Int) (gs : List Gate) : Nat → List Bool
  | 0 => doneB mn (mn + gs.length).toNat []
  | n + 1 => rgR mn gs (rgN mn gs n)
theorem rgS_len (mn : Int) (gs : List Gate) (Dn : List Bool) (i : Nat) : (rgS mn gs Dn i).length = Dn.length := by
  unfold rgS
  split
  · split
    · rw [List.length_set]
    · rfl
  · rfl
theorem rgF_len (mn : Int) (gs : List Gate) (is : List Nat) (Dn : List Bool) : (is.foldl (rgS mn gs) Dn).length = Dn.length := by
  induction is generalizing Dn with
  | nil => rfl
  | cons i is ih => rw [List.foldl_cons, ih, rgS_len]
theorem rgN_len (mn : Int) (gs : List Gate) : ∀ n, (rgN mn gs n).length = (mn + gs.length).toNat
  | 0 => doneB_len
  | n + 1 => by
    show (rgR mn gs (rgN mn gs n)).length = _
    unfold rgR
    rw [rgF_len, rgN_len mn gs n]
theorem rgS_mono {mn : Int} {gs : List Gate} {Dn : List Bool} {i l : Nat} (h : Dn.getD l false = true) : (rgS mn gs Dn i).getD l false = true := by
  unfold rgS
  split
  · split
    · rw [List.getD_eq_getElem?_getD, List.getElem?_set]
      by_cases e : (mn + (i : Int)).toNat = l
      · have hl : l < Dn.length := by
          refine Nat.lt_of_not_le fun q => ?_
          rw [List.getD_eq_getElem?_getD, List.getElem?_eq_none q] at h; cases h
        rw [if_pos e, if_pos (by omega)]; rfl
      · rw [if_neg e, ← List.getD_eq_getElem?_getD]; exact h
    · exact h
  · exact h
theorem rgF_mono {mn : Int} {gs : List Gate} {l : Nat} : ∀ (is : List Nat) {Dn : List Bool}, Dn.getD l false = true → (is.foldl (rgS mn gs) Dn).getD l false = true
  | [], _, h => h
  | i :: is, _, h => rgF_mono is (rgS_mono h)
/-- what is done is an input or found -/
def RgIn (mn : Int) (gs : List Gate) (Dn : List Bool) : Prop := ∀ l : Nat, Dn.getD l false = true → (l : Int) < mn ∨ (l : Int) ∈ ordOf mn gs
theorem rgS_in {mn : Int} {gs : List Gate} {Dn : List Bool} {i : Nat} (hok : rdOk mn gs = true) (h : RgIn mn gs Dn) : RgIn mn gs (rgS mn gs Dn i) := by
  unfold rdOk at hok
  rw [Bool.and_eq_true, List.all_eq_true] at hok
  obtain ⟨m0, m1⟩ := of_decide_eq_true hok.1
  unfold rgS
  split
  · rename_i g e
    split
    · rename_i q
      rw [Bool.and_eq_true, List.all_eq_true] at q
      intro l hl
      by_cases el : (mn + (i : Int)).toNat = l
      · right
        refine Classical.byContradiction fun w => ?_
        obtain ⟨s, hs, hm, hn⟩ := ord_left (mn := mn) (by omega) e (by rwa [show mn + (i : Int) = (l : Int) by omega])
        have b := hok.2 g (List.mem_of_getElem? e)
        rw [Bool.and_eq_true, List.all_eq_true] at b
        have sb := of_decide_eq_true (b.2 s hs)
        rcases h s.toNat (q.2 s hs) with z | z
        · omega
        · rw [Int.toNat_of_nonneg sb.1] at z; exact hn z
      · rw [List.getD_eq_getElem?_getD, List.getElem?_set_ne el, ← List.getD_eq_getElem?_getD] at hl
        exact h l hl
    · exact h
  · exact h
theorem rgF_in {mn : Int} {gs : List Gate} (hok : rdOk mn gs = true) : ∀ (is : List Nat) {Dn : List Bool}, RgIn mn gs Dn → RgIn mn gs (is.foldl (rgS mn gs) Dn)
  | [], _, h => h
  | i :: is, _, h => rgF_in hok is (rgS_in hok h)
theorem rgN_in {mn : Int} {gs : List Gate} (hok : rdOk mn gs = true) : ∀ n, RgIn mn gs (rgN mn gs n)
  | 0 => fun l hl => by
    change (doneB mn (mn + gs.length).toNat []).getD l false = true at hl
    by_cases q : l < (mn + gs.length).toNat
    · rw [doneB_getD q] at hl
      exact (of_decide_eq_true hl).imp id fun z => absurd z List.not_mem_nil
    · rw [List.getD_eq_getElem?_getD, List.getElem?_eq_none (by rw [doneB_len]; omega)] at hl; cases hl
  | n + 1 => rgF_in hok _ (rgN_in hok n)
/-- the k-th of the order is done behind the k-th turn -/
theorem rgN_all {mn : Int} {gs : List Gate} (hok : rdOk mn gs = true) : ∀ (n : Nat) (l : Nat), l < (mn + gs.length).toNat → ((l : Int) < mn ∨ (l : Int) ∈ (ordOf mn gs).take n) → (rgN mn gs n).getD l false = true
  | 0, l, hl, h => by
    change (doneB mn (mn + gs.length).toNat []).getD l false = true
    rw [doneB_getD hl]
    exact decide_eq_true (h.imp id fun z => absurd z (by rw [List.take_zero]; exact List.not_mem_nil))
  | n + 1, l, hl, h => by
    have ih := rgN_all hok n
    have hok2 := hok
    unfold rdOk at hok2
    rw [Bool.and_eq_true, List.all_eq_true] at hok2
    obtain ⟨m0, m1⟩ := of_decide_eq_true hok2.1
    change (rgR mn gs (rgN mn gs n)).getD l false = true
    unfold rgR
    by_cases old : (l : Int) < mn ∨ (l : Int) ∈ (ordOf mn gs).take n
    · exact rgF_mono _ (ih l hl old)
    · have hnew : (l : Int) ∈ (ordOf mn gs).take (n + 1) := h.elim (fun q => absurd (.inl q) old) id
      rw [List.take_add_one] at hnew
      rcases List.mem_append.mp hnew with q | q
      · exact absurd (.inr q) old
      · cases hx : (ordOf mn gs)[n]? with
        | none => rw [hx] at q; cases q
        | some x =>
          rw [hx] at q
          have ex : (l : Int) = x := List.mem_singleton.mp q
          obtain ⟨i, g, e1, e2, e3, e4⟩ := (ord_chain mn gs).turn hx
          have hi := (List.getElem?_eq_some_iff.mp e2).1
          -- the turn of i
          have sp : List.range gs.length = List.range i ++ i :: List.range' (i + 1) (gs.length - (i + 1)) := by
            rw [List.range_eq_range', List.range_eq_range', show gs.length = i + (1 + (gs.length - (i + 1))) by omega, ← List.range'_append_1, Nat.zero_add]
            congr 1
            rw [show i + (1 + (gs.length - (i + 1))) - (i + 1) = gs.length - (i + 1) by omega, Nat.add_comm 1, List.range'_succ]
          rw [sp, List.foldl_append, List.foldl_cons]
          refine rgF_mono _ ?_
          generalize hD : (List.range i).foldl (rgS mn gs) (rgN mn gs n) = Dn
          have len : Dn.length = (mn + gs.length).toNat := by rw [← hD, rgF_len, rgN_len]
          have was : ∀ s ∈ g.2.1, Dn.getD s.toNat false = true := fun s hs => by
            have b := hok2.2 g (List.mem_of_getElem? e2)
            rw [Bool.and_eq_true, List.all_eq_true] at b
            have sb := of_decide_eq_true (b.2 s hs)
            rw [← hD]
            refine rgF_mono _ (ih s.toNat (by omega) ?_)
            rw [Int.toNat_of_nonneg sb.1]
            rcases Int.lt_or_le s mn with z | z
            · exact .inl z
            · exact .inr (e4 s hs z)
          unfold rgS
          rw [e2]
          dsimp only
          have ei : (mn + (i : Int)).toNat = l := by omega
          rw [ei]
          cases z : Dn.getD l false with
          | true => rw [if_neg (by rw [Bool.not_true, Bool.false_and]; decide)]; exact z
          | false =>
            rw [if_pos (by rw [Bool.not_false, Bool.true_and, List.all_eq_true]; exact was), List.getD_eq_getElem?_getD, List.getElem?_set_self (by rw [len]; exact hl)]; rfl
theorem ringed_iff {mn : Int} {gs : List Gate} (hok : rdOk mn gs = true) : (rgN mn gs gs.length).all id = (ordErr mn gs).isNone := by
  have hok2 := hok
  unfold rdOk at hok2
  rw [Bool.and_eq_true] at hok2
  obtain ⟨m0, m1⟩ := of_decide_eq_true hok2.1
  rw [Bool.eq_iff_iff, List.all_eq_true]
  constructor
  · intro h
    have all : ∀ i : Nat, i < gs.length → mn + (i : Int) ∈ ordOf mn gs := fun i hi => by
      have hl : (mn + (i : Int)).toNat < (rgN mn gs gs.length).length := by rw [rgN_len]; omega
      have := h _ (List.getElem_mem hl)
      have := rgN_in hok gs.length (mn + (i : Int)).toNat (by rw [List.getD_eq_getElem?_getD, List.getElem?_eq_getElem hl]; exact this)
      rw [Int.toNat_of_nonneg (by omega)] at this
      exact this.elim (fun q => by omega) id
    have := all_lines all
    unfold ordErr
    rw [if_neg (by omega)]; rfl
  · intro h b hb
    have ho : ordErr mn gs = none := Option.isNone_iff_eq_none.mp h
    obtain ⟨l, hl, rfl⟩ := List.mem_iff_getElem.mp hb
    have hl2 := hl
    rw [rgN_len] at hl2
    have := rgN_all hok gs.length l hl2 (by
      rcases Int.lt_or_le (l : Int) mn with z | z
      · exact .inl z
      · right
        have few := (ord_chain mn gs).few
        rw [List.take_of_length_le few]
        have := none_all ho ((l : Int) - mn).toNat (by omega)
        rwa [show mn + ((((l : Int) - mn).toNat : Nat) : Int) = (l : Int) by omega] at this)
    rw [List.getD_eq_getElem?_getD, List.getElem?_eq_getElem hl] at this
    exact this
def g_ringed : List D → R D
  | [d] => match toPlan d with
    | some (mn, gs) => R.when (rdOk mn gs) (.ok (.bool (ordErr mn gs).isSome))
    | none => .bad
  | _ => .bad
theorem ringed_ev {mn : Int} {gs : List Gate} (h : rdOk mn gs = true) : g_ringed [planD mn gs] = .ok (.bool (ordErr mn gs).isSome) := by
  show (match toPlan (planD mn gs) with
    | some (mn, gs) => R.when (rdOk mn gs) (R.ok (PyData.bool (ordErr mn gs).isSome))
    | none => R.bad) = _
  rw [toPlan_of]
  dsimp only
  rw [h]; rfl
/-! ### the machine's way to it -/
def rgA : DS → R D := (mCall gAll (mCons (mL (mComp [4] 4 (mBin gIx (mBin gIx (mBin gIx (mVar 0) (mC (.int 1))) (mBin gSubI (mVar 2) (mBin gIx (mVar 0) (mC (.int 0))))) (mC (.int 1))) mYes (mBin gIx (mVar 1) (mVar 4)))) mNil))
def rgB : DS → R Out := (mIf (mAnd (mNot (mB (mBin gIx (mVar 1) (mVar 2)))) (mB rgA)) (mSetAt [1] 1 (mC (.bool true)) (mVar 2)) mSkip)
def rgI : DS → R Out := (mForR (mCons (mBin gIx (mVar 0) (mC (.int 0))) (mCons (mCall gLen (mCons (mVar 1) mNil)) mNil)) (stName 2) rgB)
def rgC : DS → R (List D) := (mCompR [2] 2 (mCons (mBin gAdd (mBin gIx (mVar 0) (mC (.int 0))) (mCall gLen (mCons (mBin gIx (mVar 0) (mC (.int 1))) mNil))) mNil) mYes (mBin (gCmp fun i j => decide (i < j)) (mVar 2) (mBin gIx (mVar 0) (mC (.int 0)))))
def rgM : DS → R Out := (mSeq (mOwn [1] 1 rgC)
    (mSeq (mForR (mCons (mCall gLen (mCons (mBin gIx (mVar 0) (mC (.int 1))) mNil)) mNil) (stName 3) rgI)
    (mRet (mNotE (mCall gAll (mCons (mVar 1) mNil))))))
def rgZ (mn : Int) (gs : List Gate) (Dn : List Bool) (l t : Option D) : DS := [some (planD mn gs), some (.list (boolsOf Dn)), l, t, none]
section
variable {mn : Int} {gs : List Gate} {Dn : List Bool}
theorem rg_body (hok : rdOk mn gs = true) (hb : Dn.length = (mn + gs.length).toNat) {k : Nat} (hk : k < gs.length) (t : Option D) : rgB (rgZ mn gs Dn (some (.int (mn + (k : Int)))) t) = .ok (.nx (rgZ mn gs (rgS mn gs Dn k) (some (.int (mn + (k : Int)))) t)) := by
  have hok2 := hok
  unfold rdOk at hok2
  rw [Bool.and_eq_true, List.all_eq_true] at hok2
  obtain ⟨m0, m1⟩ := of_decide_eq_true hok2.1
  obtain ⟨g, hg⟩ : ∃ g, gs[k]? = some g := ⟨gs[k], List.getElem?_eq_getElem hk⟩
  have hgo := hok2.2 g (List.mem_of_getElem? hg)
  rw [Bool.and_eq_true, List.all_eq_true] at hgo
  have big : (1000 : Nat) < sizeLine := by decide
  have t1 : mB (mBin gIx (mVar 1) (mVar 2)) (rgZ mn gs Dn (some (.int (mn + (k : Int)))) t) = .ok (Dn.getD (mn + (k : Int)).toNat false) := by
    show ((atK (atI (boolsOf Dn) (mn + (k : Int)))).bind boolD) = _
    rw [at_bools (by omega) (by omega)]; rfl
  have lt : ltOk (intsOf g.2.1).length = true := by rw [ints_len]; exact decide_eq_true (by have := of_decide_eq_true hgo.1; omega)
  have t2 : mB rgA (rgZ mn gs Dn (some (.int (mn + (k : Int)))) t) = .ok (g.2.1.all fun s => Dn.getD s.toNat false) := by
    have e : mBin gIx (mBin gIx (mBin gIx (mVar 0) (mC (.int 1))) (mBin gSubI (mVar 2) (mBin gIx (mVar 0) (mC (.int 0))))) (mC (.int 1)) (rgZ mn gs Dn (some (.int (mn + (k : Int)))) t) = .ok (.tuple (intsOf g.2.1)) := by
      show ((atK (atI (gatesD gs) (mn + (k : Int) - mn))).bind fun y => gIx y (.int 1)) = _
      rw [at_gates (mn := mn) hg (by omega)]; rfl
    unfold rgA
    rw [q_B, q_call, q_cons, q_mL, q_comp, e, R.bind_ok, q_compT, lt, R.when_true, comp_atB (T := Dn) (fun s hsm => rfl) (fun s hsm => by have := of_decide_eq_true (hgo.2 s hsm); omega), R.map_ok, R.bind_ok, q_nil, R.map_ok, R.bind_ok, g_all, show boolsD (boolsOf (srcsB Dn g.2.1)) = some (srcsB Dn g.2.1) from bools_of .., g_allK, R.bind_ok, q_boolD]
    unfold srcsB
    rw [List.all_map]; rfl
  unfold rgB rgS
  rw [hg, q_if, q_and, q_not, t1, R.map_ok, R.bind_ok, t2]
  dsimp only
  cases z : Dn.getD (mn + (k : Int)).toNat false with
  | true => rfl
  | false =>
    cases z2 : (g.2.1.all fun s => Dn.getD s.toNat false) with
    | false => rfl
    | true =>
      show putK' 1 (boolsOf Dn) _ (.bool true) (ixN (boolsOf Dn).length (mn + (k : Int))) = _
      rw [bools_len, ix_in (by omega) (by omega), q_putK, bools_set]; rfl
theorem rg_inner (hok : rdOk mn gs = true) (t : Option D) : ∀ (n k : Nat) (Dn : List Bool) (l : Option D), Dn.length = (mn + gs.length).toNat → k + n = gs.length → ∃ l', loopM (stName 2) rgB ((List.range' k n).map fun (i : Nat) => .int (mn + (i : Int))) (rgZ mn gs Dn l t) = .ok (.nx (rgZ mn gs ((List.range' k n).foldl (rgS mn gs) Dn) l' t))
  | 0, k, Dn, l, hb, h => ⟨l, rfl⟩
  | n + 1, k, Dn, l, hb, h => by
    obtain ⟨l', ih⟩ := rg_inner hok t n (k + 1) (rgS mn gs Dn k) (some (.int (mn + (k : Int)))) (by rw [rgS_len]; exact hb) (by omega)
    refine ⟨l', ?_⟩
    rw [List.range'_succ, List.map_cons, loop_nx (by rfl) (rg_body hok hb (by omega) t), List.foldl_cons]
    exact ih
theorem rg_turn (hok : rdOk mn gs = true) (t : Option D) (l : Option D) (hb : Dn.length = (mn + gs.length).toNat) : ∃ l', rgI (rgZ mn gs Dn l t) = .ok (.nx (rgZ mn gs (rgR mn gs Dn) l' t)) := by
  have hok2 := hok
  unfold rdOk at hok2
  rw [Bool.and_eq_true] at hok2
  obtain ⟨m0, m1⟩ := of_decide_eq_true hok2.1
  obtain ⟨l', h⟩ := rg_inner hok t gs.length 0 Dn l hb (by omega)
  refine ⟨l', ?_⟩
  unfold rgI rgR
  show R.when (decide (-(2 ^ 62) ≤ mn ∧ mn < 2 ^ 62 ∧ -(2 ^ 62) ≤ (((boolsOf Dn).length : Nat) : Int) ∧ (((boolsOf Dn).length : Nat) : Int) < 2 ^ 62)) (loopM (stName 2) rgB ((List.range ((((boolsOf Dn).length : Nat) : Int) - mn).toNat).map fun (i : Nat) => .int (mn + (i : Int))) _) = _
  rw [bools_len, decide_eq_true (by omega), R.when_true, show ((Dn.length : Int) - mn).toNat = gs.length by omega, List.range_eq_range']
  exact h
theorem rg_outer (hok : rdOk mn gs = true) : ∀ (n k : Nat) (l t : Option D), ∃ l' t', loopM (stName 3) rgI ((List.range' k n).map fun (i : Nat) => .int (i : Int)) (rgZ mn gs (rgN mn gs k) l t) = .ok (.nx (rgZ mn gs (rgN mn gs (k + n)) l' t'))
  | 0, k, l, t => ⟨l, t, rfl⟩
  | n + 1, k, l, t => by
    obtain ⟨l1, body⟩ := rg_turn hok (some (.int (k : Int))) l (rgN_len mn gs k)
    obtain ⟨l', t', ih⟩ := rg_outer hok n (k + 1) l1 (some (.int (k : Int)))
    refine ⟨l', t', ?_⟩
    rw [List.range'_succ, List.map_cons, loop_nx (by rfl) body, show k + (n + 1) = k + 1 + n by omega]
    exact ih
theorem rg_ok (hok : rdOk mn gs = true) : fin (rgM [some (planD mn gs), none, none, none, none]) = .ok (.bool (ordErr mn gs).isSome) := by
  have hok2 := hok
  unfold rdOk at hok2
  rw [Bool.and_eq_true] at hok2
  obtain ⟨m0, m1⟩ := of_decide_eq_true hok2.1
  have big : (1000 : Nat) < sizeLine := by decide
  unfold rgM
  have ec : rgC [some (planD mn gs), none, none, none, none] = .ok (boolsOf (rgN mn gs 0)) := by
    unfold rgC
    show (R.when (decide (-(2 ^ 62) ≤ mn + (((gatesD gs).length : Nat) : Int) ∧ (mn + (((gatesD gs).length : Nat) : Int)).toNat < sizeLine)) (compM 2 mYes _ [some (planD mn gs), none, none, none, none] (rangeD (mn + (((gatesD gs).length : Nat) : Int)).toNat))) = _
    rw [gates_map_len, decide_eq_true (by omega), R.when_true, comp_range (f := fun i => .bool (decide ((i : Int) < mn))) fun i hi => rfl]
    have : (List.range (mn + (gs.length : Int)).toNat).map (fun (i : Nat) => (.bool (decide ((i : Int) < mn)) : D)) = boolsOf (doneB mn (mn + gs.length).toNat []) := by
      unfold doneB boolsOf
      rw [List.map_map]
      refine List.map_congr_left fun i _ => ?_
      show (.bool (decide ((i : Int) < mn)) : D) = .bool (decide ((i : Int) < mn ∨ (i : Int) ∈ ([] : List Int)))
      simp
    rw [this]; rfl
  rw [cutR (rgZ mn gs (rgN mn gs 0) none none) (by
    show ((rgC [some (planD mn gs), none, none, none, none]).run _ fun ds => _) = _
    rw [ec]; rfl) rfl]
  obtain ⟨l', t', h⟩ := rg_outer hok gs.length 0 none none
  rw [Nat.zero_add] at h
  rw [cutR (rgZ mn gs (rgN mn gs gs.length) l' t') (by
    have ea : mCons (mCall gLen (mCons (mBin gIx (mVar 0) (mC (.int 1))) mNil)) mNil (rgZ mn gs (rgN mn gs 0) none none) = .ok [.int ((gatesD gs).length : Nat)] := rfl
    rw [q_forR, ea, R.run_ok, q_forRK1, gates_map_len, decide_eq_true (by omega), R.when_true, Int.toNat_natCast]
    unfold rangeD
    rw [List.range_eq_range']
    exact h) rfl]
  show fin (((((allK (boolsD (boolsOf (rgN mn gs gs.length)))).bind _)).run _ fun d => R.ok (Out.rt d))) = _
  rw [show boolsD (boolsOf (rgN mn gs gs.length)) = some (rgN mn gs gs.length) from bools_of .., g_allK, ringed_iff hok]
  cases ordErr mn gs <;> rfl
end
end SL
namespace SL
open PySem PySem.Spec PyProof.Rows L2
theorem foldmax_ge (ns : List Int) (n : Int) : n ≤ ns.foldl max n := by
  induction ns generalizing n with
  | nil => exact Int.le_refl _
  | cons x r ih => exact Int.le_trans (Int.le_max_left n x) (ih _)
theorem maxL_nn {xs : List Int} (h : ∀ x ∈ xs, 0 ≤ x) : 0 ≤ maxL xs := by
  cases xs with
  | nil => exact Int.le_refl _
  | cons n ns => exact Int.le_trans (h n List.mem_cons_self) (foldmax_ge ns n)
theorem maxL_fold {xs : List Int} (h : ∀ x ∈ xs, 0 ≤ x) : xs.foldl max 0 = maxL xs := by
  cases xs with
  | nil => rfl
  | cons n ns =>
    show ns.foldl max (max 0 n) = ns.foldl max n
    rw [Int.max_eq_right (h n List.mem_cons_self)]
theorem getD_nn {T : List Int} (h : ∀ x ∈ T, 0 ≤ x) (n : Nat) : 0 ≤ T.getD n 0 := by
  rw [List.getD_eq_getElem?_getD]
  cases q : T[n]? with
  | none => exact Int.le_refl _
  | some x => exact h x (List.mem_of_getElem? q)
theorem stepT_nn {mn : Int} {gs : List Gate} {T : List Int} {x : Int} (hd : ∀ g ∈ gs, 0 ≤ g.2.2) (h : ∀ x ∈ T, 0 ≤ x) : ∀ y ∈ stepT mn gs T x, 0 ≤ y := by
  unfold stepT
  split
  · rename_i g e
    split
    · exact h
    · intro y hy
      rcases List.mem_or_eq_of_mem_set hy with q | q
      · exact h y q
      · rw [q]
        unfold dueT
        split
        · exact Int.le_refl _
        · have h1 := hd g (List.mem_of_getElem? e)
          have h2 := maxL_nn (xs := srcsT T g) fun z hz => by
            unfold srcsT at hz
            obtain ⟨s, _, rfl⟩ := List.mem_map.mp hz
            exact getD_nn h _
          omega
  · exact h
theorem timesOf_nn {mn : Int} {gs : List Gate} (hd : ∀ g ∈ gs, 0 ≤ g.2.2) (F : List Int) : ∀ y ∈ timesOf mn gs F, 0 ≤ y := by
  unfold timesOf
  generalize hT : List.replicate (mn + gs.length).toNat (0 : Int) = T
  have h0 : ∀ y ∈ T, 0 ≤ y := fun y hy => by
    rw [← hT] at hy
    rw [(List.mem_replicate.mp hy).2]; exact Int.le_refl _
  clear hT
  induction F generalizing T with
  | nil => exact h0
  | cons x r ih => exact ih _ (stepT_nn hd h0)
/-- what a line's late time is -/
def dueAt (mn : Int) (gs : List Gate) (T : List Int) (l : Nat) : Int := if mn ≤ (l : Int) then (match gs[((l : Int) - mn).toNat]? with
  | some g => dueT T g
  | none => 0) else 0
theorem late_due {mn : Int} {gs : List Gate} (h0 : 0 ≤ mn) (hs : ∀ g ∈ gs, ∀ s ∈ g.2.1, 0 ≤ s) (hall : ∀ i : Nat, i < gs.length → mn + (i : Int) ∈ ordOf mn gs) (l : Nat) : (lateOf mn gs).getD l 0 = dueAt mn gs (lateOf mn gs) l := by
  obtain ⟨t1, t2⟩ := times_due h0 hs (ord_chain mn gs) (ordOf mn gs).length (Nat.le_refl _)
  rw [List.take_length] at t1 t2
  unfold dueAt
  by_cases h : mn ≤ (l : Int)
  · rw [if_pos h]
    cases q : gs[((l : Int) - mn).toNat]? with
    | none =>
      refine t2 l fun w => ?_
      have := (ord_chain mn gs).range w
      have := List.getElem?_eq_none_iff.mp q
      omega
    | some g =>
      have hi := (List.getElem?_eq_some_iff.mp q).1
      have := t1 _ g q (hall _ hi)
      rwa [show (mn + ((((l : Int) - mn).toNat : Nat) : Int)).toNat = l by omega] at this
  · rw [if_neg h]
    refine t2 l fun w => ?_
    have := (ord_chain mn gs).range w
    omega
theorem take_fold {T : List Int} {k : Nat} (h : k < T.length) : (T.take (k + 1)).foldl max 0 = max ((T.take k).foldl max 0) (T.getD k 0) := by
  have e := List.getElem?_eq_getElem h
  rw [List.take_add_one, e, List.foldl_append, List.getD_eq_getElem?_getD, e]; rfl
theorem max2_ev (i j : Int) : gMax2 [.int i, .int j] = .ok (.int (max i j)) := by
  show R.ok (PyData.int (if j > i then j else i)) = _
  congr 2
  rw [Int.max_def]
  split <;> split <;> omega
end SL
namespace SL
open PySem PySem.Spec PyProof.Rows L2
/-! ## late times, found turn by turn -/
def ltD (L : List Int) (Dn : List Bool) (l : Nat) : D := if Dn.getD l false = true then .int (L.getD l 0) else .none
def lbD (L : List Int) (Dn : List Bool) : List D := (List.range Dn.length).map (ltD L Dn)
theorem lbD_len (L : List Int) (Dn : List Bool) : (lbD L Dn).length = Dn.length := by unfold lbD; rw [List.length_map, List.length_range]
theorem at_lb {L : List Int} {Dn : List Bool} {k : Int} (h0 : 0 ≤ k) (h : k < Dn.length) : atI (lbD L Dn) k = some (ltD L Dn k.toNat) := by
  unfold atI
  rw [ix_in h0 (by rw [lbD_len]; exact h)]
  show (lbD L Dn)[k.toNat]? = _
  unfold lbD
  rw [List.getElem?_map, List.getElem?_range (by omega)]; rfl
theorem lb_set {L : List Int} {Dn : List Bool} {k : Nat} (h : k < Dn.length) : (lbD L Dn).set k (.int (L.getD k 0)) = lbD L (Dn.set k true) := by
  refine List.ext_getElem? fun i => ?_
  rw [List.getElem?_set, lbD_len]
  unfold lbD
  rw [List.getElem?_map, List.getElem?_map, List.length_set]
  rcases Nat.lt_or_ge i Dn.length with q | q
  · rw [List.getElem?_range q]
    unfold ltD
    by_cases e : k = i
    · subst e
      rw [if_pos rfl, if_pos h]
      show _ = some (if (Dn.set k true).getD k false = true then _ else _)
      rw [List.getD_eq_getElem?_getD (l := Dn.set k true), List.getElem?_set_self h]; rfl
    · rw [if_neg e]
      show some (if Dn.getD i false = true then _ else _) = some (if (Dn.set k true).getD i false = true then _ else _)
      rw [List.getD_eq_getElem?_getD (l := Dn.set k true), List.getElem?_set_ne e, ← List.getD_eq_getElem?_getD]
  · rw [List.getElem?_eq_none (by rw [List.length_range]; omega)]
    by_cases e : k = i
    · omega
    · rw [if_neg e]; rfl
theorem set_set {α : Type} (xs : List α) (k : Nat) (a b : α) : (xs.set k a).set k b = xs.set k b := List.set_set ..
theorem eqv_nn : PyData.eqv .none .none = true := by unfold PyData.eqv; rfl
theorem eqv_in (i : Int) : PyData.eqv (.int i) .none = false := by unfold PyData.eqv; rfl
/-- None is not among the given -/
theorem none_in {L : List Int} {Dn : List Bool} (ss : List Int) : gInA true .none (.list (ss.map fun s => ltD L Dn s.toNat)) = .ok (.bool (ss.all fun s => Dn.getD s.toNat false)) := by
  have f : (ss.map fun s => ltD L Dn s.toNat).all flatD = true := by
    rw [List.all_map, List.all_eq_true]
    intro s _
    show flatD (ltD L Dn s.toNat) = true
    unfold ltD
    split <;> rfl
  have e : gIn true .none (.list (ss.map fun s => ltD L Dn s.toNat)) = .ok (.bool (ss.all fun s => Dn.getD s.toNat false)) := by
    show R.when (flatD .none && (ss.map fun s => ltD L Dn s.toNat).all flatD) (R.ok (PyData.bool (!(ss.map fun s => ltD L Dn s.toNat).any fun y => PyData.eqv y .none))) = _
    rw [f]
    have : (!(ss.map fun s => ltD L Dn s.toNat).any fun y => PyData.eqv y .none) = ss.all fun s => Dn.getD s.toNat false := by
      induction ss with
      | nil => rfl
      | cons s ss ih =>
        rw [List.map_cons, List.any_cons, List.all_cons, Bool.not_or, ih (by
          rw [List.map_cons, List.all_cons, Bool.and_eq_true] at f; exact f.2)]
        congr 1
        unfold ltD
        split
        · rename_i q
          rw [eqv_in, q]; rfl
        · rename_i q
          rw [eqv_nn, Bool.not_eq_true] at *
          rw [q]; rfl
    rw [this]; rfl
  show (match gIn true .none (.list (ss.map fun s => ltD L Dn s.toNat)) with
    | .bad => _
    | z => z) = _
  rw [e]
theorem imms_lt {L : List Int} {Dn : List Bool} (ss : List Int) : imms (ss.map fun s => ltD L Dn s.toNat) = true := by
  rw [imms_all, List.all_map, List.all_eq_true]
  intro s _
  show imm (ltD L Dn s.toNat) = true
  unfold ltD
  split <;> rfl
theorem lts_all {L : List Int} {Dn : List Bool} {ss : List Int} (h : (ss.all fun s => Dn.getD s.toNat false) = true) : (ss.map fun s => ltD L Dn s.toNat) = intsOf (ss.map fun s => L.getD s.toNat 0) := by
  unfold intsOf
  rw [List.map_map]
  refine List.map_congr_left fun s hs => ?_
  show (if Dn.getD s.toNat false = true then _ else _) = _
  rw [if_pos (List.all_eq_true.mp h s hs)]; rfl
def g_lateby : List D → R (List D)
  | [d] => match toPlan d with
    | some (mn, gs) => R.when (rdOk mn gs && decide (ordErr mn gs = none)) (.ok (intsOf (lateOf mn gs)))
    | none => .bad
  | _ => .bad
theorem lateby_ev {mn : Int} {gs : List Gate} (h : rdOk mn gs = true) (ho : ordErr mn gs = none) : g_lateby [planD mn gs] = .ok (intsOf (lateOf mn gs)) := by
  show (match toPlan (planD mn gs) with
    | some (mn, gs) => R.when (rdOk mn gs && decide (ordErr mn gs = none)) (R.ok (intsOf (lateOf mn gs)))
    | none => R.bad) = _
  rw [toPlan_of]
  dsimp only
  rw [h, decide_eq_true ho]; rfl
/-! ### the machine's way to it -/
def lbV : DS → R Out := (mIf (mB (mBin (gCmp fun i j => decide (j < i)) (mCall gLen (mCons (mVar 5) mNil)) (mC (.int 0)))) (mSetAt [1] 1 (mBin gAdd (mBin gIx (mVar 4) (mC (.int 2))) (mCall gMaxL (mCons (mVar 5) mNil))) (mVar 3)) mSkip)
def lbU : DS → R Out := (mSeq (mSetAt [1] 1 (mC (.int 0)) (mVar 3)) lbV)
def lbI : DS → R Out := (mIf (mAnd (mB (mBin (gIsN false) (mBin gIx (mVar 1) (mVar 3)) (mC .none))) (mB (mBin (gInA true) (mC .none) (mVar 5)))) lbU mSkip)
def lbC : DS → R (List D) := (mComp [6] 6 (mBin gIx (mVar 4) (mC (.int 1))) mYes (mBin gIx (mVar 1) (mVar 6)))
def lbB2 : DS → R Out := (mSeq (mSetNI 5 lbC) lbI)
def lbB : DS → R Out := (mSeq (mSet [1] 4 (mBin gIx (mBin gIx (mVar 0) (mC (.int 1))) (mBin gSubI (mVar 3) (mBin gIx (mVar 0) (mC (.int 0)))))) lbB2)
def lbT : DS → R Out := (mForR (mCons (mBin gIx (mVar 0) (mC (.int 0))) (mCons (mCall gLen (mCons (mVar 1) mNil)) mNil)) (stName 3) lbB)
def lbN : DS → R (List D) := (mCatL (mL (mRep (mLst (mCons (mC (.int 0)) mNil)) (mBin gIx (mVar 0) (mC (.int 0))))) (mL (mRep (mLst (mCons (mC .none) mNil)) (mCall gLen (mCons (mBin gIx (mVar 0) (mC (.int 1))) mNil)))))
def lb1 : DS → R Out := (mSeq (mForR (mCons (mCall gLen (mCons (mBin gIx (mVar 0) (mC (.int 1))) mNil)) mNil) (stName 2) lbT) (mRetO 1))
def lbM : DS → R Out := (mSeq (mOwn [1] 1 lbN) lb1)
def lbZ (mn : Int) (gs : List Gate) (L : List Int) (Dn : List Bool) (t l g v : Option D) : DS := [some (planD mn gs), some (.list (lbD L Dn)), t, l, g, v, none]
section
variable {mn : Int} {gs : List Gate} {Dn : List Bool}
theorem lb_body (hok : rdOk mn gs = true) (ho : ordErr mn gs = none) (hb : Dn.length = (mn + gs.length).toNat) {k : Nat} (hk : k < gs.length) (t g v : Option D) : ∃ g' v', lbB (lbZ mn gs (lateOf mn gs) Dn t (some (.int (mn + (k : Int)))) g v) = .ok (.nx (lbZ mn gs (lateOf mn gs) (rgS mn gs Dn k) t (some (.int (mn + (k : Int)))) g' v')) := by
  have hok2 := hok
  unfold rdOk at hok2
  rw [Bool.and_eq_true, List.all_eq_true] at hok2
  obtain ⟨m0, m1⟩ := of_decide_eq_true hok2.1
  have hall := none_all ho
  have hs0 : ∀ g ∈ gs, ∀ s ∈ g.2.1, 0 ≤ s := fun g hg s hs => by
    have := hok2.2 g hg
    rw [Bool.and_eq_true, List.all_eq_true] at this
    exact (of_decide_eq_true (this.2 s hs)).1
  have due := fun l => late_due m0 hs0 hall l
  obtain ⟨gt, hg⟩ : ∃ g, gs[k]? = some g := ⟨gs[k], List.getElem?_eq_getElem hk⟩
  have hgo := hok2.2 gt (List.mem_of_getElem? hg)
  rw [Bool.and_eq_true, List.all_eq_true] at hgo
  have big : (1000 : Nat) < sizeLine := by decide
  have duek : (lateOf mn gs).getD (mn + (k : Int)).toNat 0 = dueT (lateOf mn gs) gt := by
    rw [due]
    unfold dueAt
    rw [if_pos (by omega), show ((((mn + (k : Int)).toNat : Nat) : Int) - mn).toNat = k by omega, hg]
  have hs : ∀ s ∈ gt.2.1, 0 ≤ s ∧ s < Dn.length := fun s hs => by
    have := of_decide_eq_true (hgo.2 s hs)
    omega
  revert due duek
  generalize lateOf mn gs = L
  intro due duek
  refine ⟨some (gateD gt), some (.list (gt.2.1.map fun s => ltD L Dn s.toNat)), ?_⟩
  unfold lbB
  rw [cutR (lbZ mn gs L Dn t (some (.int (mn + (k : Int)))) (some (gateD gt)) v) (by
    show ((atK (atI (gatesD gs) (mn + (k : Int) - mn))).run _ fun d => _) = _
    rw [at_gates (mn := mn) hg (by omega)]; rfl) rfl]
  unfold lbB2
  rw [cutR (lbZ mn gs L Dn t (some (.int (mn + (k : Int)))) (some (gateD gt)) (some (.list (gt.2.1.map fun s => ltD L Dn s.toNat)))) (by
    have lt : ltOk (intsOf gt.2.1).length = true := by rw [ints_len]; exact decide_eq_true (by have := of_decide_eq_true hgo.1; omega)
    have ec : lbC (lbZ mn gs L Dn t (some (.int (mn + (k : Int)))) (some (gateD gt)) v) = .ok (gt.2.1.map fun s => ltD L Dn s.toNat) := by
      have e4 : mBin gIx (mVar 4) (mC (.int 1)) (lbZ mn gs L Dn t (some (.int (mn + (k : Int)))) (some (gateD gt)) v) = .ok (.tuple (intsOf gt.2.1)) := rfl
      unfold lbC
      rw [q_comp, e4, R.bind_ok, q_compT, lt, R.when_true, comp_map (f := fun d => match d with
        | .int s => ltD L Dn s.toNat
        | d => d) fun x hx => ?_]
      · congr 1
        unfold intsOf
        rw [List.map_map]; rfl
      · unfold intsOf at hx
        obtain ⟨s, hsm, rfl⟩ := List.mem_map.mp hx
        show atK (atI (lbD L Dn) s) = _
        rw [at_lb (hs s hsm).1 (hs s hsm).2]; rfl
    rw [q_setNI, ec, R.run_ok, imms_lt]; rfl) rfl]
  have t1 : mB (mBin (gIsN false) (mBin gIx (mVar 1) (mVar 3)) (mC .none)) (lbZ mn gs L Dn t (some (.int (mn + (k : Int)))) (some (gateD gt)) (some (.list (gt.2.1.map fun s => ltD L Dn s.toNat)))) = .ok (!Dn.getD (mn + (k : Int)).toNat false) := by
    show ((atK (atI (lbD L Dn) (mn + (k : Int)))).bind fun u => gIsN false u .none).bind boolD = _
    rw [at_lb (by omega) (by omega), g_atK, R.bind_ok]
    unfold ltD
    cases Dn.getD (mn + (k : Int)).toNat false <;> rfl
  have t2 : mB (mBin (gInA true) (mC .none) (mVar 5)) (lbZ mn gs L Dn t (some (.int (mn + (k : Int)))) (some (gateD gt)) (some (.list (gt.2.1.map fun s => ltD L Dn s.toNat)))) = .ok (gt.2.1.all fun s => Dn.getD s.toNat false) := by
    show (gInA true .none (.list (gt.2.1.map fun s => ltD L Dn s.toNat))).bind boolD = _
    rw [none_in]; rfl
  unfold lbI
  rw [q_if, q_and, t1, R.bind_ok, t2]
  unfold rgS
  rw [hg]
  dsimp only
  cases z : Dn.getD (mn + (k : Int)).toNat false with
  | true => rfl
  | false =>
    cases z2 : (gt.2.1.all fun s => Dn.getD s.toNat false) with
    | false => rfl
    | true =>
      rw [Bool.not_false, if_pos rfl, R.run_ok, if_pos rfl, Bool.and_self, if_pos rfl]
      unfold lbU
      rw [cutR ([some (planD mn gs), some (.list ((lbD L Dn).set (mn + (k : Int)).toNat (.int 0))), t, some (.int (mn + (k : Int))), some (gateD gt), some (.list (gt.2.1.map fun s => ltD L Dn s.toNat)), none]) (by
        show putK' 1 (lbD L Dn) _ (.int 0) (ixN (lbD L Dn).length (mn + (k : Int))) = _
        rw [lbD_len, ix_in (by omega) (by omega), q_putK]; rfl) rfl]
      unfold lbV
      have hl : (gt.2.1.map fun s => ltD L Dn s.toNat).length = gt.2.1.length := List.length_map ..
      rw [q_if, show mB (mBin (gCmp fun i j => decide (j < i)) (mCall gLen (mCons (mVar 5) mNil)) (mC (.int 0))) ([some (planD mn gs), some (.list ((lbD L Dn).set (mn + (k : Int)).toNat (.int 0))), t, some (.int (mn + (k : Int))), some (gateD gt), some (.list (gt.2.1.map fun s => ltD L Dn s.toNat)), none]) = .ok (decide ((0 : Int) < ((gt.2.1.map fun s => ltD L Dn s.toNat).length : Int))) from rfl, hl, R.run_ok]
      by_cases h0 : gt.2.1 = []
      · have d0 : dueT L gt = 0 := by unfold dueT; rw [if_pos h0]
        have sl := lb_set (L := L) (Dn := Dn) (k := (mn + (k : Int)).toNat) (by omega)
        rw [duek, d0] at sl
        rw [show gt.2.1.length = 0 from by rw [h0]; rfl, decide_eq_false (by decide), if_neg (by decide)]
        unfold lbZ
        rw [← sl]; rfl
      · have hpos : 0 < gt.2.1.length := List.length_pos_iff.mpr h0
        rw [decide_eq_true (by omega), if_pos rfl]
        have ne2 : gt.2.1.map (fun s => L.getD s.toNat 0) ≠ [] := fun q => h0 (List.map_eq_nil_iff.mp q)
        have em : gMaxL [.list (gt.2.1.map fun s => ltD L Dn s.toNat)] = .ok (.int (maxL (srcsT L gt))) := by
          rw [lts_all z2]; exact maxL_ev ne2
        have ev : (mBin gAdd (mBin gIx (mVar 4) (mC (.int 2))) (mCall gMaxL (mCons (mVar 5) mNil))) (hideD [1] ([some (planD mn gs), some (.list ((lbD L Dn).set (mn + (k : Int)).toNat (.int 0))), t, some (.int (mn + (k : Int))), some (gateD gt), some (.list (gt.2.1.map fun s => ltD L Dn s.toNat)), none])) = .ok (.int (dueT L gt)) := by
          show (gMaxL [.list (gt.2.1.map fun s => ltD L Dn s.toNat)]).bind (fun y => gAdd (.int gt.2.2) y) = _
          rw [em]
          unfold dueT
          rw [if_neg h0]; rfl
        rw [q_setAt]
        show ((mBin gAdd (mBin gIx (mVar 4) (mC (.int 2))) (mCall gMaxL (mCons (mVar 5) mNil))) (hideD [1] ([some (planD mn gs), some (.list ((lbD L Dn).set (mn + (k : Int)).toNat (.int 0))), t, some (.int (mn + (k : Int))), some (gateD gt), some (.list (gt.2.1.map fun s => ltD L Dn s.toNat)), none]))).run _ (fun d => _) = _
        rw [ev, R.run_ok]
        show putK' 1 ((lbD L Dn).set (mn + (k : Int)).toNat (.int 0)) _ (.int (dueT L gt)) (ixN ((lbD L Dn).set (mn + (k : Int)).toNat (.int 0)).length (mn + (k : Int))) = _
        rw [List.length_set, lbD_len, ix_in (by omega) (by omega), q_putK, set_set, ← duek, lb_set (by omega)]; rfl
theorem lb_inner (hok : rdOk mn gs = true) (ho : ordErr mn gs = none) (t : Option D) : ∀ (n k : Nat) (Dn : List Bool) (l g v : Option D), Dn.length = (mn + gs.length).toNat → k + n = gs.length → ∃ l' g' v', loopM (stName 3) lbB ((List.range' k n).map fun (i : Nat) => .int (mn + (i : Int))) (lbZ mn gs (lateOf mn gs) Dn t l g v) = .ok (.nx (lbZ mn gs (lateOf mn gs) ((List.range' k n).foldl (rgS mn gs) Dn) t l' g' v'))
  | 0, k, Dn, l, g, v, hb, h => ⟨l, g, v, rfl⟩
  | n + 1, k, Dn, l, g, v, hb, h => by
    obtain ⟨g1, v1, body⟩ := lb_body hok ho hb (k := k) (by omega) t g v
    obtain ⟨l', g', v', ih⟩ := lb_inner hok ho t n (k + 1) (rgS mn gs Dn k) (some (.int (mn + (k : Int)))) g1 v1 (by rw [rgS_len]; exact hb) (by omega)
    refine ⟨l', g', v', ?_⟩
    rw [List.range'_succ, List.map_cons, loop_nx (by rfl) body, List.foldl_cons]
    exact ih
theorem lb_turn (hok : rdOk mn gs = true) (ho : ordErr mn gs = none) (t l g v : Option D) (hb : Dn.length = (mn + gs.length).toNat) : ∃ l' g' v', lbT (lbZ mn gs (lateOf mn gs) Dn t l g v) = .ok (.nx (lbZ mn gs (lateOf mn gs) (rgR mn gs Dn) t l' g' v')) := by
  have hok2 := hok
  unfold rdOk at hok2
  rw [Bool.and_eq_true] at hok2
  obtain ⟨m0, m1⟩ := of_decide_eq_true hok2.1
  obtain ⟨l', g', v', h⟩ := lb_inner hok ho t gs.length 0 Dn l g v hb (by omega)
  refine ⟨l', g', v', ?_⟩
  unfold lbT rgR
  have ea : mCons (mBin gIx (mVar 0) (mC (.int 0))) (mCons (mCall gLen (mCons (mVar 1) mNil)) mNil) (lbZ mn gs (lateOf mn gs) Dn t l g v) = .ok [.int mn, .int ((lbD (lateOf mn gs) Dn).length : Nat)] := rfl
  rw [q_forR, ea, R.run_ok, lbD_len]
  show R.when (decide (-(2 ^ 62) ≤ mn ∧ mn < 2 ^ 62 ∧ -(2 ^ 62) ≤ ((Dn.length : Nat) : Int) ∧ ((Dn.length : Nat) : Int) < 2 ^ 62)) (loopM (stName 3) lbB ((List.range (((Dn.length : Nat) : Int) - mn).toNat).map fun (i : Nat) => .int (mn + (i : Int))) _) = _
  rw [decide_eq_true (by omega), R.when_true, show ((Dn.length : Int) - mn).toNat = gs.length by omega, List.range_eq_range']
  exact h
theorem lb_outer (hok : rdOk mn gs = true) (ho : ordErr mn gs = none) : ∀ (n k : Nat) (t l g v : Option D), ∃ t' l' g' v', loopM (stName 2) lbT ((List.range' k n).map fun (i : Nat) => .int (i : Int)) (lbZ mn gs (lateOf mn gs) (rgN mn gs k) t l g v) = .ok (.nx (lbZ mn gs (lateOf mn gs) (rgN mn gs (k + n)) t' l' g' v'))
  | 0, k, t, l, g, v => ⟨t, l, g, v, rfl⟩
  | n + 1, k, t, l, g, v => by
    obtain ⟨l1, g1, v1, body⟩ := lb_turn hok ho (some (.int (k : Int))) l g v (rgN_len mn gs k)
    obtain ⟨t', l', g', v', ih⟩ := lb_outer hok ho n (k + 1) (some (.int (k : Int))) l1 g1 v1
    refine ⟨t', l', g', v', ?_⟩
    rw [List.range'_succ, List.map_cons, loop_nx (by rfl) body, show k + (n + 1) = k + 1 + n by omega]
    exact ih
theorem lateOf_len : (lateOf mn gs).length = (mn + gs.length).toNat := timesOf_len _
theorem lb_ok (hok : rdOk mn gs = true) (ho : ordErr mn gs = none) : finL (lbM [some (planD mn gs), none, none, none, none, none, none]) = .ok (intsOf (lateOf mn gs)) := by
  have hok2 := hok
  unfold rdOk at hok2
  rw [Bool.and_eq_true, List.all_eq_true] at hok2
  obtain ⟨m0, m1⟩ := of_decide_eq_true hok2.1
  have big : (1000 : Nat) < sizeLine := by decide
  have hs0 : ∀ g ∈ gs, ∀ s ∈ g.2.1, 0 ≤ s := fun g hg s hs => by
    have := hok2.2 g hg
    rw [Bool.and_eq_true, List.all_eq_true] at this
    exact (of_decide_eq_true (this.2 s hs)).1
  have due := fun l => late_due m0 hs0 (none_all ho) l
  unfold lbM
  have e1 : mRep (mLst (mCons (mC (.int 0)) mNil)) (mBin gIx (mVar 0) (mC (.int 0))) [some (planD mn gs), none, none, none, none, none, none] = .ok (List.replicate mn.toNat (.int 0)) := by
    show R.when (repOk 1 mn) (R.ok (List.replicate mn.toNat [(.int 0 : D)]).flatten) = _
    rw [show repOk 1 mn = true from decide_eq_true ⟨by omega, by omega, by omega⟩, R.when_true]
    congr 1
    generalize mn.toNat = n
    induction n with
    | zero => rfl
    | succ n ih => rw [List.replicate_succ, List.flatten_cons, ih]; rfl
  have e2 : mRep (mLst (mCons (mC .none) mNil)) (mCall gLen (mCons (mBin gIx (mVar 0) (mC (.int 1))) mNil)) [some (planD mn gs), none, none, none, none, none, none] = .ok (List.replicate gs.length .none) := by
    have e4 : mCall gLen (mCons (mBin gIx (mVar 0) (mC (.int 1))) mNil) [some (planD mn gs), none, none, none, none, none, none] = .ok (.int ((gatesD gs).length : Nat)) := rfl
    have e3 : mLst (mCons (mC .none) mNil) [some (planD mn gs), none, none, none, none, none, none] = .ok [.none] := rfl
    rw [q_repK, e3, R.bind_ok, e4, R.bind_ok, q_repI, gates_map_len, show repOk ([(.none : D)]).length (gs.length : Int) = true from decide_eq_true ⟨by omega, by omega, by rw [Int.toNat_natCast]; rw [show ([(.none : D)]).length = 1 from rfl]; omega⟩, R.when_true, Int.toNat_natCast]
    congr 1
    generalize gs.length = n
    induction n with
    | zero => rfl
    | succ n ih => rw [List.replicate_succ, List.flatten_cons, ih]; rfl
  have ec : lbN [some (planD mn gs), none, none, none, none, none, none] = .ok (lbD (lateOf mn gs) (rgN mn gs 0)) := by
    unfold lbN
    rw [q_mcat, q_mL, e1, R.map_ok, R.bind_ok, q_mL, e2, R.map_ok, R.bind_ok, g_catL, sz_of' (by rw [List.length_replicate, List.length_replicate]; omega), R.when_true]
    refine congrArg R.ok (List.ext_getElem? fun i => ?_)
    unfold lbD
    rw [List.getElem?_map, rgN_len]
    show _ = Option.map (ltD (lateOf mn gs) (doneB mn (mn + gs.length).toNat [])) _
    rcases Nat.lt_or_ge i mn.toNat with q | q
    · rw [List.getElem?_append_left (by rw [List.length_replicate]; exact q), List.getElem?_replicate, if_pos q, List.getElem?_range (by omega)]
      show _ = some (ltD _ _ i)
      unfold ltD
      rw [doneB_getD (by omega), decide_eq_true (.inl (by omega)), if_pos rfl, due]
      unfold dueAt
      rw [if_neg (by omega)]
    · rw [List.getElem?_append_right (by rw [List.length_replicate]; exact q), List.length_replicate, List.getElem?_replicate]
      rcases Nat.lt_or_ge i (mn + gs.length).toNat with q2 | q2
      · rw [if_pos (by omega), List.getElem?_range q2]
        show _ = some (ltD _ _ i)
        unfold ltD
        rw [doneB_getD q2, decide_eq_false (fun z => z.elim (fun z => by omega) (fun z => absurd z List.not_mem_nil)), if_neg (by decide)]
      · rw [if_neg (by omega), List.getElem?_eq_none (by rw [List.length_range]; omega)]; rfl
  rw [cutR (lbZ mn gs (lateOf mn gs) (rgN mn gs 0) none none none none) (by
    rw [q_own]
    show ((lbN [some (planD mn gs), none, none, none, none, none, none]).run _ fun ds => _) = _
    rw [ec]; rfl) rfl]
  unfold lb1
  obtain ⟨t', l', g', v', h⟩ := lb_outer hok ho gs.length 0 none none none none
  rw [Nat.zero_add] at h
  rw [cutR (lbZ mn gs (lateOf mn gs) (rgN mn gs gs.length) t' l' g' v') (by
    have ea : mCons (mCall gLen (mCons (mBin gIx (mVar 0) (mC (.int 1))) mNil)) mNil (lbZ mn gs (lateOf mn gs) (rgN mn gs 0) none none none none) = .ok [.int ((gatesD gs).length : Nat)] := rfl
    rw [q_forR, ea, R.run_ok, q_forRK1, gates_map_len, decide_eq_true (by omega), R.when_true, Int.toNat_natCast]
    unfold rangeD
    rw [List.range_eq_range']
    exact h) rfl]
  have full : lbD (lateOf mn gs) (rgN mn gs gs.length) = intsOf (lateOf mn gs) := by
    have ha := ringed_iff hok
    rw [ho, show (none : Option Nat).isNone = true from rfl, List.all_eq_true] at ha
    refine List.ext_getElem? fun i => ?_
    unfold lbD intsOf
    rw [List.getElem?_map, List.getElem?_map, rgN_len]
    rcases Nat.lt_or_ge i (mn + gs.length).toNat with q | q
    · rw [List.getElem?_range q]
      show some (ltD _ _ i) = _
      unfold ltD
      have hl : i < (rgN mn gs gs.length).length := by rw [rgN_len]; exact q
      have hl2 : i < (lateOf mn gs).length := by rw [lateOf_len]; exact q
      rw [List.getD_eq_getElem?_getD, List.getElem?_eq_getElem hl, show ((some ((rgN mn gs gs.length)[i])).getD false) = true from ha _ (List.getElem_mem hl), if_pos rfl, List.getD_eq_getElem?_getD, List.getElem?_eq_getElem hl2]; rfl
    · rw [List.getElem?_eq_none (by rw [List.length_range]; omega), List.getElem?_eq_none (by rw [lateOf_len]; omega)]; rfl
  have er : mRetO 1 (lbZ mn gs (lateOf mn gs) (rgN mn gs gs.length) t' l' g' v') = .ok (.rl (lbD (lateOf mn gs) (rgN mn gs gs.length))) := rfl
  rw [er, full]; rfl
end
end SL
namespace L2
open PySem PySem.Spec PyProof.Rows
section
variable {X : Cx} {Y : Wy} {O : List Nat}
/-! ## x = own[e] if test else y: an element of an owned list is kept -/
def elK (i : Nat) (ds : List D) (δ : DS) : D → R Out
  | .int k => match atI ds k with
    | some d => R.when (inB i δ) (.ok (.nx (δ.set i (some d))))
    | none => .bad
  | _ => .bad
def mSetEl (O : List Nat) (i j k : Nat) (mt : DS → R Bool) (m1 : DS → R D) : DS → R Out := fun δ => (mt δ).run δ fun b => if b = true then (ownedL j δ).bind fun ds => (m1 δ).run δ (elK i ds δ) else match (hideD O δ)[k]? with
  | some (some d) => R.when (inB i δ) (.ok (.nx (δ.set i (some d))))
  | _ => .bad
theorem ds_setEl {i j k : Nat} {x y z : Str} {cnd e1 : Expr} {mt : DS → R Bool} {m1 : DS → R D} {q1 q2 q3 q4 q5 q6 : Pos} (hN : X.N.Nodup) (hi : X.N[i]? = some x) (hx : Loc X.env.scope x) (hj : X.N[j]? = some y) (hvj : Vis X.env.scope y) (hk : X.N[k]? = some z) (hvk : Vis X.env.scope z)
    (ht : DT X Y cnd mt) (h1 : DE X Y e1 m1) (ho : i ∉ O := by decide) (hjo : j ∈ O := by decide)
    (hs : swapsWith (.IfExp cnd (.Subscript (.Name y q2) e1 q3) (.Name z q4) q5) (some (.Name x q1)) q6.line X.env = pure false := by rfl) (hf : X.fn x = true ∨ X.env.scope.names.lookup x = some .local := by first | exact .inl rfl | exact .inr rfl | assumption) (hp : PlainIx e1 := by exact fun _ _ => rfl)
    (hdj : (y == ("__debug__" : Str)) = false := by decide) (hcj : (y == ("__classdict__" : Str)) = false := by decide) (hdk : (z == ("__debug__" : Str)) = false := by decide) (hck : (z == ("__classdict__" : Str)) = false := by decide) :
    DSt X Y O (.Assign [.Name x q1] (.IfExp cnd (.Subscript (.Name y q2) e1 q3) (.Name z q4) q5) q6) (mSetEl O i j k mt m1) := by
  obtain ⟨tt, pt, qt⟩ := ht
  obtain ⟨t1, p1, qq1⟩ := h1
  refine ⟨_, ps_set hN hi hx (pe_ifExp pt (pe_ix ix_any (pe_var hj hvj hdj hcj) p1 hp) (pe_var hk hvk hdk hck)) hs hf, fun A0 T H0 σ δ H Dn s w => ?_⟩
  obtain ⟨w0, cv, sr, up, kp, tm, lst, own, mt2⟩ := s.share
  refine qt σ δ H _ s.covH s.read _ ?_
  unfold mSetEl at w
  cases e : mt δ with
  | bad => rw [e] at w; exact w
  | ex n => rw [e] at w; exact fun H' t => w σ H' (s.keep t)
  | ok b =>
    rw [e] at w
    dsimp only [R.run] at w
    refine fun H1 t1 => ?_
    cases b with
    | true =>
      rw [if_pos rfl] at w
      cases e0 : ownedL j δ with
      | bad => rw [e0] at w; exact w.elim
      | ex n => unfold ownedL at e0; split at e0 <;> cases e0
      | ok ds =>
        rw [e0] at w
        have ei := ownedL_ok e0
        replace w : WpS X.K Y A0 O T H0 ((m1 δ).run δ (elK i ds δ)) Dn := w
        refine ⟨_, (mt2 j ds [] [] H1 hjo ei t1 .nil).1, qq1 σ δ H1 _ (s.covH.mono t1) (s.read.mono t1) _ ?_⟩
        cases e2 : m1 δ with
        | bad => rw [e2] at w; exact w
        | ex n => rw [e2] at w; exact fun H' t => w σ H' (s.keep (t1.trans t))
        | ok d1 =>
          rw [e2] at w
          replace w : WpS X.K Y A0 O T H0 (elK i ds δ d1) Dn := w
          intro v H2 t2 r2
          unfold elK at w
          cases r2 with
          | int kk =>
            dsimp only at w
            cases e3 : atI ds kk with
            | none => rw [e3] at w; exact w.elim
            | some d =>
              rw [e3] at w
              obtain ⟨hb, w⟩ := R.when_ok (fun r => WpS X.K Y A0 O T H0 r Dn) w id
              obtain ⟨f1, ⟨vs, f2, f3⟩, _⟩ := mt2 j ds [] [] H2 hjo ei (t1.trans t2) .nil
              obtain ⟨v, g1, g2⟩ := dp_atI f3 e3
              exact .inl ⟨_, vs, kk, v, rfl, rfl, SqL.of f2, g1, w _ H2 (up i v d H2 ho (by rw [s.len]; exact of_decide_eq_true hb) (t1.trans t2) g2)⟩
          | _ => exact w.elim
    | false =>
      rw [if_neg (by decide)] at w
      cases e3 : (hideD O δ)[k]? with
      | none => rw [e3] at w; exact w.elim
      | some o =>
        cases o with
        | none => rw [e3] at w; exact w.elim
        | some d =>
          rw [e3] at w
          obtain ⟨hb, w⟩ := R.when_ok (fun r => WpS X.K Y A0 O T H0 r Dn) w id
          obtain ⟨v, g1, g2⟩ := sr.1 k d e3
          exact ⟨v, g1, w _ H1 (up i v d H1 ho (by rw [s.len]; exact of_decide_eq_true hb) t1 (Dp.same (Same.mask t1) g2))⟩
end
end L2
namespace SL
open PySem PySem.Spec PyProof.Rows L2
/-! ## time by time -/
def rowsBD (rs : List (List Bool)) : List D := rs.map fun r => .list (boolsOf r)
def rowsB : List D → Option (List (List Bool))
  | [] => some []
  | .list xs :: r => match boolsD xs, rowsB r with
    | some b, some q => some (b :: q)
    | _, _ => none
  | _ => none
theorem rowsB_of (rs : List (List Bool)) : rowsB (rowsBD rs) = some rs := by
  induction rs with
  | nil => rfl
  | cons r rs ih =>
    show (match boolsD (boolsOf r), rowsB (rowsBD rs) with
      | some b, some q => some (b :: q)
      | _, _ => none) = _
    rw [ih, show boolsD (boolsOf r) = some r from bools_of ..]
theorem rowsB_inv : ∀ {xs : List D} {rs : List (List Bool)}, rowsB xs = some rs → xs = rowsBD rs
  | [], rs, h => by cases h; rfl
  | d :: xs, rs, h => by
    cases d with
    | list ds =>
      unfold rowsB at h
      split at h
      · rename_i b q e1 e2
        cases h
        rw [bools_inv e1, rowsB_inv e2]; rfl
      · cases h
    | _ => cases h
theorem rowsBD_len (rs : List (List Bool)) : (rowsBD rs).length = rs.length := List.length_map ..
theorem at_rowsB {S : List (List Bool)} {k : Int} (h0 : 0 ≤ k) (h : k < S.length) : atI (rowsBD S) k = some (.list (boolsOf (S.getD k.toNat []))) := by
  unfold atI
  rw [ix_in h0 (by rw [rowsBD_len]; exact h)]
  show (rowsBD S)[k.toNat]? = _
  unfold rowsBD
  rw [List.getElem?_map, List.getElem?_eq_getElem (by omega), List.getD_eq_getElem?_getD, List.getElem?_eq_getElem (by omega)]; rfl
/-- the row that a gate with this delay looks at -/
def srcRow (begin : List Bool) (S : List (List Bool)) (d : Int) : List Bool := if d ≤ S.length then S.getD (S.length - d).toNat [] else begin
def nextRow (gs : List Gate) (begin : List Bool) (S : List (List Bool)) (row : List Bool) : List Bool := row ++ gs.map fun g => ansG (srcRow begin S g.2.2) g
def stepsF (gs : List Gate) (begin : List Bool) (S rows : List (List Bool)) : List (List Bool) := rows.foldl (fun S row => S ++ [nextRow gs begin S row]) S
def stepsOf (gs : List Gate) (begin : List Bool) (rows : List (List Bool)) : List (List Bool) := stepsF gs begin [] rows
theorem nextRow_len (gs : List Gate) (begin : List Bool) (S : List (List Bool)) (row : List Bool) : (nextRow gs begin S row).length = row.length + gs.length := by
  unfold nextRow; rw [List.length_append, List.length_map]
def g_stepped : List D → R (List D)
  | [d, .list bd, .list rd] => match toPlan d, boolsD bd, rowsB rd with
    | some (mn, gs), some bs, some rs => R.when (planTame mn gs && decide (bs.length ≤ 1000 ∧ rs.length ≤ 1000) && rs.all fun r => decide (r.length ≤ 1000)) (errR (planErr mn gs) (if (bs.length : Int) = mn + gs.length ∧ (rs.all fun r => decide ((r.length : Int) = mn)) = true then .ok (rowsBD (stepsOf gs bs rs)) else .ex 5))
    | _, _, _ => .bad
  | _ => .bad
theorem stepped_ev {mn : Int} {gs : List Gate} {bs : List Bool} {rs : List (List Bool)} (ht : planTame mn gs = true) (h1 : bs.length ≤ 1000) (h2 : rs.length ≤ 1000) (h3 : ∀ r ∈ rs, r.length ≤ 1000) : g_stepped [planD mn gs, .list (boolsOf bs), .list (rowsBD rs)] = errR (planErr mn gs) (if (bs.length : Int) = mn + gs.length ∧ (rs.all fun r => decide ((r.length : Int) = mn)) = true then .ok (rowsBD (stepsOf gs bs rs)) else .ex 5) := by
  show (match toPlan (planD mn gs), boolsD (boolsOf bs), rowsB (rowsBD rs) with
    | some (mn, gs), some bs, some rs => R.when (planTame mn gs && decide (bs.length ≤ 1000 ∧ rs.length ≤ 1000) && rs.all fun r => decide (r.length ≤ 1000)) (errR (planErr mn gs) (if (bs.length : Int) = mn + gs.length ∧ (rs.all fun r => decide ((r.length : Int) = mn)) = true then R.ok (rowsBD (stepsOf gs bs rs)) else R.ex 5))
    | _, _, _ => R.bad) = _
  rw [toPlan_of, show boolsD (boolsOf bs) = some bs from bools_of .., rowsB_of]
  dsimp only
  rw [ht, decide_eq_true ⟨h1, h2⟩, show (rs.all fun r => decide (r.length ≤ 1000)) = true from List.all_eq_true.mpr fun r hr => decide_eq_true (h3 r hr)]; rfl
/-! ### the machine's way to it -/
def stE : DS → R D := (mCall g_answer (mCons (mVar 10) (mCons (mL (mComp [14] 14 (mVar 11) mYes (mBin gIx (mVar 13) (mVar 14)))) mNil)))
def stG : DS → R Out := (mSeq (mSetEl [7, 9] 13 7 1 (mB (mBin (gCmp fun i j => decide (i ≤ j)) (mVar 12) (mVar 8))) (mBin gSubI (mVar 8) (mVar 12)))
    (mApp [7, 9] 9 stE))
def stW : DS → R Out := (mGive 9 (mApp [7] 7 (mVar 9)))
def stR2 : DS → R Out := (mSeq (mFor [7, 9] (mVar 5) (stTri 10 11 12) stG) stW)
def stR : DS → R Out := (mSeq (mOwn [7, 9] 9 (mCallN gList (mCons (mVar 6) mNil))) stR2)
def stC : DS → R Out := (mDrop (mCall g_checkvalues (mCons (mVar 6) (mCons (mVar 4) mNil))))
def st6 : DS → R Out := (mSeq (mForE [7, 9] (mVar 2) (stPair 8 6) stR) (mRetO 7))
def st5 : DS → R Out := (mSeq (mOwn [7, 9] 7 (mLst mNil)) st6)
def st4 : DS → R Out := (mSeq (mFor [7, 9] (mVar 2) (stName 6) stC) st5)
def st3 : DS → R Out := (mSeq (mDrop (mCall g_checkvalues (mCons (mVar 1) (mCons (mVar 3) mNil)))) st4)
def st2 : DS → R Out := (mSeq (mAsg [7, 9] (stPair 4 5) (mVar 0)) st3)
def stM : DS → R Out := (mSeq (mSet [7, 9] 3 (mCall g_checked (mCons (mVar 0) mNil))) st2)
def stS (mn : Int) (gs : List Gate) (bs : List Bool) (rs S : List (List Bool)) (r n v a b c t : Option D) : DS := [some (planD mn gs), some (.list (boolsOf bs)), some (.list (rowsBD rs)), some (.int (mn + (gs.length : Int))), some (.int mn), some (.list (gatesD gs)), r, some (.list (rowsBD S)), n, v, a, b, c, t, none]
section
variable {mn : Int} {gs : List Gate} {bs : List Bool} {rs S : List (List Bool)}
theorem st_gate {g : Gate} {row vals : List Bool} {n : Nat} {t : Option D} (hn : S.length = n) (hS : ∀ s ∈ S, s.length = (mn + gs.length).toNat) (hb : bs.length = (mn + gs.length).toNat) (hlen : g.2.1.length ≤ 1000) (hd : 1 ≤ g.2.2) (hv : vals.length ≤ 1000) (hg : gateErr (mn + gs.length) g = none) :
    ∃ t', stG (stS mn gs bs rs S (some (.list (boolsOf row))) (some (.int (n : Int))) (some (.list (boolsOf vals))) (some (.str g.1)) (some (.tuple (intsOf g.2.1))) (some (.int g.2.2)) t) = .ok (.nx (stS mn gs bs rs S (some (.list (boolsOf row))) (some (.int (n : Int))) (some (.list (boolsOf (vals ++ [ansG (srcRow bs S g.2.2) g]))) ) (some (.str g.1)) (some (.tuple (intsOf g.2.1))) (some (.int g.2.2)) t')) := by
  have big : (1000 : Nat) < sizeLine := by decide
  obtain ⟨ki, k1, k2⟩ := gate_kind hg
  have hT : (srcRow bs S g.2.2).length = (mn + gs.length).toNat := by
    unfold srcRow
    split
    · rw [List.getD_eq_getElem?_getD, List.getElem?_eq_getElem (by omega)]
      exact hS _ (List.getElem_mem _)
    · exact hb
  have hs : ∀ s ∈ g.2.1, 0 ≤ s ∧ s < (srcRow bs S g.2.2).length := fun s hs => by
    have := err_src hg s hs
    rw [hT]; omega
  refine ⟨some (.list (boolsOf (srcRow bs S g.2.2))), ?_⟩
  unfold stG
  rw [cutR (stS mn gs bs rs S (some (.list (boolsOf row))) (some (.int (n : Int))) (some (.list (boolsOf vals))) (some (.str g.1)) (some (.tuple (intsOf g.2.1))) (some (.int g.2.2)) (some (.list (boolsOf (srcRow bs S g.2.2))))) (by
    unfold mSetEl
    have et : mB (mBin (gCmp fun i j => decide (i ≤ j)) (mVar 12) (mVar 8)) (stS mn gs bs rs S (some (.list (boolsOf row))) (some (.int (n : Int))) (some (.list (boolsOf vals))) (some (.str g.1)) (some (.tuple (intsOf g.2.1))) (some (.int g.2.2)) t) = .ok (decide (g.2.2 ≤ (n : Int))) := rfl
    rw [et, R.run_ok]
    by_cases q : g.2.2 ≤ (n : Int)
    · rw [decide_eq_true q, if_pos rfl]
      show elK 13 (rowsBD S) _ (.int ((n : Int) - g.2.2)) = _
      unfold elK
      dsimp only
      rw [at_rowsB (by omega) (by omega)]
      dsimp only
      unfold srcRow
      rw [if_pos (by omega), hn]; rfl
    · rw [decide_eq_false q, if_neg (by decide)]
      unfold srcRow
      rw [if_neg (by omega)]; rfl) rfl]
  have lt : ltOk (intsOf g.2.1).length = true := by rw [ints_len]; exact decide_eq_true (by omega)
  have ea : ∀ v, stE (hideD [7, 9] (stS mn gs bs rs S (some (.list (boolsOf row))) (some (.int (n : Int))) v (some (.str g.1)) (some (.tuple (intsOf g.2.1))) (some (.int g.2.2)) (some (.list (boolsOf (srcRow bs S g.2.2)))))) = .ok (.bool (ansG (srcRow bs S g.2.2) g)) := fun v => by
    generalize hδ : hideD [7, 9] (stS mn gs bs rs S (some (.list (boolsOf row))) (some (.int (n : Int))) v (some (.str g.1)) (some (.tuple (intsOf g.2.1))) (some (.int g.2.2)) (some (.list (boolsOf (srcRow bs S g.2.2))))) = δ
    have e11 : mVar 11 δ = .ok (.tuple (intsOf g.2.1)) := by rw [← hδ]; rfl
    have e10 : mVar 10 δ = .ok (.str g.1) := by rw [← hδ]; rfl
    have e13 : ∀ x, mBin gIx (mVar 13) (mVar 14) ((wipeD δ [14]).set 14 (some (.int x))) = atK (atI (boolsOf (srcRow bs S g.2.2)) x) := fun x => by rw [← hδ]; rfl
    unfold stE
    rw [q_call, q_cons, e10, R.bind_ok, q_cons, q_mL, q_comp, e11, R.bind_ok, q_compT, lt, R.when_true, comp_atB (T := srcRow bs S g.2.2) (fun s hsm => e13 s) hs, R.map_ok, R.bind_ok, q_nil, R.map_ok, R.map_ok, R.bind_ok, answer_ev k1 (by unfold srcsB; rw [List.length_map]; exact k2)]
    unfold ansG
    rw [k1]; rfl
  show ((stE (hideD [7, 9] (stS mn gs bs rs S (some (.list (boolsOf row))) (some (.int (n : Int))) (some (.list (boolsOf vals))) (some (.str g.1)) (some (.tuple (intsOf g.2.1))) (some (.int g.2.2)) (some (.list (boolsOf (srcRow bs S g.2.2))))))).run _ fun d => R.when (ltOk (boolsOf vals).length) _) = _
  rw [ea, R.run_ok, bools_len, show ltOk vals.length = true from decide_eq_true (by omega), R.when_true]
  show R.ok (Out.nx (stS mn gs bs rs S _ _ (some (.list (boolsOf vals ++ [.bool (ansG (srcRow bs S g.2.2) g)]))) _ _ _ _)) = _
  rw [show boolsOf vals ++ [.bool (ansG (srcRow bs S g.2.2) g)] = boolsOf (vals ++ [ansG (srcRow bs S g.2.2) g]) by unfold boolsOf; rw [List.map_append]; rfl]
theorem st_inner {row : List Bool} {n : Nat} (hn : S.length = n) (hS : ∀ s ∈ S, s.length = (mn + gs.length).toNat) (hb : bs.length = (mn + gs.length).toNat) (hgs : ∀ g ∈ gs, g.2.1.length ≤ 1000 ∧ 1 ≤ g.2.2 ∧ gateErr (mn + gs.length) g = none) (hr : row.length + gs.length ≤ 1000) : ∀ (m k : Nat) (a b c t : Option D), k + m = gs.length →
    ∃ a' b' c' t', loopM (stTri 10 11 12) stG (gatesD (gs.drop k)) (stS mn gs bs rs S (some (.list (boolsOf row))) (some (.int (n : Int))) (some (.list (boolsOf (row ++ (gs.take k).map fun g => ansG (srcRow bs S g.2.2) g)))) a b c t) = .ok (.nx (stS mn gs bs rs S (some (.list (boolsOf row))) (some (.int (n : Int))) (some (.list (boolsOf (nextRow gs bs S row)))) a' b' c' t'))
  | 0, k, a, b, c, t, h => ⟨a, b, c, t, by
    rw [List.drop_eq_nil_of_le (by omega), List.take_of_length_le (by omega)]; rfl⟩
  | m + 1, k, a, b, c, t, h => by
    obtain ⟨g, hg⟩ : ∃ g, gs[k]? = some g := ⟨gs[k], List.getElem?_eq_getElem (by omega)⟩
    obtain ⟨q1, q2, q3⟩ := hgs g (List.mem_of_getElem? hg)
    have dr : gs.drop k = g :: gs.drop (k + 1) := take_next hg
    have tk : gs.take (k + 1) = gs.take k ++ [g] := by rw [List.take_add_one, hg]; rfl
    obtain ⟨t1, body⟩ := st_gate (rs := rs) (row := row) (vals := row ++ (gs.take k).map fun g => ansG (srcRow bs S g.2.2) g) (t := t) hn hS hb q1 q2 (by rw [List.length_append, List.length_map, List.length_take]; omega) q3
    rw [List.append_assoc, show ((gs.take k).map fun g => ansG (srcRow bs S g.2.2) g) ++ [ansG (srcRow bs S g.2.2) g] = (gs.take (k + 1)).map fun g => ansG (srcRow bs S g.2.2) g by rw [tk, List.map_append]; rfl] at body
    obtain ⟨a', b', c', t', ih⟩ := st_inner hn hS hb hgs hr m (k + 1) (some (.str g.1)) (some (.tuple (intsOf g.2.1))) (some (.int g.2.2)) t1 (by omega)
    refine ⟨a', b', c', t', ?_⟩
    rw [dr]
    show loopM (stTri 10 11 12) stG (gateD g :: gatesD (gs.drop (k + 1))) _ = _
    rw [loop_nx (by rfl) body]
    exact ih
theorem st_row {row : List Bool} {n : Nat} {v a b c t : Option D} (hn : S.length = n) (hS : ∀ s ∈ S, s.length = (mn + gs.length).toNat) (hb : bs.length = (mn + gs.length).toNat) (hgs : ∀ g ∈ gs, g.2.1.length ≤ 1000 ∧ 1 ≤ g.2.2 ∧ gateErr (mn + gs.length) g = none) (hr : row.length + gs.length ≤ 1000) (hn2 : n ≤ 1000) :
    ∃ v' a' b' c' t', stR (stS mn gs bs rs S (some (.list (boolsOf row))) (some (.int (n : Int))) v a b c t) = .ok (.nx (stS mn gs bs rs (S ++ [nextRow gs bs S row]) (some (.list (boolsOf row))) (some (.int (n : Int))) v' a' b' c' t')) := by
  have big : (1000 : Nat) < sizeLine := by decide
  obtain ⟨a', b', c', t', h⟩ := st_inner (rs := rs) (row := row) hn hS hb hgs hr gs.length 0 a b c t (by omega)
  rw [List.drop_zero, List.take_zero, List.map_nil, List.append_nil] at h
  refine ⟨none, a', b', c', t', ?_⟩
  unfold stR
  rw [cutR (stS mn gs bs rs S (some (.list (boolsOf row))) (some (.int (n : Int))) (some (.list (boolsOf row))) a b c t) (by rfl) rfl]
  unfold stR2
  rw [cutR (stS mn gs bs rs S (some (.list (boolsOf row))) (some (.int (n : Int))) (some (.list (boolsOf (nextRow gs bs S row)))) a' b' c' t') (by
    show loopM (stTri 10 11 12) stG (gatesD gs) _ = _
    exact h) rfl]
  unfold stW
  rw [q_give]
  show (R.when (ltOk (rowsBD S).length) (R.ok (Out.nx (stS mn gs bs rs S _ _ _ _ _ _ _ |>.set 7 (some (.list (rowsBD S ++ [.list (boolsOf (nextRow gs bs S row))]))))))).map (Out.blank 9) = _
  rw [rowsBD_len, show ltOk S.length = true from decide_eq_true (by omega), R.when_true, show rowsBD S ++ [.list (boolsOf (nextRow gs bs S row))] = rowsBD (S ++ [nextRow gs bs S row]) by unfold rowsBD; rw [List.map_append]; rfl]
  rfl
theorem st_outer (hb : bs.length = (mn + gs.length).toNat) (hmn : 0 ≤ mn) (hgs : ∀ g ∈ gs, g.2.1.length ≤ 1000 ∧ 1 ≤ g.2.2 ∧ gateErr (mn + gs.length) g = none) (hm : mn + gs.length ≤ 1000) : ∀ (rows : List (List Bool)) (S : List (List Bool)) (r n v a b c t : Option D), (∀ s ∈ S, s.length = (mn + gs.length).toNat) → (∀ s ∈ rows, (s.length : Int) = mn) → S.length + rows.length ≤ 1000 →
    ∃ r' n' v' a' b' c' t', loopM (stPair 8 6) stR (enumD (S.length : Int) (rowsBD rows)) (stS mn gs bs rs S r n v a b c t) = .ok (.nx (stS mn gs bs rs (stepsF gs bs S rows) r' n' v' a' b' c' t'))
  | [], S, r, n, v, a, b, c, t, _, _, _ => ⟨r, n, v, a, b, c, t, rfl⟩
  | row :: rows, S, r, n, v, a, b, c, t, hS, hr, hl => by
    have h1 := hr row List.mem_cons_self
    rw [List.length_cons] at hl
    obtain ⟨v1, a1, b1, c1, t1, body⟩ := st_row (rs := rs) (row := row) (n := S.length) (v := v) (a := a) (b := b) (c := c) (t := t) rfl hS hb hgs (by omega) (by omega)
    obtain ⟨r', n', v', a', b', c', t', ih⟩ := st_outer hb hmn hgs hm rows (S ++ [nextRow gs bs S row]) (some (.list (boolsOf row))) (some (.int (S.length : Int))) v1 a1 b1 c1 t1 (fun s hs => by
      rcases List.mem_append.mp hs with q | q
      · exact hS s q
      · rw [List.mem_singleton.mp q, nextRow_len]; omega) (fun s hs => hr s (List.mem_cons_of_mem _ hs)) (by rw [List.length_append, List.length_singleton]; omega)
    refine ⟨r', n', v', a', b', c', t', ?_⟩
    show loopM (stPair 8 6) stR (.tuple [.int (S.length : Int), .list (boolsOf row)] :: enumD ((S.length : Int) + 1) (rowsBD rows)) _ = _
    rw [loop_nx (by rfl) body]
    rw [List.length_append, List.length_singleton] at ih
    exact ih
theorem loop_ex {st : D → DS → R DS} {n : DS → R Out} {x : D} {xs : List D} {δ δ1 δ2 : DS} {k : Nat} (h1 : st x δ = .ok δ1) (h2 : n δ1 = .ok (.ex k δ2)) : loopM st n (x :: xs) δ = .ok (.ex k δ2) := by
  unfold loopM; rw [h1]; dsimp only; rw [h2]
theorem st_check6 (hmn : 0 ≤ mn ∧ mn ≤ 1000) : ∀ (rows : List (List Bool)) (r : Option D) (rest : DS), (∀ s ∈ rows, s.length ≤ 1000) → (rows.all fun r => decide ((r.length : Int) = mn)) = true → ∃ r', loopM (stName 6) stC (rowsBD rows) (some (planD mn gs) :: some (.list (boolsOf bs)) :: some (.list (rowsBD rs)) :: some (.int (mn + (gs.length : Int))) :: some (.int mn) :: some (.list (gatesD gs)) :: r :: rest) = .ok (.nx (some (planD mn gs) :: some (.list (boolsOf bs)) :: some (.list (rowsBD rs)) :: some (.int (mn + (gs.length : Int))) :: some (.int mn) :: some (.list (gatesD gs)) :: r' :: rest))
  | [], r, rest, _, _ => ⟨r, rfl⟩
  | row :: rows, r, rest, hl, hr => by
    rw [List.all_cons, Bool.and_eq_true] at hr
    have q := of_decide_eq_true hr.1
    have e : stC (some (planD mn gs) :: some (.list (boolsOf bs)) :: some (.list (rowsBD rs)) :: some (.int (mn + (gs.length : Int))) :: some (.int mn) :: some (.list (gatesD gs)) :: some (.list (boolsOf row)) :: rest) = .ok (.nx (some (planD mn gs) :: some (.list (boolsOf bs)) :: some (.list (rowsBD rs)) :: some (.int (mn + (gs.length : Int))) :: some (.int mn) :: some (.list (gatesD gs)) :: some (.list (boolsOf row)) :: rest)) := by
      show ((if ((boolsOf row).length : Int) = mn then R.ok PyData.none else R.when (decide ((boolsOf row).length ≤ 1000 ∧ 0 ≤ mn ∧ mn ≤ 1000)) (.ex 5) : R D).run _ fun _ => R.ok (Out.nx _)) = _
      rw [bools_len, if_pos q]; rfl
    obtain ⟨r', ih⟩ := st_check6 hmn rows (some (.list (boolsOf row))) rest (fun s hs => hl s (List.mem_cons_of_mem _ hs)) hr.2
    refine ⟨r', ?_⟩
    show loopM (stName 6) stC (.list (boolsOf row) :: rowsBD rows) _ = _
    rw [loop_nx (by rfl) e]
    exact ih
/-- the rows' lengths are looked at -/
theorem st_check (hmn : 0 ≤ mn ∧ mn ≤ 1000) : ∀ (rows : List (List Bool)) (r : Option D) (rest : DS), (∀ s ∈ rows, s.length ≤ 1000) → ∃ δ', loopM (stName 6) stC (rowsBD rows) (some (planD mn gs) :: some (.list (boolsOf bs)) :: some (.list (rowsBD rs)) :: some (.int (mn + (gs.length : Int))) :: some (.int mn) :: some (.list (gatesD gs)) :: r :: rest) = if (rows.all fun r => decide ((r.length : Int) = mn)) = true then .ok (.nx δ') else .ok (.ex 5 δ')
  | [], r, rest, _ => ⟨_, rfl⟩
  | row :: rows, r, rest, hl => by
    have e : stC (some (planD mn gs) :: some (.list (boolsOf bs)) :: some (.list (rowsBD rs)) :: some (.int (mn + (gs.length : Int))) :: some (.int mn) :: some (.list (gatesD gs)) :: some (.list (boolsOf row)) :: rest) = if (row.length : Int) = mn then .ok (.nx (some (planD mn gs) :: some (.list (boolsOf bs)) :: some (.list (rowsBD rs)) :: some (.int (mn + (gs.length : Int))) :: some (.int mn) :: some (.list (gatesD gs)) :: some (.list (boolsOf row)) :: rest)) else .ok (.ex 5 (some (planD mn gs) :: some (.list (boolsOf bs)) :: some (.list (rowsBD rs)) :: some (.int (mn + (gs.length : Int))) :: some (.int mn) :: some (.list (gatesD gs)) :: some (.list (boolsOf row)) :: rest)) := by
      show ((if ((boolsOf row).length : Int) = mn then R.ok PyData.none else R.when (decide ((boolsOf row).length ≤ 1000 ∧ 0 ≤ mn ∧ mn ≤ 1000)) (.ex 5) : R D).run _ fun _ => R.ok (Out.nx _)) = _
      rw [bools_len]
      by_cases q : (row.length : Int) = mn
      · rw [if_pos q, if_pos q]; rfl
      · have := hl row List.mem_cons_self
        rw [if_neg q, if_neg q, decide_eq_true ⟨this, hmn⟩]; rfl
    show ∃ δ', loopM (stName 6) stC (.list (boolsOf row) :: rowsBD rows) _ = _
    rw [List.all_cons]
    by_cases q : (row.length : Int) = mn
    · rw [if_pos q] at e
      obtain ⟨δ', ih⟩ := st_check hmn rows (some (.list (boolsOf row))) rest fun s hs => hl s (List.mem_cons_of_mem _ hs)
      refine ⟨δ', ?_⟩
      rw [loop_nx (by rfl) e, decide_eq_true q, Bool.true_and]
      exact ih
    · rw [if_neg q] at e
      refine ⟨some (planD mn gs) :: some (.list (boolsOf bs)) :: some (.list (rowsBD rs)) :: some (.int (mn + (gs.length : Int))) :: some (.int mn) :: some (.list (gatesD gs)) :: some (.list (boolsOf row)) :: rest, ?_⟩
      rw [decide_eq_false q, Bool.false_and, if_neg (by decide), loop_ex (by rfl) e]
theorem st_ok (ht : planTame mn gs = true) (h1 : bs.length ≤ 1000) (h2 : rs.length ≤ 1000) (h3 : ∀ r ∈ rs, r.length ≤ 1000) : finL (stM [some (planD mn gs), some (.list (boolsOf bs)), some (.list (rowsBD rs)), none, none, none, none, none, none, none, none, none, none, none, none]) = errR (planErr mn gs) (if (bs.length : Int) = mn + gs.length ∧ (rs.all fun r => decide ((r.length : Int) = mn)) = true then .ok (rowsBD (stepsOf gs bs rs)) else .ex 5) := by
  have e0 := checked_ev ht
  unfold stM
  have s1 : ∀ n : DS → R Out, mSeq (mSet [7, 9] 3 (mCall g_checked (mCons (mVar 0) mNil))) n [some (planD mn gs), some (.list (boolsOf bs)), some (.list (rowsBD rs)), none, none, none, none, none, none, none, none, none, none, none, none] = ((g_checked [planD mn gs]).run [some (planD mn gs), some (.list (boolsOf bs)), some (.list (rowsBD rs)), none, none, none, none, none, none, none, none, none, none, none, none] fun d => R.ok (Out.nx [some (planD mn gs), some (.list (boolsOf bs)), some (.list (rowsBD rs)), some d, none, none, none, none, none, none, none, none, none, none, none])).bind (seqK n) := fun n => rfl
  rw [s1, e0]
  cases q : planErr mn gs with
  | some e => rfl
  | none =>
    obtain ⟨m0, m1, m2⟩ := err_gates q
    have hgs : ∀ g ∈ gs, g.2.1.length ≤ 1000 ∧ 1 ≤ g.2.2 ∧ gateErr (mn + gs.length) g = none := fun g hg => by
      refine ⟨?_, ?_, m2 g hg⟩
      · have ht2 := ht
        unfold planTame at ht2
        rw [Bool.and_eq_true, List.all_eq_true] at ht2
        have := ht2.2 g hg
        unfold gateTame at this
        rw [Bool.and_eq_true] at this
        have := of_decide_eq_true this.2
        omega
      · have := m2 g hg
        unfold gateErr at this
        split at this
        · cases this
        · split at this
          · cases this
          · split at this
            · cases this
            · split at this
              · cases this
              · omega
    rw [show errR none (R.ok (PyData.int (mn + (gs.length : Int)))) = R.ok (.int (mn + (gs.length : Int))) from rfl, R.run_ok, R.bind_ok, q_seqK]
    unfold st2
    rw [cutR [some (planD mn gs), some (.list (boolsOf bs)), some (.list (rowsBD rs)), some (.int (mn + (gs.length : Int))), some (.int mn), some (.list (gatesD gs)), none, none, none, none, none, none, none, none, none] (by rfl) rfl]
    show _ = (if (bs.length : Int) = mn + gs.length ∧ (rs.all fun r => decide ((r.length : Int) = mn)) = true then R.ok (rowsBD (stepsOf gs bs rs)) else R.ex 5)
    unfold st3
    have s2 : ∀ n : DS → R Out, mSeq (mDrop (mCall g_checkvalues (mCons (mVar 1) (mCons (mVar 3) mNil)))) n [some (planD mn gs), some (.list (boolsOf bs)), some (.list (rowsBD rs)), some (.int (mn + (gs.length : Int))), some (.int mn), some (.list (gatesD gs)), none, none, none, none, none, none, none, none, none] = ((if ((boolsOf bs).length : Int) = mn + (gs.length : Int) then R.ok .none else R.when (decide ((boolsOf bs).length ≤ 1000 ∧ 0 ≤ mn + (gs.length : Int) ∧ mn + (gs.length : Int) ≤ 1000)) (.ex 5) : R D).run [some (planD mn gs), some (.list (boolsOf bs)), some (.list (rowsBD rs)), some (.int (mn + (gs.length : Int))), some (.int mn), some (.list (gatesD gs)), none, none, none, none, none, none, none, none, none] fun d => R.ok (Out.nx [some (planD mn gs), some (.list (boolsOf bs)), some (.list (rowsBD rs)), some (.int (mn + (gs.length : Int))), some (.int mn), some (.list (gatesD gs)), none, none, none, none, none, none, none, none, none])).bind (seqK n) := fun n => rfl
    rw [s2, bools_len]
    by_cases hb : (bs.length : Int) = mn + gs.length
    · rw [if_pos hb, R.run_ok, R.bind_ok, q_seqK]
      unfold st4
      obtain ⟨δ', hc⟩ := st_check (mn := mn) (gs := gs) (bs := bs) (rs := rs) ⟨m0.1, by omega⟩ rs none [none, none, none, none, none, none, none, none] h3
      have e4 : ∀ n : DS → R Out, mSeq (mFor [7, 9] (mVar 2) (stName 6) stC) n [some (planD mn gs), some (.list (boolsOf bs)), some (.list (rowsBD rs)), some (.int (mn + (gs.length : Int))), some (.int mn), some (.list (gatesD gs)), none, none, none, none, none, none, none, none, none] = (loopM (stName 6) stC (rowsBD rs) (some (planD mn gs) :: some (.list (boolsOf bs)) :: some (.list (rowsBD rs)) :: some (.int (mn + (gs.length : Int))) :: some (.int mn) :: some (.list (gatesD gs)) :: none :: [none, none, none, none, none, none, none, none])).bind (seqK n) := fun n => rfl
      by_cases hr : (rs.all fun r => decide ((r.length : Int) = mn)) = true
      · rw [if_pos ⟨hb, hr⟩]
        obtain ⟨r6, hc2⟩ := st_check6 (mn := mn) (gs := gs) (bs := bs) (rs := rs) ⟨m0.1, by omega⟩ rs none [none, none, none, none, none, none, none, none] h3 hr
        rw [e4, hc2, R.bind_ok, q_seqK]
        unfold st5
        rw [cutR (stS mn gs bs rs [] r6 none none none none none none) (by rfl) rfl]
        unfold st6
        rw [List.all_eq_true] at hr
        obtain ⟨r', n', v', a', b', c', t', h⟩ := st_outer (mn := mn) (gs := gs) (bs := bs) (rs := rs) (by omega) m0.1 hgs (by omega) rs [] r6 none none none none none none (fun s hs => absurd hs List.not_mem_nil) (fun s hs => of_decide_eq_true (hr s hs)) (by simpa using h2)
        rw [cutR (stS mn gs bs rs (stepsF gs bs [] rs) r' n' v' a' b' c' t') (by
          show loopM (stPair 8 6) stR (enumD 0 (rowsBD rs)) _ = _
          exact h) rfl]
        rfl
      · rw [if_neg (fun q => hr q.2)]
        rw [if_neg hr] at hc
        rw [e4, hc]; rfl
    · rw [if_neg hb, if_neg (fun q => hb q.1), decide_eq_true (by omega), R.when_true]; rfl
end
end SL
namespace SL
open PySem PySem.Spec PyProof.Rows L2
/-! ## times behind the late times -/
theorem stepsF_get (gs : List Gate) (bs : List Bool) : ∀ (rows S : List (List Bool)), (stepsF gs bs S rows).length = S.length + rows.length ∧ (∀ t, t < S.length → (stepsF gs bs S rows)[t]? = S[t]?) ∧ ∀ (i : Nat) (r : List Bool), rows[i]? = some r → (stepsF gs bs S rows)[S.length + i]? = some (nextRow gs bs ((stepsF gs bs S rows).take (S.length + i)) r)
  | [], S => ⟨rfl, fun t _ => rfl, fun i r e => by cases e⟩
  | row :: rows, S => by
    obtain ⟨h1, h2, h3⟩ := stepsF_get gs bs rows (S ++ [nextRow gs bs S row])
    have e : stepsF gs bs S (row :: rows) = stepsF gs bs (S ++ [nextRow gs bs S row]) rows := rfl
    rw [List.length_append, List.length_singleton] at h1 h2 h3
    rw [e]
    refine ⟨by rw [h1, List.length_cons]; omega, fun t ht => by rw [h2 t (by omega), List.getElem?_append_left ht], fun i r er => ?_⟩
    cases i with
    | zero =>
      cases er
      rw [Nat.add_zero, h2 S.length (by omega), List.getElem?_append_right (Nat.le_refl _), Nat.sub_self]
      show some _ = some _
      congr 2
      refine List.ext_getElem? fun t => ?_
      rw [List.getElem?_take]
      split
      · rename_i ht
        rw [h2 t (by omega), List.getElem?_append_left ht]
      · rw [List.getElem?_eq_none (by omega)]
    | succ i =>
      have := h3 i r er
      rwa [show S.length + 1 + i = S.length + (i + 1) by omega] at this
theorem stepsOf_len (gs : List Gate) (bs : List Bool) (rows : List (List Bool)) : (stepsOf gs bs rows).length = rows.length := by
  have := (stepsF_get gs bs rows []).1
  rw [List.length_nil, Nat.zero_add] at this
  exact this
theorem stepsOf_get (gs : List Gate) (bs : List Bool) {rows : List (List Bool)} {i : Nat} {r : List Bool} (e : rows[i]? = some r) : (stepsOf gs bs rows)[i]? = some (nextRow gs bs ((stepsOf gs bs rows).take i) r) := by
  have := (stepsF_get gs bs rows []).2.2 i r e
  rw [List.length_nil, Nat.zero_add] at this
  exact this
theorem foldmax_mem {x : Int} : ∀ (ns : List Int) (n : Int), x ∈ ns → x ≤ ns.foldl max n
  | y :: ns, n, h => by
    rcases List.mem_cons.mp h with rfl | h
    · exact Int.le_trans (Int.le_max_right n x) (foldmax_ge ns _)
    · exact foldmax_mem ns _ h
theorem le_maxL {xs : List Int} {x : Int} (h : x ∈ xs) : x ≤ maxL xs := by
  cases xs with
  | nil => cases h
  | cons n ns =>
    rcases List.mem_cons.mp h with rfl | h
    · exact foldmax_ge ns _
    · exact foldmax_mem ns n h
theorem foldmax_le {B : Int} : ∀ (ns : List Int) (n : Int), n ≤ B → (∀ x ∈ ns, x ≤ B) → ns.foldl max n ≤ B
  | [], n, h, _ => h
  | y :: ns, n, h, q => foldmax_le ns _ (Int.max_le.mpr ⟨h, q y List.mem_cons_self⟩) fun x hx => q x (List.mem_cons_of_mem _ hx)
theorem maxL_le {B : Int} {xs : List Int} (h0 : 0 ≤ B) (h : ∀ x ∈ xs, x ≤ B) : maxL xs ≤ B := by
  cases xs with
  | nil => exact h0
  | cons n ns => exact foldmax_le ns n (h n List.mem_cons_self) fun x hx => h x (List.mem_cons_of_mem _ hx)
theorem stepT_le {mn B most : Int} {gs : List Gate} {T : List Int} {x : Int} (hB : 0 ≤ B) (hm : 0 ≤ most) (hd : ∀ g ∈ gs, g.2.2 ≤ most) (h : ∀ y ∈ T, y ≤ B) : ∀ y ∈ stepT mn gs T x, y ≤ B + most := by
  unfold stepT
  split
  · rename_i g e
    split
    · intro y hy; have := h y hy; omega
    · intro y hy
      rcases List.mem_or_eq_of_mem_set hy with q | q
      · have := h y q; omega
      · rw [q]
        unfold dueT
        split
        · omega
        · have h1 := hd g (List.mem_of_getElem? e)
          have h2 := maxL_le (xs := srcsT T g) hB fun z hz => by
            unfold srcsT at hz
            obtain ⟨s, _, rfl⟩ := List.mem_map.mp hz
            rw [List.getD_eq_getElem?_getD]
            cases q : T[s.toNat]? with
            | none => exact hB
            | some v => exact h v (List.mem_of_getElem? q)
          omega
  · intro y hy; have := h y hy; omega
theorem timesF_le {mn most : Int} {gs : List Gate} (hm : 0 ≤ most) (hd : ∀ g ∈ gs, g.2.2 ≤ most) : ∀ (F : List Int) (T : List Int) (B : Int), 0 ≤ B → (∀ y ∈ T, y ≤ B) → ∀ y ∈ F.foldl (stepT mn gs) T, y ≤ B + most * F.length
  | [], T, B, hB, h => fun y hy => by have := h y hy; simp; exact this
  | x :: F, T, B, hB, h => fun y hy => by
    have := timesF_le hm hd F (stepT mn gs T x) (B + most) (by omega) (stepT_le hB hm hd h) y hy
    rw [List.length_cons, show ((F.length + 1 : Nat) : Int) = (F.length : Int) + 1 from rfl, Int.mul_add, Int.mul_one]
    omega
theorem late_le {mn most : Int} {gs : List Gate} (hm : 0 ≤ most) (hd : ∀ g ∈ gs, g.2.2 ≤ most) : maxL (lateOf mn gs) ≤ most * gs.length := by
  have few := (ord_chain mn gs).few
  have h0 : 0 ≤ most * (gs.length : Int) := Int.mul_nonneg hm (by omega)
  refine maxL_le h0 fun y hy => ?_
  have := timesF_le (mn := mn) (gs := gs) hm hd (ordOf mn gs) (List.replicate (mn + gs.length).toNat 0) 0 (Int.le_refl 0) (fun y hy => by rw [(List.mem_replicate.mp hy).2]; exact Int.le_refl 0) y hy
  have h2 : most * ((ordOf mn gs).length : Int) ≤ most * (gs.length : Int) := Int.mul_le_mul_of_nonneg_left (by omega) hm
  omega
section
variable {mn : Int} {gs : List Gate} {bs ins V : List Bool} {n : Nat}
theorem row_at (hins : ins.length = mn.toNat) {S : List (List Bool)} {i : Nat} {g : Gate} (h0 : 0 ≤ mn) (e : gs[i]? = some g) : (nextRow gs bs S ins).getD (mn + (i : Int)).toNat false = ansG (srcRow bs S g.2.2) g := by
  unfold nextRow
  rw [List.getD_eq_getElem?_getD, List.getElem?_append_right (by omega), hins, show (mn + (i : Int)).toNat - mn.toNat = i by omega, List.getElem?_map, e]; rfl
theorem quiet_val (he : planErr mn gs = none) (ho : ordErr mn gs = none) (hd : ∀ g ∈ gs, 1 ≤ g.2.2) (hV : Settled mn gs ins V) : ∀ (m l t : Nat), l < (mn + gs.length).toNat → t < n → ((lateOf mn gs).getD l 0).toNat ≤ m → (lateOf mn gs).getD l 0 ≤ (t : Int) →
    ((stepsOf gs bs (List.replicate n ins)).getD t []).getD l false = V.getD l false := by
  obtain ⟨m0, m1, m2⟩ := err_gates he
  have hs0 : ∀ g ∈ gs, ∀ s ∈ g.2.1, 0 ≤ s := fun g hg s hs => (err_src (m2 g hg) s hs).1
  have due := fun l => late_due m0.1 hs0 (none_all ho) l
  have nn : ∀ l, 0 ≤ (lateOf mn gs).getD l 0 := getD_nn (timesOf_nn (fun g hg => by have := hd g hg; omega) _)
  obtain ⟨v1, v2, v3, v4⟩ := hV
  revert due nn
  generalize lateOf mn gs = L
  intro due nn m
  induction m with
  | zero =>
    intro l t hl ht hL hle
    have ht2 : (List.replicate n ins)[t]? = some ins := by rw [List.getElem?_replicate, if_pos ht]
    rw [List.getD_eq_getElem?_getD (l := stepsOf gs bs (List.replicate n ins)), stepsOf_get gs bs ht2]
    show (nextRow gs bs ((stepsOf gs bs (List.replicate n ins)).take t) ins).getD l false = _
    rcases Int.lt_or_le (l : Int) mn with q | q
    · unfold nextRow
      rw [List.getD_eq_getElem?_getD, List.getElem?_append_left (by omega), ← List.getD_eq_getElem?_getD, v3 l (by omega)]
    · obtain ⟨g, hg⟩ : ∃ g, gs[((l : Int) - mn).toNat]? = some g := ⟨gs[((l : Int) - mn).toNat], List.getElem?_eq_getElem (by omega)⟩
      have r := row_at (bs := bs) (S := (stepsOf gs bs (List.replicate n ins)).take t) v2 m0.1 hg
      have r2 := v4 _ g hg
      rw [show (mn + ((((l : Int) - mn).toNat : Nat) : Int)).toNat = l by omega] at r r2
      rw [r, r2]
      have dl := due l
      unfold dueAt at dl
      rw [if_pos q, hg] at dl
      change L.getD l 0 = dueT L g at dl
      have h1 := hd g (List.mem_of_getElem? hg)
      have hz : g.2.1 = [] := Classical.byContradiction fun hz => by
        unfold dueT at dl
        rw [if_neg hz] at dl
        have : 0 ≤ maxL (srcsT L g) := maxL_nn fun x hx => by
          unfold srcsT at hx
          obtain ⟨s, _, rfl⟩ := List.mem_map.mp hx
          exact nn _
        have := nn l
        omega
      unfold ansG srcsB
      rw [hz]; rfl
  | succ m ih =>
    intro l t hl ht hL hle
    have ht2 : (List.replicate n ins)[t]? = some ins := by rw [List.getElem?_replicate, if_pos ht]
    have lenS : (stepsOf gs bs (List.replicate n ins)).length = n := by rw [stepsOf_len, List.length_replicate]
    rw [List.getD_eq_getElem?_getD (l := stepsOf gs bs (List.replicate n ins)), stepsOf_get gs bs ht2]
    show (nextRow gs bs ((stepsOf gs bs (List.replicate n ins)).take t) ins).getD l false = _
    rcases Int.lt_or_le (l : Int) mn with q | q
    · unfold nextRow
      rw [List.getD_eq_getElem?_getD, List.getElem?_append_left (by omega), ← List.getD_eq_getElem?_getD, v3 l (by omega)]
    · obtain ⟨g, hg⟩ : ∃ g, gs[((l : Int) - mn).toNat]? = some g := ⟨gs[((l : Int) - mn).toNat], List.getElem?_eq_getElem (by omega)⟩
      have hgm := List.mem_of_getElem? hg
      have r := row_at (bs := bs) (S := (stepsOf gs bs (List.replicate n ins)).take t) v2 m0.1 hg
      have r2 := v4 _ g hg
      rw [show (mn + ((((l : Int) - mn).toNat : Nat) : Int)).toNat = l by omega] at r r2
      rw [r, r2]
      have dl := due l
      unfold dueAt at dl
      rw [if_pos q, hg] at dl
      change L.getD l 0 = dueT L g at dl
      have h1 := hd g hgm
      by_cases hz : g.2.1 = []
      · unfold ansG srcsB
        rw [hz]; rfl
      · unfold dueT at dl
        rw [if_neg hz] at dl
        have mx : 0 ≤ maxL (srcsT L g) := maxL_nn fun x hx => by
          unfold srcsT at hx
          obtain ⟨s, _, rfl⟩ := List.mem_map.mp hx
          exact nn _
        have tl : ((stepsOf gs bs (List.replicate n ins)).take t).length = t := by rw [List.length_take, lenS]; omega
        have sr : srcRow bs ((stepsOf gs bs (List.replicate n ins)).take t) g.2.2 = (stepsOf gs bs (List.replicate n ins)).getD (t - g.2.2.toNat) [] := by
          unfold srcRow
          rw [tl, if_pos (by omega), List.getD_eq_getElem?_getD, List.getElem?_take, if_pos (by omega), ← List.getD_eq_getElem?_getD, show ((t : Int) - g.2.2).toNat = t - g.2.2.toNat by omega]
        rw [sr]
        unfold ansG
        congr 1
        unfold srcsB
        refine List.map_congr_left fun s hs => ?_
        have sb := err_src (m2 g hgm) s hs
        have ls : L.getD s.toNat 0 ≤ maxL (srcsT L g) := le_maxL (List.mem_map.mpr ⟨s, hs, rfl⟩)
        have n2 := nn s.toNat
        exact ih s.toNat (t - g.2.2.toNat) (by omega) (by omega) (by omega) (by omega)
end
/-! ### lists of bools compared -/
def g_lawvalues : List D → R D
  | [.list xs, .list ys] => match boolsD xs, boolsD ys with
    | some a, some b => R.when (decide (a = b ∧ a.length ≤ 100000)) (.ok (.bool true))
    | _, _ => .bad
  | _ => .bad
theorem lawvalues_ev {a : List Bool} (h : a.length ≤ 100000) : g_lawvalues [.list (boolsOf a), .list (boolsOf a)] = .ok (.bool true) := by
  show (match boolsD (boolsOf a), boolsD (boolsOf a) with
    | some a, some b => R.when (decide (a = b ∧ a.length ≤ 100000)) (R.ok (PyData.bool true))
    | _, _ => R.bad) = _
  rw [show boolsD (boolsOf a) = some a from bools_of ..]
  dsimp only
  rw [decide_eq_true ⟨rfl, h⟩]; rfl
def lvT : DS → R Bool := (mOr (mNot (mB (fun δ => ((mVar 0) δ).bind (gIs "list")))) (mB (mBin gNe (mCall gLen (mCons (mVar 0) mNil)) (mCall gLen (mCons (mVar 1) mNil)))))
def lvB : DS → R Out := (mIf (mOr (mNot (mB (fun δ => ((mBin gIx (mVar 0) (mVar 2)) δ).bind (gIs "bool")))) (mB (mBin gNe (mBin gIx (mVar 0) (mVar 2)) (mBin gIx (mVar 1) (mVar 2))))) (mRet (mC (.bool false))) mSkip)
def lvM : DS → R Out := (mSeq (mIf lvT (mRet (mC (.bool false))) mSkip)
    (mSeq (mForR (mCons (mCall gLen (mCons (mVar 1) mNil)) mNil) (stName 2) lvB)
    (mRet (mC (.bool true)))))
theorem lv_loop {a : List Bool} : ∀ (n k : Nat) (l : Option D), k + n = a.length → ∃ l', loopM (stName 2) lvB ((List.range' k n).map fun (i : Nat) => .int (i : Int)) [some (.list (boolsOf a)), some (.list (boolsOf a)), l] = .ok (.nx [some (.list (boolsOf a)), some (.list (boolsOf a)), l'])
  | 0, k, l, h => ⟨l, rfl⟩
  | n + 1, k, l, h => by
    have body : lvB [some (.list (boolsOf a)), some (.list (boolsOf a)), some (.int (k : Int))] = .ok (.nx [some (.list (boolsOf a)), some (.list (boolsOf a)), some (.int (k : Int))]) := by
      have t : (mOr (mNot (mB (fun δ => ((mBin gIx (mVar 0) (mVar 2)) δ).bind (gIs "bool")))) (mB (mBin gNe (mBin gIx (mVar 0) (mVar 2)) (mBin gIx (mVar 1) (mVar 2))))) [some (.list (boolsOf a)), some (.list (boolsOf a)), some (.int (k : Int))] = .ok false := by
        show ((((atK (atI (boolsOf a) (k : Int))).bind (gIs "bool")).bind boolD).map (!·)).bind (fun b => if b = true then R.ok true else (((atK (atI (boolsOf a) (k : Int))).bind fun u => (atK (atI (boolsOf a) (k : Int))).bind fun y => gNe u y).bind boolD)) = _
        rw [at_bools (by omega) (by omega), g_atK, R.bind_ok, R.bind_ok, R.bind_ok, neB]; rfl
      unfold lvB
      rw [q_if, t]; rfl
    obtain ⟨l', ih⟩ := lv_loop (a := a) n (k + 1) (some (.int (k : Int))) (by omega)
    refine ⟨l', ?_⟩
    rw [List.range'_succ, List.map_cons, loop_nx (by rfl) body]
    exact ih
theorem lv_ok {a : List Bool} (hl : a.length ≤ 100000) : fin (lvM [some (.list (boolsOf a)), some (.list (boolsOf a)), none]) = .ok (.bool true) := by
  have t0 : lvT [some (.list (boolsOf a)), some (.list (boolsOf a)), none] = .ok false := by
    show (gNe (.int ((boolsOf a).length : Nat)) (.int ((boolsOf a).length : Nat))).bind boolD = _
    rw [neI, decide_eq_true rfl]; rfl
  unfold lvM
  rw [cutR [some (.list (boolsOf a)), some (.list (boolsOf a)), none] (by rw [q_if, t0]; rfl) rfl]
  obtain ⟨l', h⟩ := lv_loop (a := a) a.length 0 none (by omega)
  have ea : mCons (mCall gLen (mCons (mVar 1) mNil)) mNil [some (.list (boolsOf a)), some (.list (boolsOf a)), none] = .ok [.int ((boolsOf a).length : Nat)] := rfl
  rw [cutR [some (.list (boolsOf a)), some (.list (boolsOf a)), l'] (by
    rw [q_forR, ea, R.run_ok, q_forRK1, bools_len, decide_eq_true (by omega), R.when_true, Int.toNat_natCast]
    unfold rangeD
    rw [List.range_eq_range']
    exact h) rfl]
  rfl
end SL
namespace SL
open PySem PySem.Spec PyProof.Rows L2
local macro_rules | `(tactic| walk_at "dl") => `(tactic| simp only [R.bind_ok, R.bind_bad, R.bind_ex, R.map_ok, R.map_bad, R.map_ex, R.run_ok, R.run_bad, R.run_ex, R.when_true, q_var, q_get, Bool.not_true, Bool.not_false, q_slA, q_slAS, q_slAL, q_slAT, q_forR, q_forRK1, q_for, q_forK, q_forT, q_stN, q_isN, isN_none, isN_tup, g_ixS, q_ixK, q_part, q_partK, q_noPart, q_sl, q_slK, q_try, tryK_ex, tryK_nx, tryK_rt, q_hand, handK_t, handK_f, hand_nil, noEx_nx, q_tryIsK, tryIsK_nx, q_c, q_bin, q_nil, q_cons, q_call, q_callN, q_tup, q_lst, q_B, q_boolD, q_not, q_and, q_or, q_andE, q_orE, q_notE, q_neg, q_andK, q_orK, q_notK, q_negK, q_ifE, q_seq, q_seqK, q_seqR, q_seqL, q_seqX, q_skip, q_if, q_set, q_setI, q_setNI, q_own, q_ownI, q_ret, q_retL, q_owned, q_ownV, q_retO, q_drop, q_app, q_appI, q_setAt, q_setAtI, q_put, q_putK, q_hideN, q_inB, q_fin, q_finL, q_finN, q_finX, q_finL', q_finLX, q_raise, g_cmp, g_addI, g_subI, g_mulI, g_modI, g_divI, g_addS, g_addL, g_addT, g_catL, g_ixL, g_ixT, g_atK, g_lenL, g_lenT, g_lenS, g_listL, g_listT, g_tupL, g_all, g_any, g_sum, bools_of, g_allK, g_anyK, g_sumK, g_eqI, g_eqB, q_asg, q_pair, q_tri, q_give, q_blank, q_bad, q_fldX, q_firstEx, g_powI, at3_0, at3_1, at3_2, at2_0, at2_1, R.run_ok, q_mL, q_mcat, q_comp, q_compL, q_compT, q_compR, q_compRI, q_wipe1, q_repK, q_repI, q_hide, q_hide0, q_hideM, memB_nil, memB_cons, Nat.reduceBEq, Bool.or_false, Bool.false_or, Bool.or_true, Bool.true_or, List.map_cons, List.map_nil, decide_false, Nat.reduceEqDiff, reduceCtorEq, List.getElem?_cons_zero, List.getElem?_cons_succ, List.set_cons_zero, List.set_cons_succ, List.length_cons, List.length_nil, Nat.zero_add, Nat.reduceAdd, Nat.reduceLT, decide_true, Bool.and_true, Bool.true_and, if_true, decide_eq_true_eq, Bool.false_eq_true, if_false])
/-! ## small plans -/
def smallN (far : Int) (large : Bool) : Int := if large = true ∧ far % 8 = 3 then 90 + far / 8 % 99 else if far % 8 = 1 then 10 + far / 8 % 31 else 0
def smallG (far mn most : Int) (k : Nat) : Gate := if far % 8 = 1 ∧ 0 < mn + k then ("not", [mn + k - 1], 1 + (k : Int) % most) else gateBy (far / 8 + 5 * k) (mn + k) most
def smallL (far mn most : Int) (n : Nat) : List Gate := (List.range n).map (smallG far mn most)
theorem smallL_succ (far mn most : Int) (n : Nat) : smallL far mn most (n + 1) = smallL far mn most n ++ [smallG far mn most n] := by
  unfold smallL; rw [List.range_succ, List.map_append]; rfl
theorem smallL_len (far mn most : Int) (n : Nat) : (smallL far mn most n).length = n := by unfold smallL; rw [List.length_map, List.length_range]
def smallBy (ns : List Int) (mn most : Int) (large : Bool) : List Gate := addCells mn most ((ns.drop 3).take 12) (smallL (cell ns 1) mn most (smallN (cell ns 1) large).toNat)
def smallGs (ns : List Int) (most : Int) (large : Bool) : List Gate := turned (freeMn ns) (smallBy ns (freeMn ns) most large) (cell ns 2)
theorem smallN_in (far : Int) (large : Bool) : 0 ≤ smallN far large ∧ smallN far large ≤ 188 := by
  unfold smallN; split
  · omega
  · split <;> omega
theorem smallN_few (far : Int) : smallN far false ≤ 40 := by
  unfold smallN; rw [if_neg (fun q => by cases q.1)]; split <;> omega
theorem smallBy_len (ns : List Int) (mn most : Int) (large : Bool) : (smallBy ns mn most large).length ≤ 200 := by
  unfold smallBy
  rw [addCells_len, smallL_len]
  have := smallN_in (cell ns 1) large
  have : ((ns.drop 3).take 12).length ≤ 12 := List.length_take_le _ _
  omega
theorem smallBy_few (ns : List Int) (mn most : Int) : (smallBy ns mn most false).length ≤ 52 := by
  unfold smallBy
  rw [addCells_len, smallL_len]
  have := smallN_few (cell ns 1)
  have : ((ns.drop 3).take 12).length ≤ 12 := List.length_take_le _ _
  omega
theorem smallG_ok (far : Int) {mn most : Int} (k : Nat) (hb : 0 ≤ mn) (hm : 0 < most) : GateOk (mn + k) most (smallG far mn most k) := by
  unfold smallG
  split
  · rename_i h
    have h1 := Int.emod_nonneg (k : Int) (show most ≠ 0 by omega)
    have h2 := Int.emod_lt_of_pos (k : Int) hm
    refine ⟨⟨3, by decide, rfl, (by decide : arOk 3 1 = true)⟩, fun s hs => ?_, ⟨show 1 ≤ 1 + (k : Int) % most by omega, show 1 + (k : Int) % most ≤ most by omega⟩⟩
    have : s = mn + k - 1 := List.mem_singleton.mp hs
    omega
  · exact gateBy_ok _ (by omega) hm
theorem smallL_ok (far : Int) {mn most : Int} (hb : 0 ≤ mn) (hm : 0 < most) (n : Nat) : Ahead mn most (smallL far mn most n) := by
  induction n with
  | zero => intro k g e; cases e
  | succ n ih =>
    rw [smallL_succ]
    refine ih.app ?_
    rw [smallL_len]; exact smallG_ok far n hb hm
theorem smallBy_ok (ns : List Int) {mn most : Int} (large : Bool) (hb : 0 ≤ mn) (hm : 0 < most) : Ahead mn most (smallBy ns mn most large) := addCells_ok hb hm _ (smallL_ok _ hb hm _)
theorem smallGs_len (ns : List Int) (most : Int) (large : Bool) : (smallGs ns most large).length ≤ 200 := by
  unfold smallGs; rw [turned_len]; exact smallBy_len _ _ _ _
theorem smallGs_few (ns : List Int) (most : Int) : (smallGs ns most false).length ≤ 52 := by
  unfold smallGs; rw [turned_len]; exact smallBy_few _ _ _
theorem small_ok (ns : List Int) {most : Int} (large : Bool) (hm : 0 < most) : PlanOk (freeMn ns) most (smallGs ns most large) := turned_ok (many_in _).1 (smallBy_ok ns large (many_in _).1 hm)
theorem small_free (ns : List Int) {most : Int} (large : Bool) (hm : 0 < most) : Free (freeMn ns) (smallGs ns most large) := turned_free (many_in _).1 (smallBy_ok ns large (many_in _).1 hm)
def g_smallplan : List D → R D
  | [.list xs, .int most, .bool large] => match intsD xs with
    | some ns => R.when (decide (0 < most)) (.ok (planD (freeMn ns) (smallGs ns most large)))
    | none => .bad
  | _ => .bad
theorem small_ev (ns : List Int) {n : Int} (large : Bool) (hn : 0 < n) : g_smallplan [.list (ns.map PyData.int), .int n, .bool large] = .ok (planD (freeMn ns) (smallGs ns n large)) := by
  show (match intsD (ns.map PyData.int) with
    | some ns => R.when (decide (0 < n)) (R.ok (planD (freeMn ns) (smallGs ns n large)))
    | none => R.bad) = _
  rw [ints_of]
  dsimp only
  rw [decide_eq_true hn]; rfl
def spI : DS → R Out := (mIf (mAnd (mB (mBin gEq (mBin gMod (mVar 4) (mC (.int 8))) (mC (.int 1)))) (mB (mBin (gCmp fun i j => decide (j < i)) (mBin gAdd (mVar 3) (mVar 7)) (mC (.int 0))))) (mApp [5] 5 (mTup (mCons (mC (.str "not")) (mCons (mTup (mCons (mBin gSubI (mBin gAdd (mVar 3) (mVar 7)) (mC (.int 1))) mNil)) (mCons (mBin gAdd (mC (.int 1)) (mBin gMod (mVar 7) (mVar 1))) mNil))))) (mApp [5] 5 (mCall g_gateby (mCons (mBin gAdd (mBin gDiv (mVar 4) (mC (.int 8))) (mBin gMul (mC (.int 5)) (mVar 7))) (mCons (mBin gAdd (mVar 3) (mVar 7)) (mCons (mVar 1) mNil))))))
def spA : DS → R Out := (mAppI 5 (mCall g_gateby (mCons (mVar 8) (mCons (mBin gAdd (mVar 3) (mCall gLen (mCons (mVar 5) mNil))) (mCons (mVar 1) mNil)))))
def sp9 : DS → R Out := (mRet (mCall g_turned (mCons (mVar 3) (mCons (mVar 5) (mCons (mCall g_cell (mCons (mVar 0) (mCons (mC (.int 2)) mNil))) mNil)))))
def sp8 : DS → R Out := (mSeq (mFor [5] (mSlA (mVar 0) (mPart (mC (.int 3))) (mPart (mC (.int 15)))) (stName 8) spA) sp9)
def sp7 : DS → R Out := (mSeq (mForR (mCons (mVar 6) mNil) (stName 7) spI) sp8)
def sp6 : DS → R Out := (mSeq (mIf (mAnd (mB (mVar 2)) (mB (mBin gEq (mBin gMod (mVar 4) (mC (.int 8))) (mC (.int 3))))) (mSet [5] 6 (mBin gAdd (mC (.int 90)) (mBin gMod (mBin gDiv (mVar 4) (mC (.int 8))) (mC (.int 99))))) mSkip) sp7)
def sp5 : DS → R Out := (mSeq (mIf (mB (mBin gEq (mBin gMod (mVar 4) (mC (.int 8))) (mC (.int 1)))) (mSet [5] 6 (mBin gAdd (mC (.int 10)) (mBin gMod (mBin gDiv (mVar 4) (mC (.int 8))) (mC (.int 31))))) mSkip) sp6)
def sp4 : DS → R Out := (mSeq (mSet [5] 6 (mC (.int 0))) sp5)
def sp3 : DS → R Out := (mSeq (mOwn [5] 5 (mLst mNil)) sp4)
def sp2 : DS → R Out := (mSeq (mSet [5] 4 (mCall g_cell (mCons (mVar 0) (mCons (mC (.int 1)) mNil)))) sp3)
def spM : DS → R Out := (mSeq (mSet [5] 3 (mCall g_many (mCons (mCall g_cell (mCons (mVar 0) (mCons (mC (.int 0)) mNil))) mNil))) sp2)
def spS (ns : List Int) (most : Int) (large : Bool) (mn far : Int) (G : List Gate) (n k c : Option D) : DS := [some (.list (ns.map PyData.int)), some (.int most), some (.bool large), some (.int mn), some (.int far), some (.list (gatesD G)), n, k, c]
theorem sp_loop {ns : List Int} {most mn far : Int} {large : Bool} {n c : Option D} (hb : 0 ≤ mn) (hm : 0 < most) : ∀ (m k : Nat) (l : Option D), k + m ≤ 200 → ∃ l', loopM (stName 7) spI ((List.range' k m).map fun (i : Nat) => .int (i : Int)) (spS ns most large mn far (smallL far mn most k) n l c) = .ok (.nx (spS ns most large mn far (smallL far mn most (k + m)) n l' c))
  | 0, k, l, h => ⟨l, rfl⟩
  | m + 1, k, l, h => by
    obtain ⟨l', ih⟩ := sp_loop (ns := ns) (large := large) (far := far) (n := n) (c := c) hb hm m (k + 1) (some (.int (k : Int))) (by omega)
    refine ⟨l', ?_⟩
    have lt : ltOk (gatesD (smallL far mn most k)).length = true := by rw [gates_len, smallL_len]; exact decide_eq_true (small1000 (by omega))
    have body : spI (spS ns most large mn far (smallL far mn most k) n (some (.int (k : Int))) c) = .ok (.nx (spS ns most large mn far (smallL far mn most (k + 1)) n (some (.int (k : Int))) c)) := by
      have mu : mulOk 5 (k : Int) = true := decide_eq_true (.inl (by decide))
      have m8 : ∀ a, modOk a 8 = true := fun _ => rfl
      have d8 : ∀ a, divOk a 8 = true := fun _ => rfl
      have mm : ∀ a, modOk a most = true := fun _ => decide_eq_true hm
      have sz3 : szOk 3 = true := by decide
      have sz1 : szOk 1 = true := by decide
      unfold spI spS
      rw [smallL_succ, ← gates_app]
      by_cases h1 : far % 8 = 1
      · by_cases h0 : 0 < mn + (k : Int)
        · have hg : smallG far mn most k = (("not", [mn + k - 1], 1 + (k : Int) % most) : Gate) := if_pos ⟨h1, h0⟩
          rw [hg]
          repeat (first | simp only [m8, d8, h1, h0, lt, mu, mm, sz1, sz3] | walk_at "dl")
          rfl
        · have hg : smallG far mn most k = gateBy (far / 8 + 5 * k) (mn + k) most := if_neg fun q => h0 q.2
          rw [hg]
          repeat (first | simp only [m8, d8, h1, h0, lt, mu, sz1, sz3, gateby_ev (c := far / 8 + 5 * (k : Int)) (show 0 ≤ mn + (k : Int) by omega) hm] | walk_at "dl")
      · have hg : smallG far mn most k = gateBy (far / 8 + 5 * k) (mn + k) most := if_neg fun q => h1 q.1
        rw [hg]
        repeat (first | simp only [m8, d8, h1, lt, mu, sz1, sz3, gateby_ev (c := far / 8 + 5 * (k : Int)) (show 0 ≤ mn + (k : Int) by omega) hm] | walk_at "dl")
    rw [List.range'_succ, List.map_cons, loop_nx (by rfl) body, show k + (m + 1) = k + 1 + m by omega]
    exact ih
theorem sp_cells {ns : List Int} {most mn far : Int} {large : Bool} {n k : Option D} (hb : 0 ≤ mn) (hm : 0 < most) : ∀ (cs : List Int) (G : List Gate) (l : Option D), G.length + cs.length ≤ 200 → ∃ l', loopM (stName 8) spA (cs.map PyData.int) (spS ns most large mn far G n k l) = .ok (.nx (spS ns most large mn far (addCells mn most cs G) n k l'))
  | [], G, l, h => ⟨l, rfl⟩
  | c :: cs, G, l, h => by
    rw [List.length_cons] at h
    obtain ⟨l', ih⟩ := sp_cells (ns := ns) (large := large) (far := far) (n := n) (k := k) hb hm cs (G ++ [gateBy c (mn + G.length) most]) (some (.int c)) (by rw [List.length_append, List.length_singleton]; omega)
    refine ⟨l', ?_⟩
    have body : spA (spS ns most large mn far G n k (some (.int c))) = .ok (.nx (spS ns most large mn far (G ++ [gateBy c (mn + G.length) most]) n k (some (.int c)))) := by
      have lt : ltOk G.length = true := decide_eq_true (small1000 (by omega))
      unfold spA spS
      rw [← gates_app]
      repeat (first | simp only [gates_len, lt, imm_gate, gateby_ev (c := c) (show 0 ≤ mn + (G.length : Int) by omega) hm] | walk_at "dl")
    rw [List.map_cons, loop_nx (by rfl) body]
    exact ih
theorem sp_ok (ns : List Int) {most : Int} (large : Bool) (hm : 0 < most) : fin (spM [some (.list (ns.map PyData.int)), some (.int most), some (.bool large), none, none, none, none, none, none]) = .ok (planD (freeMn ns) (smallGs ns most large)) := by
  have z0 : ∀ k : Nat, g_cell [.list (ns.map PyData.int), .int (k : Int)] = .ok (.int (cell ns k)) := cell_at ns
  have c0 : g_cell [.list (ns.map PyData.int), .int 0] = .ok (.int (cell ns 0)) := z0 0
  have c1 : g_cell [.list (ns.map PyData.int), .int 1] = .ok (.int (cell ns 1)) := z0 1
  have c2 : g_cell [.list (ns.map PyData.int), .int 2] = .ok (.int (cell ns 2)) := z0 2
  have mi : 0 ≤ freeMn ns ∧ freeMn ns ≤ 60 := many_in (cell ns 0)
  have gm : g_many [.int (cell ns 0)] = .ok (.int (freeMn ns)) := rfl
  have m8 : ∀ a, modOk a 8 = true := fun _ => rfl
  have d8 : ∀ a, divOk a 8 = true := fun _ => rfl
  have m31 : ∀ a, modOk a 31 = true := fun _ => rfl
  have m99 : ∀ a, modOk a 99 = true := fun _ => rfl
  have k15 : L2.cutD (ns.map PyData.int) (some 3) (some 15) = ((ns.drop 3).take 12).map PyData.int := cut_at ns 3 15 (by decide)
  have gt := turned_ev (t := cell ns 2) (Nat.le_trans (smallBy_len ns (freeMn ns) most large) (by decide)) (smallBy_ok ns (mn := freeMn ns) large mi.1 hm)
  have nin := smallN_in (cell ns 1) large
  have hl : ((ns.drop 3).take 12).length ≤ 12 := List.length_take_le _ _
  unfold spM
  rw [cutR [some (.list (ns.map PyData.int)), some (.int most), some (.bool large), some (.int (freeMn ns)), none, none, none, none, none] (by repeat (first | simp only [c0, gm] | walk_at "dl")) rfl]
  unfold sp2
  rw [cutR [some (.list (ns.map PyData.int)), some (.int most), some (.bool large), some (.int (freeMn ns)), some (.int (cell ns 1)), none, none, none, none] (by repeat (first | simp only [c1] | walk_at "dl")) rfl]
  unfold sp3
  rw [cutR (spS ns most large (freeMn ns) (cell ns 1) [] none none none) (by rfl) rfl]
  unfold sp4
  rw [cutR (spS ns most large (freeMn ns) (cell ns 1) [] (some (.int 0)) none none) (by rfl) rfl]
  unfold sp5
  rw [cutR (spS ns most large (freeMn ns) (cell ns 1) [] (some (.int (if cell ns 1 % 8 = 1 then 10 + cell ns 1 / 8 % 31 else 0))) none none) (by
    unfold spS
    by_cases h : cell ns 1 % 8 = 1
    · rw [if_pos h]
      repeat (first | simp only [m8, d8, m31, h] | walk_at "dl")
    · rw [if_neg h]
      repeat (first | simp only [m8, d8, m31, h] | walk_at "dl")) rfl]
  unfold sp6
  rw [cutR (spS ns most large (freeMn ns) (cell ns 1) [] (some (.int (smallN (cell ns 1) large))) none none) (by
    unfold spS
    cases large with
    | false =>
      have es : smallN (cell ns 1) false = if cell ns 1 % 8 = 1 then 10 + cell ns 1 / 8 % 31 else 0 := by unfold smallN; rw [if_neg (fun q => by cases q.1)]
      rw [es]
      generalize (if cell ns 1 % 8 = 1 then 10 + cell ns 1 / 8 % 31 else 0) = z
      repeat (first | simp only [m8, d8, m99] | walk_at "dl")
    | true =>
      by_cases h : cell ns 1 % 8 = 3
      · have es : smallN (cell ns 1) true = 90 + cell ns 1 / 8 % 99 := by unfold smallN; rw [if_pos ⟨rfl, h⟩]
        rw [es]
        generalize (if cell ns 1 % 8 = 1 then 10 + cell ns 1 / 8 % 31 else 0) = z
        repeat (first | simp only [m8, d8, m99, h] | walk_at "dl")
      · have es : smallN (cell ns 1) true = if cell ns 1 % 8 = 1 then 10 + cell ns 1 / 8 % 31 else 0 := by unfold smallN; rw [if_neg (fun q => h q.2)]
        rw [es]
        generalize (if cell ns 1 % 8 = 1 then 10 + cell ns 1 / 8 % 31 else 0) = z
        repeat (first | simp only [m8, d8, m99, h] | walk_at "dl")) rfl]
  unfold sp7
  obtain ⟨l7, h7⟩ := sp_loop (ns := ns) (large := large) (far := cell ns 1) (n := some (.int (smallN (cell ns 1) large))) (c := none) mi.1 hm (smallN (cell ns 1) large).toNat 0 none (by omega)
  rw [Nat.zero_add] at h7
  rw [cutR (spS ns most large (freeMn ns) (cell ns 1) (smallL (cell ns 1) (freeMn ns) most (smallN (cell ns 1) large).toNat) (some (.int (smallN (cell ns 1) large))) l7 none) (by
    have ea : mCons (mVar 6) mNil (spS ns most large (freeMn ns) (cell ns 1) [] (some (.int (smallN (cell ns 1) large))) none none) = .ok [.int (smallN (cell ns 1) large)] := rfl
    rw [q_forR, ea, R.run_ok, q_forRK1, decide_eq_true (by omega), R.when_true]
    unfold rangeD
    rw [List.range_eq_range']
    exact h7) rfl]
  unfold sp8
  obtain ⟨l8, h8⟩ := sp_cells (ns := ns) (large := large) (far := cell ns 1) (n := some (.int (smallN (cell ns 1) large))) (k := l7) mi.1 hm ((ns.drop 3).take 12) (smallL (cell ns 1) (freeMn ns) most (smallN (cell ns 1) large).toNat) none (by rw [smallL_len]; omega)
  rw [cutR (spS ns most large (freeMn ns) (cell ns 1) (smallBy ns (freeMn ns) most large) (some (.int (smallN (cell ns 1) large))) l7 l8) (by
    show loopM (stName 8) spA (L2.cutD (ns.map PyData.int) (some 3) (some 15)) _ = _
    rw [k15]
    exact h8) rfl]
  unfold sp9 spS
  repeat (first | simp only [c2, gt] | walk_at "dl")
  rfl
end SL
namespace K10
open PySem PySem.Spec PyProof.Rows L2 SL
local macro_rules | `(tactic| walk_at "dl") => `(tactic| simp only [R.bind_ok, R.bind_bad, R.bind_ex, R.map_ok, R.map_bad, R.map_ex, R.run_ok, R.run_bad, R.run_ex, R.when_true, q_var, q_get, Bool.not_true, Bool.not_false, q_slA, q_slAS, q_slAL, q_slAT, q_forR, q_forRK1, q_for, q_forK, q_forT, q_stN, q_isN, isN_none, isN_tup, g_ixS, q_ixK, q_part, q_partK, q_noPart, q_sl, q_slK, q_try, tryK_ex, tryK_nx, tryK_rt, q_hand, handK_t, handK_f, hand_nil, noEx_nx, q_tryIsK, tryIsK_nx, q_c, q_bin, q_nil, q_cons, q_call, q_callN, q_tup, q_lst, q_B, q_boolD, q_not, q_and, q_or, q_andE, q_orE, q_notE, q_neg, q_andK, q_orK, q_notK, q_negK, q_ifE, q_seq, q_seqK, q_seqR, q_seqL, q_seqX, q_skip, q_if, q_set, q_setI, q_setNI, q_own, q_ownI, q_ret, q_retL, q_owned, q_ownV, q_retO, q_drop, q_app, q_appI, q_setAt, q_setAtI, q_put, q_putK, q_hideN, q_inB, q_fin, q_finL, q_finN, q_finX, q_finL', q_finLX, q_raise, g_cmp, g_addI, g_subI, g_mulI, g_modI, g_divI, g_addS, g_addL, g_addT, g_catL, g_ixL, g_ixT, g_atK, g_lenL, g_lenT, g_lenS, g_listL, g_listT, g_tupL, g_all, g_any, g_sum, bools_of, g_allK, g_anyK, g_sumK, g_eqI, g_eqB, q_asg, q_pair, q_mL, q_mcat, q_comp, q_compL, q_compT, q_compR, q_compRI, q_wipe1, q_repK, q_repI, q_hide, q_hide0, q_hideM, memB_nil, memB_cons, Nat.reduceBEq, Bool.or_false, Bool.false_or, Bool.or_true, Bool.true_or, List.map_cons, List.map_nil, decide_false, Nat.reduceEqDiff, reduceCtorEq, List.getElem?_cons_zero, List.getElem?_cons_succ, List.set_cons_zero, List.set_cons_succ, List.length_cons, List.length_nil, Nat.zero_add, Nat.reduceAdd, Nat.reduceLT, decide_true, Bool.and_true, Bool.true_and, if_true, decide_eq_true_eq, Bool.false_eq_true, if_false])
def topS (i : Nat) : Stmt := PySem.Challenge.pw_signalgraph_k10_whole_quiet.main.body.getD i (.Pass ⟨0, 0, 0, 0⟩)
abbrev N__law_cell_at : List Str := ["_law_script", "_law_k"]
abbrev s__law_cell_at : Stmt := topS 42
theorem sc__law_cell_at : FnScope N__law_cell_at ["_law_script", "_law_k"] (defScope s__law_cell_at) := ⟨rfl, rfl, rfl, by decide +kernel, rfl, by decide +kernel, by decide +kernel⟩
abbrev N__law_mixed : List Str := ["_law_cell", "_law_k", "_law_many_here", "_law_some"]
abbrev s__law_mixed : Stmt := topS 43
theorem sc__law_mixed : FnScope N__law_mixed ["_law_cell", "_law_k", "_law_many_here"] (defScope s__law_mixed) := ⟨rfl, rfl, rfl, by decide +kernel, rfl, by decide +kernel, by decide +kernel⟩
abbrev N__law_many : List Str := ["_law_cell"]
abbrev s__law_many : Stmt := topS 45
theorem sc__law_many : FnScope N__law_many ["_law_cell"] (defScope s__law_many) := ⟨rfl, rfl, rfl, by decide +kernel, rfl, by decide +kernel, by decide +kernel⟩
abbrev N__law_gate_by : List Str := ["_law_cell", "_law_below", "_law_most", "_law_way", "_law_many_here", "_law_sources", "_law_k", "_law_kind"]
abbrev s__law_gate_by : Stmt := topS 46
theorem sc__law_gate_by : FnScope N__law_gate_by ["_law_cell", "_law_below", "_law_most"] (defScope s__law_gate_by) := ⟨rfl, rfl, rfl, by decide +kernel, rfl, by decide +kernel, by decide +kernel⟩
abbrev N__law_place : List Str := ["_law_k", "_law_count", "_law_turn"]
abbrev s__law_place : Stmt := topS 47
theorem sc__law_place : FnScope N__law_place ["_law_k", "_law_count", "_law_turn"] (defScope s__law_place) := ⟨rfl, rfl, rfl, by decide +kernel, rfl, by decide +kernel, by decide +kernel⟩
abbrev N__law_turned : List Str := ["_law_many_here", "_law_gates", "_law_turn", "_law_made", "_law_k", "_law_sources", "_law_source"]
abbrev s__law_turned : Stmt := topS 48
theorem sc__law_turned : FnScope N__law_turned ["_law_many_here", "_law_gates", "_law_turn"] (defScope s__law_turned) := ⟨rfl, rfl, rfl, by decide +kernel, rfl, by decide +kernel, by decide +kernel⟩
abbrev N__law_truths : List Str := ["_law_cell", "_law_many_here", "_law_k"]
abbrev s__law_truths : Stmt := topS 44
theorem sc__law_truths : FnScope N__law_truths ["_law_cell", "_law_many_here"] (defScope s__law_truths) := ⟨rfl, rfl, rfl, by decide +kernel, rfl, by decide +kernel, by decide +kernel⟩
abbrev N__law_answered : List Str := ["_law_kind", "_law_given", "_law_many_here", "_law_one"]
abbrev s__law_answered : Stmt := topS 50
theorem sc__law_answered : FnScope N__law_answered ["_law_kind", "_law_given"] (defScope s__law_answered) := ⟨rfl, rfl, rfl, by decide +kernel, rfl, by decide +kernel, by decide +kernel⟩
section
variable {P : Program} {w : World} {K : PySem.W.Frag} {mg : Str → Option Value} {base : Heap} {cv : Nat → Value} {f : Addr} {fd : FuncData}
theorem h__law_cell_at (F : Fun K "_law_cell_at" "_law_cell_at" s__law_cell_at f fd) (mf : mg "_law_cell_at" = some (.ref f)) (bd : Binds K fd ["_law_script", "_law_k"] []) (m_len : mg "len" = none) : Has P w K mg base cv "_law_cell_at" ["_law_script", "_law_k"] 1 g_cell := by
  have nd := sc__law_cell_at.nd
  refine Has.imp (has_D [] F mf bd sc__law_cell_at (by decide) (fun cdv A outer s H E hr => (dss_cons (ds_if (dt_cmp op_lt dop_cmp (de_var 1) (de_callB call_lenD2 dc_len (by rfl) m_len PySem.boot_len (da_cons (de_var 0) da_nil))) (dss_one (ds_ret (de_ix ix_any dop_ix (de_var 0) (de_var 1)))) dss_nil)
      (dss_one (ds_ret de_int))))) fun ds => ?_
  unfold g_cell
  split
  · rename_i xs k
    by_cases h0 : 0 ≤ k
    · rw [decide_eq_true h0, R.when_true]
      refine .inr ?_
      rw [chk_ok (by rfl), show startD N__law_cell_at [.list xs, .int k] = [some (.list xs), some (.int k)] from rfl]
      walk_at "dl"
      by_cases hk : k < (xs.length : Int)
      · rw [if_pos hk, atI_in h0 hk (.int 0)]
        walk_at "dl"
      · rw [if_neg hk]
        walk_at "dl"
        rw [List.getD_eq_getElem?_getD, List.getElem?_eq_none (by omega)]; rfl
    · rw [decide_eq_false h0]; exact .inl rfl
  · exact .inl rfl
theorem h__law_mixed (F : Fun K "_law_mixed" "_law_mixed" s__law_mixed f fd) (mf : mg "_law_mixed" = some (.ref f)) (bd : Binds K fd ["_law_cell", "_law_k", "_law_many_here"] []) : Has P w K mg base cv "_law_mixed" ["_law_cell", "_law_k", "_law_many_here"] 1 g_mixed := by
  have nd := sc__law_mixed.nd
  refine Has.imp (has_D [] F mf bd sc__law_mixed (by decide) (fun cdv A outer s H E hr => (dss_cons (ds_set (i := 3) nd rfl (Or.inl rfl) (DN.de (dn_lst (da_cons de_int (da_cons de_int (da_cons de_int (da_cons de_int (da_cons de_int (da_cons de_int (da_cons de_int (da_cons de_int (da_cons de_int (da_cons de_int (da_cons de_int da_nil))))))))))))))
      (dss_one (ds_ret (de_op op_mod dop_mod (de_op op_mod dop_mod (de_op op_mul dop_mul (de_op op_addD dop_add (de_var 0) (de_op op_mul dop_mul de_int (de_var 1))) de_int) (de_ix ix_any dop_ix (de_var 3) (de_op op_mod dop_mod (de_var 1) de_int))) (de_var 2))))))) fun ds => ?_
  unfold g_mixed
  split
  · rename_i c k m
    by_cases h : 0 ≤ k ∧ 0 < m
    · rw [decide_eq_true h, R.when_true]
      refine .inr ?_
      rw [chk_ok (by rfl), show startD N__law_mixed [.int c, .int k, .int m] = [some (.int c), some (.int k), some (.int m), none] from rfl]
      obtain ⟨i, hi, ei⟩ : ∃ i : Nat, i < 11 ∧ k % 11 = (i : Int) := ⟨(k % 11).toNat, by omega, by omega⟩
      have m1 : mulOk 7 k = true := decide_eq_true (.inl (by decide))
      have m2 : mulOk (c + 7 * k) 48271 = true := decide_eq_true (.inr (by decide))
      have m3 : modOk k 11 = true := rfl
      have m4 : modOk ((c + 7 * k) * 48271) (tbl i) = true := decide_eq_true (tbl_pos i)
      have m5 : ∀ a, modOk a m = true := fun a => decide_eq_true h.2
      have sz : szOk 11 = true := by decide
      repeat (first | simp only [m1, m2, m3, m4, m5, sz, ei, tbl_at i hi] | walk_at "dl")
      unfold mixed
      rw [ei]; rfl
    · rw [decide_eq_false h]; exact .inl rfl
  · exact .inl rfl

theorem h__law_many (F : Fun K "_law_many" "_law_many" s__law_many f fd) (mf : mg "_law_many" = some (.ref f)) (bd : Binds K fd ["_law_cell"] []) : Has P w K mg base cv "_law_many" ["_law_cell"] 1 g_many := by
  have nd := sc__law_many.nd
  refine Has.imp (has_D [] F mf bd sc__law_many (by decide) (fun cdv A outer s H E hr => (dss_cons (ds_if (dt_cmp (op_eqD hr.units) dop_eq (de_op op_mod dop_mod (de_op op_fdiv dop_div (de_var 0) de_int) de_int) de_int) (dss_one (ds_ret (de_op op_addD dop_add de_int (de_op op_mod dop_mod (de_op op_fdiv dop_div (de_var 0) de_int) de_int)))) dss_nil)
      (dss_cons (ds_if (dt_cmp (op_eqD hr.units) dop_eq (de_op op_mod dop_mod (de_op op_fdiv dop_div (de_var 0) de_int) de_int) de_int) (dss_one (ds_ret (de_op op_addD dop_add de_int (de_op op_mod dop_mod (de_op op_fdiv dop_div (de_var 0) de_int) de_int)))) dss_nil)
      (dss_one (ds_ret (de_op op_mod dop_mod (de_var 0) de_int))))))) fun ds => ?_
  unfold g_many
  split
  · rename_i c
    refine .inr ?_
    rw [chk_ok (by rfl), show startD N__law_many [.int c] = [some (.int c)] from rfl]
    have d6 : ∀ a, divOk a 6 = true := fun _ => rfl
    have d48 : ∀ a, divOk a 48 = true := fun _ => rfl
    have m8 : ∀ a, modOk a 8 = true := fun _ => rfl
    have m4 : ∀ a, modOk a 4 = true := fun _ => rfl
    have m11 : ∀ a, modOk a 11 = true := fun _ => rfl
    have m44 : ∀ a, modOk a 44 = true := fun _ => rfl
    have m6 : ∀ a, modOk a 6 = true := fun _ => rfl
    unfold many
    by_cases h1 : c / 6 % 8 = 1
    · rw [if_pos h1]
      repeat (first | simp only [d6, d48, m8, m4, m11, m44, m6, h1] | walk_at "dl")
    · rw [if_neg h1]
      by_cases h2 : c / 6 % 4 = 2
      · rw [if_pos h2]
        repeat (first | simp only [d6, d48, m8, m4, m11, m44, m6, h1, h2] | walk_at "dl")
      · rw [if_neg h2]
        repeat (first | simp only [d6, d48, m8, m4, m11, m44, m6, h1, h2] | walk_at "dl")
  · exact .inl rfl
theorem h__law_place (F : Fun K "_law_place" "_law_place" s__law_place f fd) (mf : mg "_law_place" = some (.ref f)) (bd : Binds K fd ["_law_k", "_law_count", "_law_turn"] []) : Has P w K mg base cv "_law_place" ["_law_k", "_law_count", "_law_turn"] 1 g_place := by
  have nd := sc__law_place.nd
  refine Has.imp (has_D [] F mf bd sc__law_place (by decide) (fun cdv A outer s H E hr => (dss_cons (ds_if (dt_cmp (op_eqD hr.units) dop_eq (de_op op_mod dop_mod (de_var 2) de_int) de_int) (dss_one (ds_set (i := 0) nd rfl (Or.inl rfl) (de_op op_sub dop_sub (de_op op_sub dop_sub (de_var 1) de_int) (de_var 0)))) dss_nil)
      (dss_one (ds_ret (de_op op_mod dop_mod (de_op op_addD dop_add (de_var 0) (de_op op_fdiv dop_div (de_var 2) de_int)) (de_var 1))))))) fun ds => ?_
  unfold g_place
  split
  · rename_i k n t
    by_cases hn : 0 < n
    · rw [decide_eq_true hn, R.when_true]
      refine .inr ?_
      rw [chk_ok (by rfl), show startD N__law_place [.int k, .int n, .int t] = [some (.int k), some (.int n), some (.int t)] from rfl]
      have m2 : ∀ a, modOk a 2 = true := fun _ => rfl
      have d2 : ∀ a, divOk a 2 = true := fun _ => rfl
      have mn : ∀ a, modOk a n = true := fun _ => decide_eq_true hn
      unfold place
      by_cases h : t % 2 = 1
      · rw [if_pos h]
        repeat (first | simp only [m2, d2, mn, h] | walk_at "dl")
      · rw [if_neg h]
        repeat (first | simp only [m2, d2, mn, h] | walk_at "dl")
    · rw [decide_eq_false hn]; exact .inl rfl
  · exact .inl rfl
theorem ways_at : ∀ i : Nat, i < 12 → atI ([.int 0, .int 1, .int 2, .int 3, .int 4, .int 5, .int 6, .int 7, .int 8, .int 3, .int 6, .int 7] : List D) (i : Int) = some (.int (wayTab i : Nat))
  | 0, _ => rfl | 1, _ => rfl | 2, _ => rfl | 3, _ => rfl | 4, _ => rfl | 5, _ => rfl | 6, _ => rfl | 7, _ => rfl | 8, _ => rfl | 9, _ => rfl | 10, _ => rfl | 11, _ => rfl
  | n + 12, h => by omega
theorem nums_at : ∀ i : Nat, i < 9 → atI ([.int 0, .int 0, .int 1, .int 1, .int 2, .int 2, .int 2, .int 3, .int 3] : List D) (i : Int) = some (.int (numTab i : Nat))
  | 0, _ => rfl | 1, _ => rfl | 2, _ => rfl | 3, _ => rfl | 4, _ => rfl | 5, _ => rfl | 6, _ => rfl | 7, _ => rfl | 8, _ => rfl
  | n + 9, h => by omega
theorem bigs_at : ∀ i : Nat, i < 9 → atI ([.int 2, .int 2, .int 3, .int 4, .int 5, .int 6, .int 7, .int 8, .int 9] : List D) (i : Int) = some (.int (bigTab i : Nat))
  | 0, _ => rfl | 1, _ => rfl | 2, _ => rfl | 3, _ => rfl | 4, _ => rfl | 5, _ => rfl | 6, _ => rfl | 7, _ => rfl | 8, _ => rfl
  | n + 9, h => by omega
def m__law_gate_by_6 : DS → R Out :=
  (mSeq (mSet [5] 7 (mBin gIx (mL (mLst (mCons (mC (.str "yes")) (mCons (mC (.str "no")) (mCons (mC (.str "keep")) (mCons (mC (.str "not")) (mCons (mC (.str "both")) (mCons (mC (.str "either")) (mCons (mC (.str "unlike")) (mCons (mC (.str "pick")) (mCons (mC (.str "most")) mNil))))))))))) (mVar 3)))
    (mRet (mTup (mCons (mVar 7) (mCons (mCall gTuple (mCons (mVar 5) mNil)) (mCons (mBin gAdd (mC (.int 1)) (mCall g_mixed (mCons (mVar 0) (mCons (mC (.int 10)) (mCons (mVar 2) mNil))))) mNil))))))
def m__law_gate_by_5 : DS → R Out :=
  (mSeq (mIf (mAnd (mB (mBin (gCmp fun i j => decide (j < i)) (mVar 4) (mC (.int 0)))) (mB (mBin gEq (mBin gMod (mBin gDiv (mVar 0) (mC (.int 12))) (mC (.int 2))) (mC (.int 1))))) (mSetAt [5] 5 (mBin gSubI (mVar 1) (mC (.int 1))) (mC (.int 0))) mSkip)
    m__law_gate_by_6)
def m__law_gate_by_4 : DS → R Out :=
  (mSeq (mOwn [5] 5 (mCompR [6] 6 (mCons (mVar 4) mNil) mYes (mCall g_mixed (mCons (mBin gDiv (mVar 0) (mC (.int 12))) (mCons (mVar 6) (mCons (mVar 1) mNil))))))
    m__law_gate_by_5)
def m__law_gate_by_2 : DS → R Out :=
  (mSeq (mSet [5] 4 (mBin gIx (mL (mLst (mCons (mC (.int 0)) (mCons (mC (.int 0)) (mCons (mC (.int 1)) (mCons (mC (.int 1)) (mCons (mC (.int 2)) (mCons (mC (.int 2)) (mCons (mC (.int 2)) (mCons (mC (.int 3)) (mCons (mC (.int 3)) mNil))))))))))) (mVar 3)))
    (mSeq (mIf (mB (mBin gEq (mVar 4) (mC (.int 2)))) (mSet [5] 4 (mBin gIx (mL (mLst (mCons (mC (.int 2)) (mCons (mC (.int 2)) (mCons (mC (.int 3)) (mCons (mC (.int 4)) (mCons (mC (.int 5)) (mCons (mC (.int 6)) (mCons (mC (.int 7)) (mCons (mC (.int 8)) (mCons (mC (.int 9)) mNil))))))))))) (mCall g_mixed (mCons (mVar 0) (mCons (mC (.int 9)) (mCons (mC (.int 9)) mNil)))))) mSkip)
    m__law_gate_by_4))
def m__law_gate_by : DS → R Out :=
  (mSeq (mSet [5] 3 (mBin gIx (mL (mLst (mCons (mC (.int 0)) (mCons (mC (.int 1)) (mCons (mC (.int 2)) (mCons (mC (.int 3)) (mCons (mC (.int 4)) (mCons (mC (.int 5)) (mCons (mC (.int 6)) (mCons (mC (.int 7)) (mCons (mC (.int 8)) (mCons (mC (.int 3)) (mCons (mC (.int 6)) (mCons (mC (.int 7)) mNil)))))))))))))) (mBin gMod (mVar 0) (mC (.int 12)))))
    (mSeq (mIf (mB (mBin gEq (mVar 1) (mC (.int 0)))) (mSet [5] 3 (mBin gMod (mVar 0) (mC (.int 2)))) mSkip)
    m__law_gate_by_2))
theorem h__law_gate_by (F : Fun K "_law_gate_by" "_law_gate_by" s__law_gate_by f fd) (mf : mg "_law_gate_by" = some (.ref f)) (bd : Binds K fd ["_law_cell", "_law_below", "_law_most"] []) (h__law_mixed : Has P w K mg base cv "_law_mixed" ["_law_cell", "_law_k", "_law_many_here"] 1 g_mixed) (m_range : mg "range" = none) (m_tuple : mg "tuple" = none) : Has P w K mg base cv "_law_gate_by" ["_law_cell", "_law_below", "_law_most"] 2 g_gateby := by
  have nd := sc__law_gate_by.nd
  refine Has.imp (has_D (m := m__law_gate_by) [5] F mf bd sc__law_gate_by (by decide) (fun cdv A outer s H E hr => (dss_cons (ds_set (i := 3) nd rfl (Or.inl rfl) (de_ix ix_any dop_ix (DN.de (dn_lst (da_cons de_int (da_cons de_int (da_cons de_int (da_cons de_int (da_cons de_int (da_cons de_int (da_cons de_int (da_cons de_int (da_cons de_int (da_cons de_int (da_cons de_int (da_cons de_int da_nil)))))))))))))) (de_op op_mod dop_mod (de_var 0) de_int)))
      (dss_cons (ds_if (dt_cmp (op_eqD hr.units) dop_eq (de_var 1) de_int) (dss_one (ds_set (i := 3) nd rfl (Or.inl rfl) (de_op op_mod dop_mod (de_var 0) de_int))) dss_nil)
      (dss_cons (ds_set (i := 4) nd rfl (Or.inl rfl) (de_ix ix_any dop_ix (DN.de (dn_lst (da_cons de_int (da_cons de_int (da_cons de_int (da_cons de_int (da_cons de_int (da_cons de_int (da_cons de_int (da_cons de_int (da_cons de_int da_nil))))))))))) (de_var 3)))
      (dss_cons (ds_if (dt_cmp (op_eqD hr.units) dop_eq (de_var 4) de_int) (dss_one (ds_set (i := 4) nd rfl (Or.inl rfl) (de_ix ix_any dop_ix (DN.de (dn_lst (da_cons de_int (da_cons de_int (da_cons de_int (da_cons de_int (da_cons de_int (da_cons de_int (da_cons de_int (da_cons de_int (da_cons de_int da_nil))))))))))) (de_has h__law_mixed hr (pass_def rfl rfl rfl rfl) (da_cons (de_var 0) (da_cons de_int (da_cons de_int da_nil))))))) dss_nil)
      (dss_cons (ds_lcO (i := 5) (dn_compRS (own := [("_law_k", 6)]) rfl rfl (sw_true rfl rfl rfl (by decide +kernel)) rfl nd (by rfl) m_range (de_var 4) (blkOk_by (N := N__law_gate_by) (sc := defScope s__law_gate_by) (by decide +kernel)) (fun _ _ _ _ _ => pg_name (i := 6) nd rfl (Or.inl rfl)) (fun _ _ _ _ _ => dts_nil) (fun _ _ _ _ _ => (de_has h__law_mixed hr (pass_blk rfl) (da_cons (de_op op_fdiv dop_div (de_var 0) de_int) (da_cons (de_var 6) (da_cons (de_var 1) da_nil))))) (fun _ _ => wipe_one)))
      (dss_cons (ds_if (dt_w (dw_and (dt_cmp op_gt dop_cmp (de_var 4) de_int) (dw_one (dt_cmp (op_eqD hr.units) dop_eq (de_op op_mod dop_mod (de_op op_fdiv dop_div (de_var 0) de_int) de_int) de_int)))) (dss_one (ds_setAt (i := 5) rfl (by first | exact Or.inl rfl | exact Or.inr (Or.inl rfl)) (fun a b => pg_sub a b set_list) (de_op op_sub dop_sub (de_var 1) de_int) de_int)) dss_nil)
      (dss_cons (ds_set (i := 7) nd rfl (Or.inl rfl) (de_ix ix_any dop_ix (DN.de (dn_lst (da_cons de_str (da_cons de_str (da_cons de_str (da_cons de_str (da_cons de_str (da_cons de_str (da_cons de_str (da_cons de_str (da_cons de_str da_nil))))))))))) (de_var 3)))
      (dss_one (ds_ret (de_tup (da_cons (de_var 7) (da_cons (de_callTy call_tuple_of dc_tuple (by rfl) m_tuple (by decide +kernel) (da_cons (de_var 5) da_nil)) (da_cons (de_op op_addD dop_add de_int (de_has h__law_mixed hr (pass_def rfl rfl rfl rfl) (da_cons (de_var 0) (da_cons de_int (da_cons (de_var 2) da_nil))))) da_nil))))))))))))))) fun ds => ?_
  unfold g_gateby
  split
  · rename_i c below most
    by_cases hh : 0 ≤ below ∧ 0 < most
    · obtain ⟨hb, hm⟩ := hh
      rw [decide_eq_true ⟨hb, hm⟩, R.when_true]
      refine .inr ?_
      rw [chk_ok (by rfl), show startD N__law_gate_by [.int c, .int below, .int most] = [some (.int c), some (.int below), some (.int most), none, none, none, none, none] from rfl]
      have m12 : ∀ a, modOk a 12 = true := fun _ => rfl
      have m2 : ∀ a, modOk a 2 = true := fun _ => rfl
      have d12 : ∀ a, divOk a 12 = true := fun _ => rfl
      have sz12 : szOk 12 = true := by decide
      have sz9 : szOk 9 = true := by decide
      have sz3 : szOk 3 = true := by decide
      have hw := wayOf_lt c below
      obtain ⟨j, hj, ej⟩ : ∃ j : Nat, j < 12 ∧ c % 12 = (j : Int) := ⟨(c % 12).toNat, by omega, by omega⟩
      unfold m__law_gate_by
      refine cut (fun δ => δ = [some (.int c), some (.int below), some (.int most), some (.int (wayTab j : Nat)), none, none, none, none]) ⟨_, ?_, rfl⟩ fun δ h => ?_
      · repeat (first | simp only [m12, sz12, ej, ways_at j hj] | walk_at "dl")
      subst h
      refine cut (fun δ => δ = [some (.int c), some (.int below), some (.int most), some (.int (wayOf c below : Nat)), none, none, none, none]) ⟨_, ?_, rfl⟩ fun δ h => ?_
      · unfold wayOf
        by_cases h : below = 0
        · rw [if_pos h]
          rw [show (((c % 2).toNat : Nat) : Int) = c % 2 from by omega]
          repeat (first | simp only [m2, h] | walk_at "dl")
        · rw [if_neg h, ej, Int.toNat_natCast]
          repeat (first | simp only [m2, h] | walk_at "dl")
      subst h
      unfold m__law_gate_by_2
      refine cut (fun δ => δ = [some (.int c), some (.int below), some (.int most), some (.int (wayOf c below : Nat)), some (.int (numTab (wayOf c below) : Nat)), none, none, none]) ⟨_, ?_, rfl⟩ fun δ h => ?_
      · repeat (first | simp only [sz9, nums_at _ hw] | walk_at "dl")
      subst h
      have mx9 := mixed_in (c := c) (k := 9) (m := 9) (by decide)
      have x9 : g_mixed [.int c, .int 9, .int 9] = .ok (.int ((mixed c 9 9).toNat : Nat)) := by rw [mixed_ev (by decide) (by decide), Int.toNat_of_nonneg mx9.1]
      refine cut (fun δ => δ = [some (.int c), some (.int below), some (.int most), some (.int (wayOf c below : Nat)), some (.int (srcN c below : Nat)), none, none, none]) ⟨_, ?_, rfl⟩ fun δ h => ?_
      · unfold srcN
        by_cases h : numTab (wayOf c below) = 2
        · rw [if_pos h]
          have h2 : ((numTab (wayOf c below) : Nat) : Int) = 2 := by omega
          repeat (first | simp only [h2, sz9, x9, bigs_at _ (show (mixed c 9 9).toNat < 9 by omega)] | walk_at "dl")
        · rw [if_neg h]
          have h2 : ¬ ((numTab (wayOf c below) : Nat) : Int) = 2 := by omega
          repeat (first | simp only [h2] | walk_at "dl")
      subst h
      unfold m__law_gate_by_4
      have hn9 := srcN_le c below
      refine cut (fun δ => δ = [some (.int c), some (.int below), some (.int most), some (.int (wayOf c below : Nat)), some (.int (srcN c below : Nat)), some (.list (intsOf (srcs0 c below))), none, none]) ⟨_, ?_, rfl⟩ fun δ h => ?_
      · walk_at "dl"
        rw [decide_eq_true (show -(2 ^ 62) ≤ ((srcN c below : Nat) : Int) ∧ ((srcN c below : Nat) : Int).toNat < sizeLine from ⟨by omega, by rw [Int.toNat_natCast]; exact small1000 (by omega)⟩), Int.toNat_natCast, R.when_true]
        rw [comp_range (f := fun k => .int (mixed (c / 12) (k : Nat) below)) fun k hk => ?_]
        · walk_at "dl"
          unfold intsOf srcs0
          rw [List.map_map]; rfl
        · have hb0 : 0 < below := by
            rcases Int.lt_or_eq_of_le hb with z | z
            · exact z
            · rw [way_zero z.symm] at hk; omega
          repeat (first | simp only [d12, mixed_ev (show (0 : Int) ≤ (k : Nat) by omega) hb0] | walk_at "dl")
      subst h
      unfold m__law_gate_by_5
      refine cut (fun δ => δ = [some (.int c), some (.int below), some (.int most), some (.int (wayOf c below : Nat)), some (.int (srcN c below : Nat)), some (.list (intsOf (srcs c below))), none, none]) ⟨_, ?_, rfl⟩ fun δ h => ?_
      · unfold srcs
        by_cases h : 0 < srcN c below ∧ c / 12 % 2 = 1
        · rw [if_pos h]
          have h1 : (0 : Int) < (srcN c below : Nat) := by omega
          have hl : (intsOf (srcs0 c below)).length = srcN c below := by unfold intsOf srcs0; rw [List.length_map, List.length_map, List.length_range]
          have ix0 : ixN (intsOf (srcs0 c below)).length 0 = some 0 := ix_in (Int.le_refl 0) (by rw [hl]; exact h1)
          repeat (first | simp only [h1, h.2, d12, m2, ix0] | walk_at "dl")
          unfold intsOf
          rw [List.map_set]
        · rw [if_neg h]
          by_cases h1 : (0 : Int) < (srcN c below : Nat)
          · have h2 : ¬ c / 12 % 2 = 1 := fun q => h ⟨by omega, q⟩
            repeat (first | simp only [h1, h2, d12, m2] | walk_at "dl")
          · repeat (first | simp only [h1] | walk_at "dl")
      subst h
      unfold m__law_gate_by_6
      refine cut (fun δ => δ = [some (.int c), some (.int below), some (.int most), some (.int (wayOf c below : Nat)), some (.int (srcN c below : Nat)), some (.list (intsOf (srcs c below))), none, some (.str (kd (wayOf c below)))]) ⟨_, ?_, rfl⟩ fun δ h => ?_
      · repeat (first | simp only [sz9, kinds_at _ hw] | walk_at "dl")
      subst h
      repeat (first | simp only [sz3, mixed_ev (show (0 : Int) ≤ 10 by decide) hm] | walk_at "dl")
      rfl
    · rw [decide_eq_false hh]; exact .inl rfl
  · exact .inl rfl
def m__law_turned_1 : DS → R Out :=
  (mSeq (mForR (mCons (mCall gLen (mCons (mVar 1) mNil)) mNil) (stName 4) (mSeq (mOwn [3, 5] 5 (mLst mNil))
    (mSeq (mFor [3, 5] (mBin gIx (mBin gIx (mVar 1) (mVar 4)) (mC (.int 1))) (stName 6) (mSeq (mIf (mB (mBin (gCmp fun i j => decide (j ≤ i)) (mVar 6) (mVar 0))) (mSet [3, 5] 6 (mBin gAdd (mVar 0) (mCall g_place (mCons (mBin gSubI (mVar 6) (mVar 0)) (mCons (mCall gLen (mCons (mVar 1) mNil)) (mCons (mVar 2) mNil)))))) mSkip)
    (mApp [3, 5] 5 (mVar 6))))
    (mSetAtI 3 (mTup (mCons (mBin gIx (mBin gIx (mVar 1) (mVar 4)) (mC (.int 0))) (mCons (mCall gTuple (mCons (mVar 5) mNil)) (mCons (mBin gIx (mBin gIx (mVar 1) (mVar 4)) (mC (.int 2))) mNil)))) (mCall g_place (mCons (mVar 4) (mCons (mCall gLen (mCons (mVar 1) mNil)) (mCons (mVar 2) mNil))))))))
    (mRet (mTup (mCons (mVar 0) (mCons (mVar 3) mNil)))))
def m__law_turned : DS → R Out :=
  (mSeq (mOwn [3, 5] 3 (mRep (mLst (mCons (mC .none) mNil)) (mCall gLen (mCons (mVar 1) mNil))))
    m__law_turned_1)
theorem h__law_turned (F : Fun K "_law_turned" "_law_turned" s__law_turned f fd) (mf : mg "_law_turned" = some (.ref f)) (bd : Binds K fd ["_law_many_here", "_law_gates", "_law_turn"] []) (h__law_place : Has P w K mg base cv "_law_place" ["_law_k", "_law_count", "_law_turn"] 1 g_place) (m_len : mg "len" = none) (m_range : mg "range" = none) (m_tuple : mg "tuple" = none) : Has P w K mg base cv "_law_turned" ["_law_many_here", "_law_gates", "_law_turn"] 2 g_turned := by
  have nd := sc__law_turned.nd
  refine Has.imp (has_D (m := m__law_turned) [3, 5] F mf bd sc__law_turned (by decide) (fun cdv A outer s H E hr => (dss_cons (ds_own (i := 3) nd rfl (Or.inl rfl) (dn_rep (dn_lst (da_cons de_non da_nil)) (de_callB call_lenD2 dc_len (by rfl) m_len PySem.boot_len (da_cons (de_var 1) da_nil))))
      (dss_cons (ds_forR1 (passes_of rfl) rfl (by rfl) m_range (da_cons (de_callB call_lenD2 dc_len (by rfl) m_len PySem.boot_len (da_cons (de_var 1) da_nil)) da_nil) (dg_name (i := 4) nd rfl (Or.inl rfl)) (dss_cons (ds_own (i := 5) nd rfl (Or.inl rfl) (dn_lst da_nil))
      (dss_cons (ds_for (passes_of rfl) rfl (de_ix ix_any dop_ix (de_ix ix_any dop_ix (de_var 1) (de_var 4)) de_int) (dg_name (i := 6) nd rfl (Or.inl rfl)) (dss_cons (ds_if (dt_cmp op_ge dop_cmp (de_var 6) (de_var 0)) (dss_one (ds_set (i := 6) nd rfl (Or.inl rfl) (de_op op_addD dop_add (de_var 0) (de_has h__law_place hr (pass_def rfl rfl rfl rfl) (da_cons (de_op op_sub dop_sub (de_var 6) (de_var 0)) (da_cons (de_callB call_lenD2 dc_len (by rfl) m_len PySem.boot_len (da_cons (de_var 1) da_nil)) (da_cons (de_var 2) da_nil))))))) dss_nil)
      (dss_one (ds_app (i := 5) rfl (by first | exact Or.inl rfl | exact Or.inr (Or.inl rfl)) (de_var 6)))))
      (dss_one (ds_setAtI (i := 3) rfl (by first | exact Or.inl rfl | exact Or.inr (Or.inl rfl)) (fun a b => pg_sub a b set_list) (de_tup (da_cons (de_ix ix_any dop_ix (de_ix ix_any dop_ix (de_var 1) (de_var 4)) de_int) (da_cons (de_callTy call_tuple_of dc_tuple (by rfl) m_tuple (by decide +kernel) (da_cons (de_var 5) da_nil)) (da_cons (de_ix ix_any dop_ix (de_ix ix_any dop_ix (de_var 1) (de_var 4)) de_int) da_nil)))) (de_has h__law_place hr (pass_def rfl rfl rfl rfl) (da_cons (de_var 4) (da_cons (de_callB call_lenD2 dc_len (by rfl) m_len PySem.boot_len (da_cons (de_var 1) da_nil)) (da_cons (de_var 2) da_nil)))))))))
      (dss_one (ds_ret (de_tup (da_cons (de_var 0) (da_cons (de_var 3) da_nil))))))))) fun ds => ?_
  unfold g_turned
  split
  · rename_i mn xs t
    split
    · rename_i gs hx
      have hx := gatesOf_inv hx
      subst hx
      cases hc : decide (gs.length ≤ 1000) && gs.all fun g => decide (g.2.1.length ≤ 1000) with
      | false => exact .inl rfl
      | true =>
        refine .inr ?_
        rw [Bool.and_eq_true] at hc
        have hl := of_decide_eq_true hc.1
        have hs : ∀ g ∈ gs, g.2.1.length ≤ 1000 := fun g hg => of_decide_eq_true (List.all_eq_true.mp hc.2 g hg)
        rw [chk_ok (by rfl), show startD N__law_turned [.int mn, .list (gatesD gs), .int t] = [some (.int mn), some (.list (gatesD gs)), some (.int t), none, none, none, none] from rfl]
        have sz1 : szOk 1 = true := by decide
        have sz2 : szOk 2 = true := by decide
        have sz3 : szOk 3 = true := by decide
        have sz0 : szOk 0 = true := by decide
        have gl : (gatesD gs).length = gs.length := gates_len gs
        unfold m__law_turned
        refine cut (fun δ => δ = [some (.int mn), some (.list (gatesD gs)), some (.int t), some (.list (madeD mn gs t 0)), none, none, none]) ⟨_, ?_, rfl⟩ fun δ h => ?_
        · repeat (first | simp only [sz1, gl, show ([] : List D).length + 1 = 1 from rfl] | walk_at "dl")
          rw [show repOk 1 (gs.length : Int) = true from decide_eq_true ⟨by omega, by omega, by rw [Int.toNat_natCast]; exact Nat.le_of_lt (small1000 (by omega))⟩, R.when_true, Int.toNat_natCast, flat_rep, ← made_zero mn gs t]
          walk_at "dl"
        subst h
        unfold m__law_turned_1
        refine cut (fun δ => ∃ x y z, δ = [some (.int mn), some (.list (gatesD gs)), some (.int t), some (.list (madeD mn gs t gs.length)), x, y, z]) ?_ fun δ h => ?_
        · repeat (first | simp only [gl] | walk_at "dl")
          rw [decide_eq_true (show -(2 ^ 62) ≤ (gs.length : Int) ∧ (gs.length : Int) < 2 ^ 62 by omega), R.when_true, Int.toNat_natCast]
          refine loop_rng (fun k δ => ∃ x y z, δ = [some (.int mn), some (.list (gatesD gs)), some (.int t), some (.list (madeD mn gs t k)), x, y, z]) ⟨_, _, _, rfl⟩ fun k δ hk hI => ?_
          obtain ⟨x, y, z, rfl⟩ := hI
          obtain ⟨g, hg⟩ : ∃ g, gs[k]? = some g := ⟨gs[k], List.getElem?_eq_getElem hk⟩
          have hat : atI (gatesD gs) (k : Int) = some (gateD g) := by
            rw [atI_in (by omega) (by rw [gl]; omega) (.none), Int.toNat_natCast]
            unfold gatesD
            rw [List.getD_eq_getElem?_getD, List.getElem?_map, hg]; rfl
          have i0 : gIx (gateD g) (.int 0) = .ok (.str g.1) := rfl
          have i1 : gIx (gateD g) (.int 1) = .ok (.tuple (intsOf g.2.1)) := rfl
          have i2 : gIx (gateD g) (.int 2) = .ok (.int g.2.2) := rfl
          have hgl := hs g (List.mem_of_getElem? hg)
          have hn : (0 : Int) < gs.length := by omega
          have pl : ∀ a, g_place [.int a, .int (gs.length : Int), .int t] = .ok (.int (place a gs.length t)) := fun a => by
            unfold g_place; dsimp only; rw [decide_eq_true hn]; rfl
          have pin := place_in (k := k) (t := t) hn
          refine turn_ex (δ1 := [some (.int mn), some (.list (gatesD gs)), some (.int t), some (.list (madeD mn gs t k)), some (.int (k : Nat)), y, z]) rfl ?_
          refine cutX (fun δ => δ = [some (.int mn), some (.list (gatesD gs)), some (.int t), some (.list (madeD mn gs t k)), some (.int (k : Nat)), some (.list (intsOf [])), z]) ⟨_, ?_, rfl⟩ fun δ h => ?_
          · repeat (first | simp only [sz0] | walk_at "dl")
            rfl
          subst h
          refine cutX (fun δ => ∃ z, δ = [some (.int mn), some (.list (gatesD gs)), some (.int t), some (.list (madeD mn gs t k)), some (.int (k : Nat)), some (.list (intsOf (g.2.1.map (mapS mn gs.length t)))), z]) ?_ fun δ h => ?_
          · repeat (first | simp only [hat, i1] | walk_at "dl")
            refine (loop_inv (fun i δ => ∃ z, δ = [some (.int mn), some (.list (gatesD gs)), some (.int t), some (.list (madeD mn gs t k)), some (.int (k : Nat)), some (.list (intsOf ((g.2.1.take i).map (mapS mn gs.length t)))), z]) (intsOf g.2.1) 0 _ ⟨z, rfl⟩ fun i x δ hx hI => ?_).imp fun δ' h => ⟨h.1, ?_⟩
            · rw [Nat.zero_add] at hI ⊢
              obtain ⟨z, rfl⟩ := hI
              unfold intsOf at hx
              rw [List.getElem?_map] at hx
              cases q : g.2.1[i]? with
              | none => rw [q] at hx; cases hx
              | some s =>
                rw [q] at hx
                cases hx
                have hil := (List.getElem?_eq_some_iff.mp q).1
                have ht : intsOf ((g.2.1.take (i + 1)).map (mapS mn gs.length t)) = intsOf ((g.2.1.take i).map (mapS mn gs.length t)) ++ [.int (mapS mn gs.length t s)] := by
                  rw [List.take_succ, q]
                  unfold intsOf
                  rw [List.map_append, List.map_append]; rfl
                have lt : ltOk (intsOf ((g.2.1.take i).map (mapS mn gs.length t))).length = true := by
                  unfold intsOf
                  rw [List.length_map, List.length_map, List.length_take]
                  exact decide_eq_true (small1000 (by omega))
                refine ⟨_, [some (.int mn), some (.list (gatesD gs)), some (.int t), some (.list (madeD mn gs t k)), some (.int (k : Nat)), some (.list (intsOf ((g.2.1.take (i + 1)).map (mapS mn gs.length t)))), some (.int (mapS mn gs.length t s))], rfl, ?_, ⟨_, rfl⟩⟩
                rw [ht]
                by_cases hms : mn ≤ s
                · rw [show mapS mn gs.length t s = mn + place (s - mn) gs.length t from if_pos hms]
                  repeat (first | simp only [hms, gl, pl, lt] | walk_at "dl")
                · rw [show mapS mn gs.length t s = s from if_neg hms]
                  repeat (first | simp only [hms, lt] | walk_at "dl")
            · obtain ⟨z, hz⟩ := h.2
              refine ⟨z, ?_⟩
              rw [hz, Nat.zero_add]
              unfold intsOf
              rw [List.length_map, List.take_length]
          obtain ⟨z, rfl⟩ := h
          refine ⟨_, ?_, some (.int (k : Nat)), some (.list (intsOf (g.2.1.map (mapS mn gs.length t)))), z, rfl⟩
          have im : imm (.tuple [.str g.1, .tuple (intsOf (g.2.1.map (mapS mn gs.length t))), .int g.2.2]) = true := imm_gate (mapG mn gs.length t g)
          have ixp : ixN (madeD mn gs t k).length (place k gs.length t) = some (place k gs.length t).toNat := ix_in pin.1 (by rw [made_len]; exact pin.2)
          have st := made_set mn gs t hk hg
          repeat (first | simp only [hat, i0, i2, gl, pl, sz3, im, ixp] | walk_at "dl")
          rw [← st]; rfl
        obtain ⟨x, y, z, h⟩ := h
        subst h
        rw [made_all]
        repeat (first | simp only [sz2] | walk_at "dl")
        rfl
    · exact .inl rfl
  · exact .inl rfl
theorem h__law_truths (F : Fun K "_law_truths" "_law_truths" s__law_truths f fd) (mf : mg "_law_truths" = some (.ref f)) (bd : Binds K fd ["_law_cell", "_law_many_here"] []) (h__law_mixed : Has P w K mg base cv "_law_mixed" ["_law_cell", "_law_k", "_law_many_here"] 1 g_mixed) (m_range : mg "range" = none) : Has P w K mg base cv "_law_truths" ["_law_cell", "_law_many_here"] 2 g_truths := by
  have nd := sc__law_truths.nd
  refine Has.imp (has_D [] F mf bd sc__law_truths (by decide) (fun cdv A outer s H E hr => (dss_one (ds_ret (DN.de (dn_compR (own := [("_law_k", 2)]) rfl nd (by rfl) m_range (de_var 1) (blkOk_by (N := N__law_truths) (sc := defScope s__law_truths) (by decide +kernel)) (fun _ _ _ _ _ => pg_name (i := 2) nd rfl (Or.inl rfl)) (fun _ _ _ _ _ => dts_nil) (fun _ _ _ _ _ => (de_cmp (op_eqD hr.units) dop_eq (de_has h__law_mixed hr (pass_blk rfl) (da_cons (de_var 0) (da_cons (de_var 2) (da_cons de_int da_nil)))) de_int)) (fun _ _ => wipe_one))))))) fun ds => ?_
  unfold g_truths
  split
  · rename_i c n
    by_cases h : 0 ≤ n ∧ n ≤ 1000
    · rw [decide_eq_true h, R.when_true]
      refine .inr ?_
      obtain ⟨n, rfl⟩ : ∃ k : Nat, n = (k : Int) := ⟨n.toNat, by omega⟩
      rw [chk_ok (by rfl), show startD N__law_truths [.int c, .int (n : Int)] = [some (.int c), some (.int (n : Int)), none] from rfl]
      walk_at "dl"
      rw [decide_eq_true (show -(2 ^ 62) ≤ (n : Int) ∧ (n : Int).toNat < sizeLine from ⟨by omega, by rw [Int.toNat_natCast]; exact small1000 (by omega)⟩), Int.toNat_natCast, R.when_true]
      rw [comp_range (f := fun k => .bool (decide (mixed c (k : Nat) 2 = 1))) fun k hk => ?_]
      · unfold truths
        rw [List.map_map]; rfl
      · repeat (first | simp only [mixed_ev (show (0 : Int) ≤ (k : Nat) by omega) (show (0 : Int) < 2 by decide)] | walk_at "dl")
    · rw [decide_eq_false h]; exact .inl rfl
  · exact .inl rfl
theorem h__law_answered (F : Fun K "_law_answered" "_law_answered" s__law_answered f fd) (mf : mg "_law_answered" = some (.ref f)) (bd : Binds K fd ["_law_kind", "_law_given"] []) (m_len : mg "len" = none) : Has P w K mg base cv "_law_answered" ["_law_kind", "_law_given"] 1 g_answered := by
  have nd := sc__law_answered.nd
  refine Has.imp (has_D [] F mf bd sc__law_answered (by decide) (fun cdv A outer s H E hr => (dss_cons (ds_set (i := 2) nd rfl (Or.inl rfl) (de_callB call_lenD2 dc_len (by rfl) m_len PySem.boot_len (da_cons (DN.de (dn_comp (own := [("_law_one", 3)]) rfl nd (de_var 1) (blkOk_by (N := N__law_answered) (sc := defScope s__law_answered) (by decide +kernel)) (fun _ _ _ _ _ => pg_name (i := 3) nd rfl (Or.inl rfl)) (fun _ _ _ _ _ => (dts_one (dt_val (de_var 3)))) (fun _ _ _ _ _ => (de_var 3)) (fun _ _ => wipe_one))) da_nil)))
      (dss_cons (ds_if (dt_w (dw_or (dt_cmp (op_eqD hr.units) dop_eq (de_var 0) de_str) (dw_one (dt_cmp (op_eqD hr.units) dop_eq (de_var 0) de_str)))) (dss_one (ds_ret (de_cmp (op_eqD hr.units) dop_eq (de_var 0) de_str))) dss_nil)
      (dss_cons (ds_if (dt_cmp (op_eqD hr.units) dop_eq (de_var 0) de_str) (dss_one (ds_ret (de_ix ix_any dop_ix (de_var 1) de_int))) dss_nil)
      (dss_cons (ds_if (dt_cmp (op_eqD hr.units) dop_eq (de_var 0) de_str) (dss_one (ds_ret (de_not (de_ix ix_any dop_ix (de_var 1) de_int)))) dss_nil)
      (dss_cons (ds_if (dt_cmp (op_eqD hr.units) dop_eq (de_var 0) de_str) (dss_one (ds_ret (de_cmp (op_eqD hr.units) dop_eq (de_var 2) (de_callB call_lenD2 dc_len (by rfl) m_len PySem.boot_len (da_cons (de_var 1) da_nil))))) dss_nil)
      (dss_cons (ds_if (dt_cmp (op_eqD hr.units) dop_eq (de_var 0) de_str) (dss_one (ds_ret (de_cmp op_gt dop_cmp (de_var 2) de_int))) dss_nil)
      (dss_cons (ds_if (dt_cmp (op_eqD hr.units) dop_eq (de_var 0) de_str) (dss_one (ds_ret (de_cmp (op_eqD hr.units) dop_eq (de_op op_mod dop_mod (de_var 2) de_int) de_int))) dss_nil)
      (dss_cons (ds_if (dt_cmp (op_eqD hr.units) dop_eq (de_var 0) de_str) (dss_one (ds_ret (de_cmp op_gt dop_cmp (de_var 2) de_int))) dss_nil)
      (dss_cons (ds_if (dt_val (de_ix ix_any dop_ix (de_var 1) de_int)) (dss_one (ds_ret (de_ix ix_any dop_ix (de_var 1) de_int))) dss_nil)
      (dss_one (ds_ret (de_ix ix_any dop_ix (de_var 1) de_int)))))))))))))) fun ds => ?_
  unfold g_answered
  split
  · rename_i z xs
    split
    · rename_i i bs e e2
      have e3 := bools_inv e2
      subst e3
      cases hb : arOk i bs.length && decide (z = kd i) with
      | false => exact .inl rfl
      | true =>
        refine .inr ?_
        rw [Bool.and_eq_true] at hb
        obtain ⟨hb, hz⟩ := hb
        have hz := of_decide_eq_true hz
        subst hz
        have hi9 : i < 9 := ix_lt e
        have h := ar_eq hb
        have hl : bs.length ≤ 9 := by
          have : hi i ≤ 9 := by unfold hi; split <;> decide
          omega
        rw [chk_ok (by rfl), show startD N__law_answered [.str (kd i), .list (bs.map PyData.bool)] = [some (.str (kd i)), some (.list (bs.map PyData.bool)), none, none] from rfl]
        walk_at "dl"
        rw [show ltOk (bs.map PyData.bool).length = true from decide_eq_true (by rw [List.length_map]; exact small1000 (by omega)), comp_filter (by simp)]
        walk_at "dl"
        rw [List.length_map, cnt_filter]
        have e0 := eq_kd (j := 0) hi9 (by decide)
        have e1 := eq_kd (j := 1) hi9 (by decide)
        have e2 := eq_kd (j := 2) hi9 (by decide)
        have e3 := eq_kd (j := 3) hi9 (by decide)
        have e4 := eq_kd (j := 4) hi9 (by decide)
        have e5 := eq_kd (j := 5) hi9 (by decide)
        have e6 := eq_kd (j := 6) hi9 (by decide)
        have e8 := eq_kd (j := 8) hi9 (by decide)
        rw [show kd 0 = "yes" from rfl] at e0
        rw [show kd 1 = "no" from rfl] at e1
        rw [show kd 2 = "keep" from rfl] at e2
        rw [show kd 3 = "not" from rfl] at e3
        rw [show kd 4 = "both" from rfl] at e4
        rw [show kd 5 = "either" from rfl] at e5
        rw [show kd 6 = "unlike" from rfl] at e6
        rw [show kd 8 = "most" from rfl] at e8
        have at0 : 1 ≤ bs.length → atI (bs.map PyData.bool) 0 = some (.bool (bs.getD 0 false)) := fun q => atB (k := 0) (by omega)
        have at1 : 2 ≤ bs.length → atI (bs.map PyData.bool) 1 = some (.bool (bs.getD 1 false)) := fun q => atB (k := 1) (by omega)
        have at2 : 3 ≤ bs.length → atI (bs.map PyData.bool) 2 = some (.bool (bs.getD 2 false)) := fun q => atB (k := 2) (by omega)
        have hi : i = 0 ∨ i = 1 ∨ i = 2 ∨ i = 3 ∨ i = 4 ∨ i = 5 ∨ i = 6 ∨ i = 7 ∨ i = 8 := by omega
        rcases hi with rfl | rfl | rfl | rfl | rfl | rfl | rfl | rfl | rfl
        · repeat (first | simp only [e0, e1, e2, e3, e4, e5, e6, e8] | walk_at "dl")
          rfl
        · repeat (first | simp only [e0, e1, e2, e3, e4, e5, e6, e8] | walk_at "dl")
          rfl
        · repeat (first | simp only [e0, e1, e2, e3, e4, e5, e6, e8, at0 (by simp only [SL.lo, SL.hi] at h; omega)] | walk_at "dl")
          rfl
        · repeat (first | simp only [e0, e1, e2, e3, e4, e5, e6, e8, at0 (by simp only [SL.lo, SL.hi] at h; omega)] | walk_at "dl")
          rfl
        · repeat (first | simp only [e0, e1, e2, e3, e4, e5, e6, e8] | walk_at "dl")
          rw [List.length_map, cnt_all]; rfl
        · repeat (first | simp only [e0, e1, e2, e3, e4, e5, e6, e8] | walk_at "dl")
          rw [cnt_any]; rfl
        · repeat (first | simp only [e0, e1, e2, e3, e4, e5, e6, e8] | walk_at "dl")
          rw [show modOk (cnt bs) 2 = true from rfl]
          walk_at "dl"
          rfl
        · repeat (first | simp only [e0, e1, e2, e3, e4, e5, e6, e8, at0 (by simp only [SL.lo, SL.hi] at h; omega), at1 (by simp only [SL.lo, SL.hi] at h; omega), at2 (by simp only [SL.lo, SL.hi] at h; omega)] | walk_at "dl")
          show _ = R.ok (PyData.bool (if bs.getD 0 false = true then bs.getD 1 false else bs.getD 2 false))
          cases bs.getD 0 false
          · rw [if_neg Bool.false_ne_true, if_neg Bool.false_ne_true]
            repeat (first | simp only [at2 (by simp only [SL.lo, SL.hi] at h; omega)] | walk_at "dl")
          · rw [if_pos rfl, if_pos rfl]; rfl
        · repeat (first | simp only [e0, e1, e2, e3, e4, e5, e6, e8] | walk_at "dl")
          show R.ok (PyData.bool (decide (1 < cnt bs))) = R.ok (PyData.bool (decide (2 ≤ cnt bs)))
          congr 2
    · exact .inl rfl
  · exact .inl rfl
end
end K10
namespace K10
open PySem PySem.Spec PyProof.Rows L2 SL
local macro_rules | `(tactic| walk_at "dl") => `(tactic| simp only [R.bind_ok, R.bind_bad, R.bind_ex, R.map_ok, R.map_bad, R.map_ex, R.run_ok, R.run_bad, R.run_ex, R.when_true, q_var, q_get, Bool.not_true, Bool.not_false, q_slA, q_slAS, q_slAL, q_slAT, q_forR, q_forRK1, q_for, q_forK, q_forT, q_stN, q_isN, isN_none, isN_tup, g_ixS, q_ixK, q_part, q_partK, q_noPart, q_sl, q_slK, q_try, tryK_ex, tryK_nx, tryK_rt, q_hand, handK_t, handK_f, hand_nil, noEx_nx, q_tryIsK, tryIsK_nx, q_c, q_bin, q_nil, q_cons, q_call, q_callN, q_tup, q_lst, q_B, q_boolD, q_not, q_and, q_or, q_andE, q_orE, q_notE, q_neg, q_andK, q_orK, q_notK, q_negK, q_ifE, q_seq, q_seqK, q_seqR, q_seqL, q_seqX, q_skip, q_if, q_set, q_setI, q_setNI, q_own, q_ownI, q_ret, q_retL, q_owned, q_ownV, q_retO, q_drop, q_app, q_appI, q_setAt, q_setAtI, q_put, q_putK, q_hideN, q_inB, q_fin, q_finL, q_finN, q_finX, q_finL', q_finLX, q_raise, g_cmp, g_addI, g_subI, g_mulI, g_modI, g_divI, g_addS, g_addL, g_addT, g_catL, g_ixL, g_ixT, g_atK, g_lenL, g_lenT, g_lenS, g_listL, g_listT, g_tupL, g_all, g_any, g_sum, bools_of, g_allK, g_anyK, g_sumK, g_eqI, g_eqB, q_asg, q_pair, q_tri, q_give, q_blank, q_bad, q_fldX, q_firstEx, g_powI, at3_0, at3_1, at3_2, at2_0, at2_1, R.run_ok, q_mL, q_mcat, q_comp, q_compL, q_compT, q_compR, q_compRI, q_wipe1, q_repK, q_repI, q_hide, q_hide0, q_hideM, memB_nil, memB_cons, Nat.reduceBEq, Bool.or_false, Bool.false_or, Bool.or_true, Bool.true_or, List.map_cons, List.map_nil, decide_false, Nat.reduceEqDiff, reduceCtorEq, List.getElem?_cons_zero, List.getElem?_cons_succ, List.set_cons_zero, List.set_cons_succ, List.length_cons, List.length_nil, Nat.zero_add, Nat.reduceAdd, Nat.reduceLT, decide_true, Bool.and_true, Bool.true_and, if_true, decide_eq_true_eq, Bool.false_eq_true, if_false])
abbrev N_wants : List Str := ["kind"]
abbrev s_wants : Stmt := topS 22
theorem sc_wants : FnScope N_wants ["kind"] (defScope s_wants) := ⟨rfl, rfl, rfl, by decide +kernel, rfl, by decide +kernel, by decide +kernel⟩
abbrev N_check_number : List Str := ["kind", "number", "least", "greatest"]
abbrev s_check_number : Stmt := topS 23
theorem sc_check_number : FnScope N_check_number ["kind", "number"] (defScope s_check_number) := ⟨rfl, rfl, rfl, by decide +kernel, rfl, by decide +kernel, by decide +kernel⟩
abbrev N_check_line : List Str := ["line", "lines"]
abbrev s_check_line : Stmt := topS 29
theorem sc_check_line : FnScope N_check_line ["line", "lines"] (defScope s_check_line) := ⟨rfl, rfl, rfl, by decide +kernel, rfl, by decide +kernel, by decide +kernel⟩
abbrev N_check_gate : List Str := ["gate", "lines", "kind", "sources", "delay", "source"]
abbrev s_check_gate : Stmt := topS 30
theorem sc_check_gate : FnScope N_check_gate ["gate", "lines"] (defScope s_check_gate) := ⟨rfl, rfl, rfl, by decide +kernel, rfl, by decide +kernel, by decide +kernel⟩
abbrev N_checked : List Str := ["plan", "many", "gates", "lines", "gate"]
abbrev s_checked : Stmt := topS 31
theorem sc_checked : FnScope N_checked ["plan"] (defScope s_checked) := ⟨rfl, rfl, rfl, by decide +kernel, rfl, by decide +kernel, by decide +kernel⟩
section
variable {P : Program} {w : World} {K : PySem.W.Frag} {mg : Str → Option Value} {base : Heap} {cv : Nat → Value} {f : Addr} {fd : FuncData}
def m_wants : DS → R Out :=
  (mSeq (mIf (fun δ => ((mVar 0) δ).bind (inK tbN true)) (mRaiseD 0 (mCons (mJs [(mFmtR (mVar 0)), (mC (.str " is no kind of gate"))] Str.empty) mNil)) mSkip)
    (mRet (fun δ => ((mVar 0) δ).bind (getK tbN))))
theorem h_wants (F : Fun K "wants" "wants" s_wants f fd) (mf : mg "wants" = some (.ref f)) (bd : Binds K fd ["kind"] []) (t_NUMBERS : TabD K w mg "NUMBERS" tbN) (x_NoKind : ExcAt K mg cv "NoKind" 0) : Has P w K mg base cv "wants" ["kind"] 1 g_wants := by
  have nd := sc_wants.nd
  refine Has.imp (has_D (m := m_wants) [] F mf bd sc_wants (by decide) (fun cdv A outer s H E hr => (dss_cons (ds_if (dt_notInTab t_NUMBERS (de_var 0)) (dss_one (ds_raiseA x_NoKind rfl (takes_of rfl rfl rfl rfl) (da_cons (de_fstr (FJ.cons (de_fmtR (de_var 0)) (FJ.cons de_str FJ.nil))) da_nil))) dss_nil)
      (dss_one (ds_ret (de_getTab t_NUMBERS (de_var 0))))))) fun ds => ?_
  unfold g_wants
  split
  · rename_i z
    split
    · rename_i i e
      refine .inr ?_
      rw [chk_ok (by rfl), show startD N_wants [.str z] = [some (.str z)] from rfl]
      unfold m_wants
      walk_at "dl"
      rw [show inK tbN true (.str z) = .ok false by show R.ok (if true = true then !(tbN z).isSome else (tbN z).isSome) = _; unfold tbN; rw [e]; rfl]
      walk_at "dl"
      rw [show getK tbN (.str z) = .ok (.tuple [.int (lo i), .int (SL.hi i)]) by unfold getK; rw [show (strD (.str z)).bind tbN = some (.tuple [.int (lo i), .int (SL.hi i)]) by show tbN z = _; unfold tbN; rw [e]; rfl]]
      rfl
    · rename_i e
      cases hz : fmtOk z with
      | false => exact .inl rfl
      | true =>
        refine .inr ?_
        rw [chk_ok (by rfl), show startD N_wants [.str z] = [some (.str z)] from rfl]
        have hr := repr_small hz
        have hj : mJs [mFmtR (mVar 0), mC (.str " is no kind of gate")] Str.empty [some (.str z)] = .ok (.str (Str.empty ++ reprText z ++ " is no kind of gate")) := by
          rw [js_cons (y := reprText z) (fmtR_at rfl hz) (by rw [show Str.empty.length = 0 from rfl]; omega), js_cons (y := " is no kind of gate") rfl (by rw [Str.length_append, show Str.empty.length = 0 from rfl, show (" is no kind of gate" : Str).length = 19 from rfl]; omega), js_nil]
        unfold m_wants
        walk_at "dl"
        rw [show inK tbN true (.str z) = .ok true by show R.ok (if true = true then !(tbN z).isSome else (tbN z).isSome) = _; unfold tbN; rw [e]; rfl]
        walk_at "dl"
        rw [hj]
        rfl
  · exact .inl rfl
def m_check_number : DS → R Out :=
  (mSeq (mAsg [] (stPair 2 3) (mCall g_wants (mCons (mVar 0) mNil)))
    (mIf (mOr (mB (mBin (gCmp fun i j => decide (i < j)) (mVar 1) (mVar 2))) (mB (mBin (gCmp fun i j => decide (j < i)) (mVar 1) (mVar 3)))) (mRaiseD 1 (mCons (mJs [(mC (.str "a gate of the kind ")), (mFmt (mVar 0)), (mC (.str " does not take ")), (mFmt (mVar 1)), (mC (.str " sources"))] Str.empty) mNil)) mSkip))
theorem h_check_number (F : Fun K "check_number" "check_number" s_check_number f fd) (mf : mg "check_number" = some (.ref f)) (bd : Binds K fd ["kind", "number"] []) (h_wants : Has P w K mg base cv "wants" ["kind"] 1 g_wants) (x_NoSources : ExcAt K mg cv "NoSources" 1) : Has P w K mg base cv "check_number" ["kind", "number"] 2 g_check := by
  have nd := sc_check_number.nd
  refine Has.imp (has_D (m := m_check_number) [] F mf bd sc_check_number (by decide) (fun cdv A outer s H E hr => (dss_cons (ds_asg (dg_pair (i := 2) (j := 3) rfl nd rfl rfl (Or.inl rfl) (Or.inl rfl)) (de_has h_wants hr (pass_def rfl rfl rfl rfl) (da_cons (de_var 0) da_nil)))
      (dss_one (ds_if (dt_w (dw_or (dt_cmp op_lt dop_cmp (de_var 1) (de_var 2)) (dw_one (dt_cmp op_gt dop_cmp (de_var 1) (de_var 3))))) (dss_one (ds_raiseA x_NoSources rfl (takes_of rfl rfl rfl rfl) (da_cons (de_fstr (FJ.cons de_str (FJ.cons (de_fmt (de_var 0)) (FJ.cons de_str (FJ.cons (de_fmt (de_var 1)) (FJ.cons de_str FJ.nil)))))) da_nil))) dss_nil))))) fun ds => ?_
  unfold g_check
  split
  · rename_i z n
    split
    · rename_i i e
      have hw : g_wants [.str z] = .ok (.tuple [.int (lo i), .int (SL.hi i)]) := by unfold g_wants; dsimp only; rw [e]
      by_cases hn : lo i ≤ n ∧ n ≤ SL.hi i
      · rw [if_pos hn]
        refine .inr ?_
        rw [chk_ok (by rfl), show startD N_check_number [.str z, .int n] = [some (.str z), some (.int n), none, none] from rfl]
        unfold m_check_number
        walk_at "dl"
        rw [hw]
        walk_at "dl"
        rw [if_neg (show ¬ n < lo i by omega), decide_eq_false (show ¬ SL.hi i < n by omega)]
        walk_at "dl"
      · rw [if_neg hn]
        by_cases h20 : 0 ≤ n ∧ n ≤ 20
        · rw [decide_eq_true h20, R.when_true]
          refine .inr ?_
          obtain ⟨k, rfl⟩ : ∃ k : Nat, n = (k : Int) := ⟨n.toNat, by omega⟩
          have hz : fmtOk z = true := by rw [← kd_find e]; exact kd_fmt i (ix_lt e)
          have hzl : z.length ≤ 1000 := by
            unfold fmtOk at hz; rw [Bool.and_eq_true] at hz; exact of_decide_eq_true hz.2
          have hk := (int_small k (by omega)).1
          rw [chk_ok (by rfl), show startD N_check_number [.str z, .int (k : Int)] = [some (.str z), some (.int (k : Int)), none, none] from rfl]
          have hj : mJs [mC (.str "a gate of the kind "), mFmt (mVar 0), mC (.str " does not take "), mFmt (mVar 1), mC (.str " sources")] Str.empty [some (.str z), some (.int (k : Int)), some (.int (lo i)), some (.int (SL.hi i))]
              = .ok (.str (Str.empty ++ "a gate of the kind " ++ z ++ " does not take " ++ toString (k : Int) ++ " sources")) := by
            have l1 : ("a gate of the kind " : Str).length = 19 := rfl
            have l2 : (" does not take " : Str).length = 15 := rfl
            have l3 : (" sources" : Str).length = 8 := rfl
            have l0 : Str.empty.length = 0 := rfl
            rw [js_cons (y := "a gate of the kind ") rfl (by omega), js_cons (y := z) (fmt_at rfl hz) (by rw [Str.length_append]; omega), js_cons (y := " does not take ") rfl (by rw [Str.length_append, Str.length_append]; omega),
              js_cons (y := toString (k : Int)) (fmtI_at rfl (by omega)) (by rw [Str.length_append, Str.length_append, Str.length_append]; omega), js_cons (y := " sources") rfl (by rw [Str.length_append, Str.length_append, Str.length_append, Str.length_append]; omega), js_nil]
          unfold m_check_number
          walk_at "dl"
          rw [hw]
          walk_at "dl"
          by_cases h1 : (k : Int) < lo i
          · rw [if_pos h1]
            walk_at "dl"
            rw [hj]
            rfl
          · rw [if_neg h1, decide_eq_true (show SL.hi i < (k : Int) by omega)]
            walk_at "dl"
            rw [hj]
            rfl
        · rw [decide_eq_false h20]; exact .inl rfl
    · rename_i e
      cases hz : fmtOk z with
      | false => exact .inl rfl
      | true =>
        refine .inr ?_
        have hw : g_wants [.str z] = .ex 0 := by unfold g_wants; dsimp only; rw [e]; dsimp only; rw [hz]; rfl
        rw [chk_ok (by rfl), show startD N_check_number [.str z, .int n] = [some (.str z), some (.int n), none, none] from rfl]
        unfold m_check_number
        walk_at "dl"
        rw [hw]
        walk_at "dl"
  · exact .inl rfl
def m_check_line : DS → R Out :=
  (mIf (mOr (mB (mBin (gCmp fun i j => decide (i < j)) (mVar 0) (mC (.int 0)))) (mB (mBin (gCmp fun i j => decide (j ≤ i)) (mVar 0) (mVar 1)))) (mRaiseD 2 (mCons (mJs [(mC (.str "a number is none of the plan's ")), (mFmt (mVar 1)), (mC (.str " lines"))] Str.empty) mNil)) mSkip)
theorem h_check_line (F : Fun K "check_line" "check_line" s_check_line f fd) (mf : mg "check_line" = some (.ref f)) (bd : Binds K fd ["line", "lines"] []) (x_NoLine : ExcAt K mg cv "NoLine" 2) : Has P w K mg base cv "check_line" ["line", "lines"] 1 g_checkline := by
  have nd := sc_check_line.nd
  refine Has.imp (has_D (m := m_check_line) [] F mf bd sc_check_line (by decide) (fun cdv A outer s H E hr => (dss_one (ds_if (dt_w (dw_or (dt_cmp op_lt dop_cmp (de_var 0) de_int) (dw_one (dt_cmp op_ge dop_cmp (de_var 0) (de_var 1))))) (dss_one (ds_raiseA x_NoLine rfl (takes_of rfl rfl rfl rfl) (da_cons (de_fstr (FJ.cons de_str (FJ.cons (de_fmt (de_var 1)) (FJ.cons de_str FJ.nil)))) da_nil))) dss_nil)))) fun ds => ?_
  unfold g_checkline
  split
  · rename_i s n
    by_cases h : s < 0 ∨ n ≤ s
    · rw [if_pos h]
      by_cases hn : 0 ≤ n ∧ n ≤ 1000
      · rw [decide_eq_true hn, R.when_true]
        refine .inr ?_
        obtain ⟨k, rfl⟩ : ∃ k : Nat, n = (k : Int) := ⟨n.toNat, by omega⟩
        have hk := int_mid k (by omega)
        rw [chk_ok (by rfl), show startD N_check_line [.int s, .int (k : Int)] = [some (.int s), some (.int (k : Int))] from rfl]
        have hj : mJs [mC (.str "a number is none of the plan's "), mFmt (mVar 1), mC (.str " lines")] Str.empty [some (.int s), some (.int (k : Int))] = .ok (.str (Str.empty ++ "a number is none of the plan's " ++ toString (k : Int) ++ " lines")) := by
          have l1 : ("a number is none of the plan's " : Str).length = 31 := rfl
          have l3 : (" lines" : Str).length = 6 := rfl
          have l0 : Str.empty.length = 0 := rfl
          rw [js_cons (y := "a number is none of the plan's ") rfl (by omega), js_cons (y := toString (k : Int)) (fmtJ_at rfl (by omega)) (by rw [Str.length_append]; omega), js_cons (y := " lines") rfl (by rw [Str.length_append, Str.length_append]; omega), js_nil]
        unfold m_check_line
        walk_at "dl"
        by_cases h1 : s < 0
        · rw [if_pos h1]
          walk_at "dl"
          rw [hj]
          rfl
        · rw [if_neg h1, decide_eq_true (show (k : Int) ≤ s by omega)]
          walk_at "dl"
          rw [hj]
          rfl
      · rw [decide_eq_false hn]; exact .inl rfl
    · rw [if_neg h]
      refine .inr ?_
      rw [chk_ok (by rfl), show startD N_check_line [.int s, .int n] = [some (.int s), some (.int n)] from rfl]
      unfold m_check_line
      walk_at "dl"
      rw [if_neg (show ¬ s < 0 by omega), decide_eq_false (show ¬ n ≤ s by omega)]
      walk_at "dl"
  · exact .inl rfl
def m_check_gate_3 : DS → R Out :=
  (mIf (mOr (mB (mBin (gCmp fun i j => decide (i < j)) (mVar 4) (mC (.int 1)))) (mB (mBin (gCmp fun i j => decide (j < i)) (mVar 4) (mC (.int 60))))) (mRaiseD 3 (mCons (mJs [(mC (.str "a delay of a gate is not from 1 to ")), (mFmt (mC (.int 60)))] Str.empty) mNil)) mSkip)
def m_check_gate_2 : DS → R Out :=
  (mSeq (mFor [] (mVar 3) (stName 5) (mDrop (mCall g_checkline (mCons (mVar 5) (mCons (mVar 1) mNil)))))
    m_check_gate_3)
def m_check_gate_1 : DS → R Out :=
  (mSeq (mDrop (mCall g_check (mCons (mVar 2) (mCons (mCall gLen (mCons (mVar 3) mNil)) mNil))))
    m_check_gate_2)
def m_check_gate : DS → R Out :=
  (mSeq (mAsg [] (stTri 2 3 4) (mVar 0))
    m_check_gate_1)
theorem h_check_gate (F : Fun K "check_gate" "check_gate" s_check_gate f fd) (mf : mg "check_gate" = some (.ref f)) (bd : Binds K fd ["gate", "lines"] []) (h_check_number : Has P w K mg base cv "check_number" ["kind", "number"] 2 g_check) (h_check_line : Has P w K mg base cv "check_line" ["line", "lines"] 1 g_checkline) (x_NoDelay : ExcAt K mg cv "NoDelay" 3) {tD : Tok} (c_MOST_DELAY : mg "MOST_DELAY" = some (.int 60 tD)) (m_len : mg "len" = none) : Has P w K mg base cv "check_gate" ["gate", "lines"] 3 g_checkgate := by
  have nd := sc_check_gate.nd
  refine Has.imp (has_D (m := m_check_gate) [] F mf bd sc_check_gate (by decide) (fun cdv A outer s H E hr => (dss_cons (ds_asg (dg_tri (i := 2) (j := 3) (k := 4) rfl nd rfl rfl rfl (Or.inl rfl) (Or.inl rfl) (Or.inl rfl)) (de_var 0))
      (dss_cons (ds_expr (de_has h_check_number hr (pass_def rfl rfl rfl rfl) (da_cons (de_var 2) (da_cons (de_callB call_lenD2 dc_len (by rfl) m_len PySem.boot_len (da_cons (de_var 3) da_nil)) da_nil))))
      (dss_cons (ds_for (passes_of rfl) rfl (de_var 3) (dg_name (i := 5) nd rfl (Or.inl rfl)) (dss_one (ds_expr (de_has h_check_line hr (pass_def rfl rfl rfl rfl) (da_cons (de_var 5) (da_cons (de_var 1) da_nil))))))
      (dss_one (ds_if (dt_w (dw_or (dt_cmp op_lt dop_cmp (de_var 4) de_int) (dw_one (dt_cmp op_gt dop_cmp (de_var 4) (de_gint c_MOST_DELAY))))) (dss_one (ds_raiseA x_NoDelay rfl (takes_of rfl rfl rfl rfl) (da_cons (de_fstr (FJ.cons de_str (FJ.cons (de_fmt (de_gint c_MOST_DELAY)) FJ.nil))) da_nil))) dss_nil))))))) fun ds => ?_
  unfold g_checkgate
  split
  · rename_i d n
    split
    · rename_i g eg
      have ed := toGate_inv eg
      subst ed
      by_cases hh : (gateTame g && decide (0 ≤ n ∧ n ≤ 1000)) = true
      · rw [hh, R.when_true]
        rw [Bool.and_eq_true] at hh
        obtain ⟨ht, hn⟩ := hh
        have hn := of_decide_eq_true hn
        refine .inr ?_
        obtain ⟨z, ss, dl⟩ := g
        have ht2 := ht
        unfold gateTame at ht2
        rw [Bool.and_eq_true] at ht2
        have hz : fmtOk z = true := ht2.1
        have hl : ss.length ≤ 20 := of_decide_eq_true ht2.2
        have hlen : ((intsOf ss).length : Int) = (ss.length : Int) := by unfold intsOf; rw [List.length_map]
        rw [chk_ok (by rfl), show startD N_check_gate [gateD (z, ss, dl), .int n] = [some (gateD (z, ss, dl)), some (.int n), none, none, none, none] from rfl]
        unfold m_check_gate
        refine cut (fun δ => δ = [some (gateD (z, ss, dl)), some (.int n), some (.str z), some (.tuple (intsOf ss)), some (.int dl), none]) ⟨_, ?_, rfl⟩ fun δ h => ?_
        · have eg : gateD (z, ss, dl) = .tuple [.str z, .tuple (intsOf ss), .int dl] := rfl
          repeat (first | simp only [eg] | walk_at "dl")
        subst h
        unfold m_check_gate_1
        show _ = errR (gateErr n (z, ss, dl)) _
        unfold gateErr
        dsimp only
        cases hk : kindIx z with
        | none =>
          dsimp only
          rw [cutEx (k := 0) (δ' := [some (gateD (z, ss, dl)), some (.int n), some (.str z), some (.tuple (intsOf ss)), some (.int dl), none])]
          · rfl
          · repeat (first | simp only [hlen, check_none hk hz] | walk_at "dl")
        | some i =>
          dsimp only
          cases ha : arOk i ss.length with
          | false =>
            rw [if_pos rfl]
            rw [cutEx (k := 1) (δ' := [some (gateD (z, ss, dl)), some (.int n), some (.str z), some (.tuple (intsOf ss)), some (.int dl), none])]
            · rfl
            · repeat (first | simp only [hlen, check_bad hk ha hl] | walk_at "dl")
          | true =>
            rw [if_neg (by decide)]
            refine cut (fun δ => δ = [some (gateD (z, ss, dl)), some (.int n), some (.str z), some (.tuple (intsOf ss)), some (.int dl), none]) ⟨_, ?_, rfl⟩ fun δ h => ?_
            · repeat (first | simp only [hlen, check_ok hk ha] | walk_at "dl")
            subst h
            unfold m_check_gate_2
            have lp := loop_err (st := stName 5) (n := (mDrop (mCall g_checkline (mCons (mVar 5) (mCons (mVar 1) mNil))))) (fun δ => ∃ o, δ = [some (gateD (z, ss, dl)), some (.int n), some (.str z), some (.tuple (intsOf ss)), some (.int dl), o]) (lineBad n) (intsOf ss)
              [some (gateD (z, ss, dl)), some (.int n), some (.str z), some (.tuple (intsOf ss)), some (.int dl), none] ⟨none, rfl⟩ fun x hx δ hδ => ?_
            · rw [find_src] at lp
              obtain ⟨δ', lp⟩ := lp
              cases hb : ss.any (srcBad n) with
              | true =>
                rw [hb] at lp
                rw [if_pos rfl]
                have lp2 : loopM (stName 5) (mDrop (mCall g_checkline (mCons (mVar 5) (mCons (mVar 1) mNil)))) (intsOf ss) [some (gateD (z, ss, dl)), some (.int n), some (.str z), some (.tuple (intsOf ss)), some (.int dl), none] = .ok (.ex 2 δ') := lp
                rw [cutEx (k := 2) (δ' := δ')]
                · rfl
                · repeat (first | simp only [lp2] | walk_at "dl")
              | false =>
                rw [hb] at lp
                rw [if_neg (by decide)]
                obtain ⟨lp1, o, rfl⟩ : loopM (stName 5) (mDrop (mCall g_checkline (mCons (mVar 5) (mCons (mVar 1) mNil)))) (intsOf ss) [some (gateD (z, ss, dl)), some (.int n), some (.str z), some (.tuple (intsOf ss)), some (.int dl), none] = .ok (.nx δ') ∧ _ := lp
                refine cut (fun δ => δ = [some (gateD (z, ss, dl)), some (.int n), some (.str z), some (.tuple (intsOf ss)), some (.int dl), o]) ⟨_, ?_, rfl⟩ fun δ h => ?_
                · repeat (first | simp only [lp1] | walk_at "dl")
                subst h
                unfold m_check_gate_3
                have hj : mJs [mC (.str "a delay of a gate is not from 1 to "), mFmt (mC (.int 60))] Str.empty [some (gateD (z, ss, dl)), some (.int n), some (.str z), some (.tuple (intsOf ss)), some (.int dl), o] = .ok (.str (Str.empty ++ "a delay of a gate is not from 1 to " ++ toString ((60 : Nat) : Int))) := by
                  have l1 : ("a delay of a gate is not from 1 to " : Str).length = 35 := rfl
                  have l0 : Str.empty.length = 0 := rfl
                  have hk := int_mid 60 (by omega)
                  rw [js_cons (y := "a delay of a gate is not from 1 to ") rfl (by omega), js_cons (y := toString ((60 : Nat) : Int)) (fmtJ_at rfl (by omega)) (by rw [Str.length_append]; omega), js_nil]
                by_cases h1 : dl < 1
                · rw [if_pos (.inl h1)]
                  repeat (first | simp only [h1, hj, if_true] | walk_at "dl")
                  rfl
                · by_cases h2 : 60 < dl
                  · rw [if_pos (.inr h2)]
                    repeat (first | simp only [h1, h2, hj, if_true, if_false] | walk_at "dl")
                    rfl
                  · rw [if_neg (by omega)]
                    repeat (first | simp only [h1, h2, if_true, if_false] | walk_at "dl")
                    rfl
            · obtain ⟨s, hs, rfl⟩ := mem_ints hx
              obtain ⟨o, rfl⟩ := hδ
              refine ⟨[some (gateD (z, ss, dl)), some (.int n), some (.str z), some (.tuple (intsOf ss)), some (.int dl), some (.int s)], by walk_at "dl", [some (gateD (z, ss, dl)), some (.int n), some (.str z), some (.tuple (intsOf ss)), some (.int dl), some (.int s)], ?_⟩
              rw [show lineBad n (.int s) = if srcBad n s = true then some 2 else none from rfl]
              cases hb : srcBad n s with
              | true =>
                rw [if_pos rfl]
                dsimp only
                repeat (first | simp only [line_ex hb hn] | walk_at "dl")
              | false =>
                rw [if_neg (by decide)]
                dsimp only
                exact ⟨by repeat (first | simp only [line_ok hb] | walk_at "dl"), _, rfl⟩
      · rw [Bool.not_eq_true] at hh
        rw [hh]; exact .inl rfl
    · exact .inl rfl
  · exact .inl rfl
def m_checked_5 : DS → R Out :=
  (mRet (mVar 3))
def m_checked_4 : DS → R Out :=
  (mSeq (mFor [] (mVar 2) (stName 4) (mDrop (mCall g_checkgate (mCons (mVar 4) (mCons (mVar 3) mNil)))))
    m_checked_5)
def m_checked_3 : DS → R Out :=
  (mSeq (mSet [] 3 (mBin gAdd (mVar 1) (mCall gLen (mCons (mVar 2) mNil))))
    m_checked_4)
def m_checked_2 : DS → R Out :=
  (mSeq (mIf (mB (mBin (gCmp fun i j => decide (j < i)) (mCall gLen (mCons (mVar 2) mNil)) (mC (.int 200)))) (mRaiseD 4 (mCons (mJs [(mC (.str "there are more than ")), (mFmt (mC (.int 200))), (mC (.str " gates"))] Str.empty) mNil)) mSkip)
    m_checked_3)
def m_checked_1 : DS → R Out :=
  (mSeq (mIf (mOr (mB (mBin (gCmp fun i j => decide (i < j)) (mVar 1) (mC (.int 0)))) (mB (mBin (gCmp fun i j => decide (j < i)) (mVar 1) (mC (.int 60))))) (mRaiseD 4 (mCons (mJs [(mC (.str "the number of inputs is not from 0 to ")), (mFmt (mC (.int 60)))] Str.empty) mNil)) mSkip)
    m_checked_2)
def m_checked : DS → R Out :=
  (mSeq (mAsg [] (stPair 1 2) (mVar 0))
    m_checked_1)
theorem h_checked (F : Fun K "checked" "checked" s_checked f fd) (mf : mg "checked" = some (.ref f)) (bd : Binds K fd ["plan"] []) (h_check_gate : Has P w K mg base cv "check_gate" ["gate", "lines"] 3 g_checkgate) (x_NoSize : ExcAt K mg cv "NoSize" 4) {tI tG : Tok} (c_MOST_INPUTS : mg "MOST_INPUTS" = some (.int 60 tI)) (c_MOST_GATES : mg "MOST_GATES" = some (.int 200 tG)) (m_len : mg "len" = none) : Has P w K mg base cv "checked" ["plan"] 4 g_checked := by
  have nd := sc_checked.nd
  refine Has.imp (has_D (m := m_checked) [] F mf bd sc_checked (by decide) (fun cdv A outer s H E hr => (dss_cons (ds_asg (dg_pair (i := 1) (j := 2) rfl nd rfl rfl (Or.inl rfl) (Or.inl rfl)) (de_var 0))
      (dss_cons (ds_if (dt_w (dw_or (dt_cmp op_lt dop_cmp (de_var 1) de_int) (dw_one (dt_cmp op_gt dop_cmp (de_var 1) (de_gint c_MOST_INPUTS))))) (dss_one (ds_raiseA x_NoSize rfl (takes_of rfl rfl rfl rfl) (da_cons (de_fstr (FJ.cons de_str (FJ.cons (de_fmt (de_gint c_MOST_INPUTS)) FJ.nil))) da_nil))) dss_nil)
      (dss_cons (ds_if (dt_cmp op_gt dop_cmp (de_callB call_lenD2 dc_len (by rfl) m_len PySem.boot_len (da_cons (de_var 2) da_nil)) (de_gint c_MOST_GATES)) (dss_one (ds_raiseA x_NoSize rfl (takes_of rfl rfl rfl rfl) (da_cons (de_fstr (FJ.cons de_str (FJ.cons (de_fmt (de_gint c_MOST_GATES)) (FJ.cons de_str FJ.nil)))) da_nil))) dss_nil)
      (dss_cons (ds_set (i := 3) nd rfl (Or.inl rfl) (de_op op_addD dop_add (de_var 1) (de_callB call_lenD2 dc_len (by rfl) m_len PySem.boot_len (da_cons (de_var 2) da_nil))))
      (dss_cons (ds_for (passes_of rfl) rfl (de_var 2) (dg_name (i := 4) nd rfl (Or.inl rfl)) (dss_one (ds_expr (de_has h_check_gate hr (pass_def rfl rfl rfl rfl) (da_cons (de_var 4) (da_cons (de_var 3) da_nil))))))
      (dss_one (ds_ret (de_var 3)))))))))) fun ds => ?_
  unfold g_checked
  split
  · rename_i d
    split
    · rename_i mn gs eg
      have ed := toPlan_inv eg
      dsimp only at ed
      subst ed
      cases ht : planTame mn gs with
      | false => exact .inl rfl
      | true =>
        rw [R.when_true]
        refine .inr ?_
        have ht2 := ht
        unfold planTame at ht2
        rw [Bool.and_eq_true, List.all_eq_true] at ht2
        obtain ⟨hl, hg⟩ := ht2
        have hl := of_decide_eq_true hl
        have hlen : ((gatesD gs).length : Int) = (gs.length : Int) := by rw [gates_len]
        rw [chk_ok (by rfl), show startD N_checked [planD mn gs] = [some (planD mn gs), none, none, none, none] from rfl]
        unfold m_checked
        refine cut (fun δ => δ = [some (planD mn gs), some (.int mn), some (.list (gatesD gs)), none, none]) ⟨_, ?_, rfl⟩ fun δ h => ?_
        · have eg : planD mn gs = .tuple [.int mn, .list (gatesD gs)] := rfl
          repeat (first | simp only [eg] | walk_at "dl")
        subst h
        unfold m_checked_1
        unfold planErr
        have hj1 : mJs [mC (.str "the number of inputs is not from 0 to "), mFmt (mC (.int 60))] Str.empty [some (planD mn gs), some (.int mn), some (.list (gatesD gs)), none, none] = .ok (.str (Str.empty ++ "the number of inputs is not from 0 to " ++ toString ((60 : Nat) : Int))) := by
          have l1 : ("the number of inputs is not from 0 to " : Str).length = 38 := rfl
          have l0 : Str.empty.length = 0 := rfl
          have hk := int_mid 60 (by omega)
          rw [js_cons (y := "the number of inputs is not from 0 to ") rfl (by omega), js_cons (y := toString ((60 : Nat) : Int)) (fmtJ_at rfl (by omega)) (by rw [Str.length_append]; omega), js_nil]
        have hj2 : mJs [mC (.str "there are more than "), mFmt (mC (.int 200)), mC (.str " gates")] Str.empty [some (planD mn gs), some (.int mn), some (.list (gatesD gs)), none, none] = .ok (.str (Str.empty ++ "there are more than " ++ toString ((200 : Nat) : Int) ++ " gates")) := by
          have l1 : ("there are more than " : Str).length = 20 := rfl
          have l2 : (" gates" : Str).length = 6 := rfl
          have l0 : Str.empty.length = 0 := rfl
          have hk := int_mid 200 (by omega)
          rw [js_cons (y := "there are more than ") rfl (by omega), js_cons (y := toString ((200 : Nat) : Int)) (fmtJ_at rfl (by omega)) (by rw [Str.length_append]; omega), js_cons (y := " gates") rfl (by rw [Str.length_append, Str.length_append]; omega), js_nil]
        by_cases h1 : mn < 0 ∨ 60 < mn
        · rw [if_pos h1]
          rw [cutEx (k := 4) (δ' := [some (planD mn gs), some (.int mn), some (.list (gatesD gs)), none, none])]
          · rfl
          · rcases Int.lt_or_le mn 0 with q | q
            · repeat (first | simp only [q, hj1, if_true] | walk_at "dl")
              rfl
            · have q2 : ¬ mn < 0 := by omega
              have q3 : 60 < mn := by omega
              repeat (first | simp only [q2, q3, hj1, if_true, if_false] | walk_at "dl")
              rfl
        · rw [if_neg h1]
          refine cut (fun δ => δ = [some (planD mn gs), some (.int mn), some (.list (gatesD gs)), none, none]) ⟨_, ?_, rfl⟩ fun δ h => ?_
          · have q2 : ¬ mn < 0 := by omega
            have q3 : ¬ 60 < mn := by omega
            repeat (first | simp only [q2, q3, if_false] | walk_at "dl")
          subst h
          unfold m_checked_2
          by_cases h2 : 200 < gs.length
          · rw [if_pos h2]
            rw [cutEx (k := 4) (δ' := [some (planD mn gs), some (.int mn), some (.list (gatesD gs)), none, none])]
            · rfl
            · have q2 : (200 : Int) < (gs.length : Int) := by omega
              repeat (first | simp only [hlen, q2, hj2, if_true] | walk_at "dl")
              rfl
          · rw [if_neg h2]
            refine cut (fun δ => δ = [some (planD mn gs), some (.int mn), some (.list (gatesD gs)), none, none]) ⟨_, ?_, rfl⟩ fun δ h => ?_
            · have q2 : ¬ (200 : Int) < (gs.length : Int) := by omega
              repeat (first | simp only [hlen, q2, if_false] | walk_at "dl")
            subst h
            unfold m_checked_3
            refine cut (fun δ => δ = [some (planD mn gs), some (.int mn), some (.list (gatesD gs)), some (.int (mn + (gs.length : Int))), none]) ⟨_, ?_, rfl⟩ fun δ h => ?_
            · repeat (first | simp only [hlen] | walk_at "dl")
            subst h
            unfold m_checked_4
            have lp := loop_err (st := stName 4) (n := (mDrop (mCall g_checkgate (mCons (mVar 4) (mCons (mVar 3) mNil))))) (fun δ => ∃ o, δ = [some (planD mn gs), some (.int mn), some (.list (gatesD gs)), some (.int (mn + (gs.length : Int))), o]) (gateBad (mn + (gs.length : Int))) (gatesD gs)
              [some (planD mn gs), some (.int mn), some (.list (gatesD gs)), some (.int (mn + (gs.length : Int))), none] ⟨none, rfl⟩ fun x hx δ hδ => ?_
            · rw [find_gate] at lp
              obtain ⟨δ', lp⟩ := lp
              cases hb : gs.findSome? (gateErr (mn + (gs.length : Int))) with
              | some e =>
                rw [hb] at lp
                have lp2 : loopM (stName 4) (mDrop (mCall g_checkgate (mCons (mVar 4) (mCons (mVar 3) mNil)))) (gatesD gs) [some (planD mn gs), some (.int mn), some (.list (gatesD gs)), some (.int (mn + (gs.length : Int))), none] = .ok (.ex e δ') := lp
                rw [cutEx (k := e) (δ' := δ')]
                · rfl
                · repeat (first | simp only [lp2] | walk_at "dl")
              | none =>
                rw [hb] at lp
                obtain ⟨lp1, o, rfl⟩ : loopM (stName 4) (mDrop (mCall g_checkgate (mCons (mVar 4) (mCons (mVar 3) mNil)))) (gatesD gs) [some (planD mn gs), some (.int mn), some (.list (gatesD gs)), some (.int (mn + (gs.length : Int))), none] = .ok (.nx δ') ∧ _ := lp
                refine cut (fun δ => δ = [some (planD mn gs), some (.int mn), some (.list (gatesD gs)), some (.int (mn + (gs.length : Int))), o]) ⟨_, ?_, rfl⟩ fun δ h => ?_
                · repeat (first | simp only [lp1] | walk_at "dl")
                subst h
                unfold m_checked_5
                walk_at "dl"
                rfl
            · obtain ⟨g, hgm, rfl⟩ := mem_gates hx
              obtain ⟨o, rfl⟩ := hδ
              have hgt := hg g hgm
              have ev := gate_ev hgt (show 0 ≤ mn + (gs.length : Int) ∧ mn + (gs.length : Int) ≤ 1000 by omega)
              refine ⟨[some (planD mn gs), some (.int mn), some (.list (gatesD gs)), some (.int (mn + (gs.length : Int))), some (gateD g)], by walk_at "dl", [some (planD mn gs), some (.int mn), some (.list (gatesD gs)), some (.int (mn + (gs.length : Int))), some (gateD g)], ?_⟩
              rw [show gateBad (mn + (gs.length : Int)) (gateD g) = gateErr (mn + (gs.length : Int)) g by unfold gateBad; rw [toGate_of]; rfl]
              cases hb : gateErr (mn + (gs.length : Int)) g with
              | some e =>
                rw [hb] at ev
                dsimp only
                have ev2 : g_checkgate [gateD g, .int (mn + (gs.length : Int))] = .ex e := ev
                repeat (first | simp only [ev2] | walk_at "dl")
              | none =>
                rw [hb] at ev
                dsimp only
                have ev2 : g_checkgate [gateD g, .int (mn + (gs.length : Int))] = .ok .none := ev
                exact ⟨by repeat (first | simp only [ev2] | walk_at "dl"), _, rfl⟩
    · exact .inl rfl
  · exact .inl rfl
end
end K10
namespace K10
open PySem PySem.Spec PyProof.Rows L2 SL
local macro_rules | `(tactic| walk_at "dl") => `(tactic| simp only [R.bind_ok, R.bind_bad, R.bind_ex, R.map_ok, R.map_bad, R.map_ex, R.run_ok, R.run_bad, R.run_ex, R.when_true, q_var, q_get, Bool.not_true, Bool.not_false, q_slA, q_slAS, q_slAL, q_slAT, q_forR, q_forRK1, q_for, q_forK, q_forT, q_stN, q_isN, isN_none, isN_tup, g_ixS, q_ixK, q_part, q_partK, q_noPart, q_sl, q_slK, q_try, tryK_ex, tryK_nx, tryK_rt, q_hand, handK_t, handK_f, hand_nil, noEx_nx, q_tryIsK, tryIsK_nx, q_c, q_bin, q_nil, q_cons, q_call, q_callN, q_tup, q_lst, q_B, q_boolD, q_not, q_and, q_or, q_andE, q_orE, q_notE, q_neg, q_andK, q_orK, q_notK, q_negK, q_ifE, q_seq, q_seqK, q_seqR, q_seqL, q_seqX, q_skip, q_if, q_set, q_setI, q_setNI, q_own, q_ownI, q_ret, q_retL, q_owned, q_ownV, q_retO, q_drop, q_app, q_appI, q_setAt, q_setAtI, q_put, q_putK, q_hideN, q_inB, q_fin, q_finL, q_finN, q_finX, q_finL', q_finLX, q_raise, g_cmp, g_addI, g_subI, g_mulI, g_modI, g_divI, g_addS, g_addL, g_addT, g_catL, g_ixL, g_ixT, g_atK, g_lenL, g_lenT, g_lenS, g_listL, g_listT, g_tupL, g_all, g_any, g_sum, bools_of, g_allK, g_anyK, g_sumK, g_eqI, g_eqB, q_asg, q_pair, q_tri, q_give, q_blank, q_bad, q_fldX, q_firstEx, g_powI, at3_0, at3_1, at3_2, at2_0, at2_1, R.run_ok, q_mL, q_mcat, q_comp, q_compL, q_compT, q_compR, q_compRI, q_wipe1, q_repK, q_repI, q_hide, q_hide0, q_hideM, memB_nil, memB_cons, Nat.reduceBEq, Bool.or_false, Bool.false_or, Bool.or_true, Bool.true_or, List.map_cons, List.map_nil, decide_false, Nat.reduceEqDiff, reduceCtorEq, List.getElem?_cons_zero, List.getElem?_cons_succ, List.set_cons_zero, List.set_cons_succ, List.length_cons, List.length_nil, Nat.zero_add, Nat.reduceAdd, Nat.reduceLT, decide_true, Bool.and_true, Bool.true_and, if_true, decide_eq_true_eq, Bool.false_eq_true, if_false])
abbrev N__readers : List Str := ["plan", "many", "gates", "readers", "_", "line", "gate", "source"]
abbrev s__readers : Stmt := topS 33
theorem sc__readers : FnScope N__readers ["plan"] (defScope s__readers) := ⟨rfl, rfl, rfl, by decide +kernel, rfl, by decide +kernel, by decide +kernel⟩
abbrev N__in_order : List Str := ["plan", "many", "gates", "readers", "awaited", "gate", "source", "ready", "at", "number", "found", "line", "reader"]
abbrev s__in_order : Stmt := topS 34
theorem sc__in_order : FnScope N__in_order ["plan"] (defScope s__in_order) := ⟨rfl, rfl, rfl, by decide +kernel, rfl, by decide +kernel, by decide +kernel⟩
abbrev N_order : List Str := ["plan", "found"]
abbrev s_order : Stmt := topS 35
theorem sc_order : FnScope N_order ["plan"] (defScope s_order) := ⟨rfl, rfl, rfl, by decide +kernel, rfl, by decide +kernel, by decide +kernel⟩
theorem lc_rd : ∀ x ∈ N_rdL, L2.Loc (defScope s__readers) x := by
  have h : ∀ x ∈ N_rdL, (defScope s__readers).names.lookup x = some .local := by decide +kernel
  exact fun x m => Or.inl (h x m)
section
variable {P : Program} {w : World} {K : PySem.W.Frag} {mg : Str → Option Value} {base : Heap} {cv : Nat → Value} {f : Addr} {fd : FuncData}
def m__readers : DS → R Out := mSeq (mAsg [] (stPair 1 2) (mVar 0)) readM
theorem h__readers (F : Fun K "_readers" "_readers" s__readers f fd) (mf : mg "_readers" = some (.ref f)) (bd : Binds K fd ["plan"] []) (m_range : mg "range" = none) (m_enumerate : mg "enumerate" = none) (m_len : mg "len" = none) : HasN P w K mg base cv "_readers" ["plan"] 1 g_readers := by
  have nd := sc__readers.nd
  refine HasN.imp (has_N (m := m__readers) [] F mf bd sc__readers (by decide) (fun cdv A outer s H E hr => dss_cons (ds_asg (dg_pair (i := 1) (j := 2) rfl nd rfl rfl (Or.inl rfl) (Or.inl rfl)) (de_var 0))
    (dss_readers (passes_of rfl) rfl rfl m_range m_enumerate (de_op op_addD dop_add (de_var 1) (de_callB call_lenD2 dc_len (by rfl) m_len PySem.boot_len (da_cons (de_var 2) da_nil))) (fun δ mn xs e1 e2 => by rw [q_bin, e1, R.bind_ok, q_call, q_cons, e2, R.bind_ok, q_nil, R.map_ok, R.bind_ok, g_lenL, R.bind_ok, g_addI])
      lc_rd rfl (fun _ _ => Or.inl rfl) (sw_true rfl rfl rfl (by decide +kernel)) (blkOk_by (N := N_rd) (sc := defScope s__readers) (by decide +kernel)) (fun _ _ _ _ _ => pg_name (i := 4) nd rfl (Or.inl rfl))))) fun ds => ?_
  unfold g_readers
  split
  · rename_i d
    split
    · rename_i mn gs eg
      have ed := toPlan_inv eg
      dsimp only at ed
      subst ed
      cases ht : rdOk mn gs with
      | false => exact .inl rfl
      | true =>
        refine .inr ?_
        rw [chk_ok (by rfl), show startD N__readers [planD mn gs] = [some (planD mn gs), none, none, none, none, none, none, none] from rfl]
        unfold m__readers
        rw [cutR [some (planD mn gs), some (.int mn), some (.list (gatesD gs)), none, none, none, none, none] (r := R.ok (Out.rl (rowsD (readersOf mn gs))))]
        · rfl
        · have eg : planD mn gs = .tuple [.int mn, .list (gatesD gs)] := rfl
          repeat (first | simp only [eg] | walk_at "dl")
        · show (match gatesOf (gatesD gs) with
            | some gs => R.when (decide (8 = 8) && rdOk mn gs) (R.ok (Out.rl (rowsD (readersOf mn gs))))
            | none => .bad) = _
          rw [gatesOf_of]
          dsimp only
          rw [ht]; rfl
    · exact .inl rfl
  · exact .inl rfl
def m__in_order : DS → R Out := ioM
theorem h__in_order (h__readers : HasN P w K mg base cv "_readers" ["plan"] 1 g_readers) (F : Fun K "_in_order" "_in_order" s__in_order f fd) (mf : mg "_in_order" = some (.ref f)) (bd : Binds K fd ["plan"] []) (m_len : mg "len" = none) (m_enumerate : mg "enumerate" = none) (b_heappop : mg "heappop" = some (.builtin "_heapq.heappop")) (b_heappush : mg "heappush" = some (.builtin "_heapq.heappush")) : HasN P w K mg base cv "_in_order" ["plan"] 2 g_inorder := by
  have nd := sc__in_order.nd
  refine HasN.imp (has_N (m := m__in_order) [4, 7, 10] F mf bd sc__in_order (by decide) (fun cdv A outer s H E hr => (dss_cons (ds_asg (dg_pair (i := 1) (j := 2) rfl nd rfl rfl (Or.inr rfl) (Or.inl rfl)) (de_var 0))
      (dss_cons (ds_set (i := 3) nd rfl (Or.inl rfl) (DN.de (dn_has h__readers hr (pass_def rfl rfl rfl rfl) (da_cons (de_var 0) da_nil))))
      (dss_cons (ds_lcO (i := 4) (dn_compS (own := [("gate", 5)]) rfl rfl (sw_true rfl rfl rfl (by decide +kernel)) rfl nd (de_var 2) (blkOk_by (N := N__in_order) (sc := defScope s__in_order) (by decide +kernel)) (fun _ _ _ _ _ => pg_name (i := 5) nd rfl (Or.inl rfl)) (fun _ _ _ _ _ => dts_nil) (fun _ _ _ _ _ => (de_callB call_lenD2 dc_len (by rfl) m_len PySem.boot_len (da_cons (DN.de (dn_comp (own := [("source", 6)]) rfl nd (de_ix ix_any dop_ix (de_var 5) de_int) (blkOk_by (N := N__in_order) (sc := (relS (lcScope ((defBody s__in_order).getD 2 (.Pass ⟨0, 0, 0, 0⟩))) (defScope s__in_order))) (by decide +kernel)) (fun _ _ _ _ _ => pg_name (i := 6) nd rfl (Or.inl rfl)) (fun _ _ _ _ _ => (dts_one (dt_cmp op_ge dop_cmp (de_var 6) (de_var 1)))) (fun _ _ _ _ _ => (de_var 6)) (fun _ _ => wipe_one))) da_nil))) (fun _ _ => wipe_one)))
      (dss_cons (ds_lcOI (i := 7) (dn_compES rfl rfl (sw_true rfl rfl rfl (by decide +kernel)) rfl nd (by rfl) m_enumerate (de_var 4) (blkOk_by (N := N__in_order) (sc := defScope s__in_order) (by decide +kernel)) (fun _ _ _ _ _ => pg_two (ja := 8) (jb := 9) rfl nd rfl rfl (Or.inl rfl) (Or.inl rfl) (Or.inr rfl) (Or.inr rfl)) (fun _ _ _ _ _ => (dts_one (dt_cmp (op_eqD hr.units) dop_eq (de_var 9) de_int))) (fun _ _ _ _ _ => (de_op op_addD dop_add (de_var 1) (de_var 8))) (fun _ _ _ => wipe_two (by decide))))
      (dss_cons (ds_own (i := 10) nd rfl (Or.inl rfl) (dn_lst da_nil))
      (dss_cons (ds_while (fun _ => 2000) (passes_of rfl) (dt_truth (de_var 7)) (dss_cons (ds_hpop (i := 11) (j := 7) nd rfl (Or.inl rfl) rfl (by first | exact Or.inl rfl | exact Or.inr (Or.inl rfl)) (by rfl) b_heappop)
      (dss_cons (ds_app (i := 10) rfl (by first | exact Or.inl rfl | exact Or.inr (Or.inl rfl)) (de_var 11))
      (dss_one (ds_for (passes_of rfl) rfl (de_ix ix_any dop_ix (de_var 3) (de_var 11)) (dg_name (i := 12) nd rfl (Or.inl rfl)) (dss_cons (ds_aug ip_sub (i := 4) rfl (by first | exact Or.inl rfl | exact Or.inr (Or.inl rfl)) (de_op op_sub dop_sub (de_var 12) (de_var 1)) de_int)
      (dss_one (ds_if (dt_cmp (op_eqD hr.units) dop_eq (de_ix ix_any dop_ix (de_var 4) (de_op op_sub dop_sub (de_var 12) (de_var 1))) de_int) (dss_one (ds_hpush (j := 7) rfl (by first | exact Or.inl rfl | exact Or.inr (Or.inl rfl)) (de_var 12) (by rfl) b_heappush)) dss_nil))))))))
      (dss_one (ds_retO (i := 10) rfl (by first | exact Or.inl rfl | exact Or.inr (Or.inl rfl)))))))))))) fun ds => ?_
  unfold g_inorder
  split
  · rename_i d
    split
    · rename_i mn gs eg
      have ed := toPlan_inv eg
      dsimp only at ed
      subst ed
      cases ht : rdOk mn gs with
      | false => exact .inl rfl
      | true =>
        refine .inr ?_
        rw [chk_ok (by rfl), show startD N__in_order [planD mn gs] = [some (planD mn gs), none, none, none, none, none, none, none, none, none, none, none, none] from rfl, R.when_true]
        exact io_ok ht
    · exact .inl rfl
  · exact .inl rfl
def m_order : DS → R Out :=
  (mSeq (mDrop (mCall g_checked (mCons (mVar 0) mNil)))
    (mSeq (mOwn [1] 1 (mCallN g_inorder (mCons (mVar 0) mNil)))
    (mSeq (mIf (mB (mBin (gCmp fun i j => decide (i < j)) (mCall gLen (mCons (mVar 1) mNil)) (mCall gLen (mCons (mBin gIx (mVar 0) (mC (.int 1))) mNil)))) (mRaiseD 6 (mCons (mC (.str "the plan has a ring")) mNil)) mSkip)
    (mRetO 1))))
theorem h_order (h_checked : Has P w K mg base cv "checked" ["plan"] 4 g_checked) (h__in_order : HasN P w K mg base cv "_in_order" ["plan"] 2 g_inorder) (F : Fun K "order" "order" s_order f fd) (mf : mg "order" = some (.ref f)) (bd : Binds K fd ["plan"] []) (m_len : mg "len" = none) (x_Ringed : ExcAt K mg cv "Ringed" 6) : HasN P w K mg base cv "order" ["plan"] 5 g_order := by
  have nd := sc_order.nd
  refine HasN.imp (has_N (m := m_order) [1] F mf bd sc_order (by decide) (fun cdv A outer s H E hr => (dss_cons (ds_expr (de_has h_checked hr (pass_def rfl rfl rfl rfl) (da_cons (de_var 0) da_nil)))
      (dss_cons (ds_own (i := 1) nd rfl (Or.inl rfl) (dn_has h__in_order hr (pass_def rfl rfl rfl rfl) (da_cons (de_var 0) da_nil)))
      (dss_cons (ds_if (dt_cmp op_lt dop_cmp (de_callB call_lenD2 dc_len (by rfl) m_len PySem.boot_len (da_cons (de_var 1) da_nil)) (de_callB call_lenD2 dc_len (by rfl) m_len PySem.boot_len (da_cons (de_ix ix_any dop_ix (de_var 0) de_int) da_nil))) (dss_one (ds_raiseA x_Ringed rfl (takes_of rfl rfl rfl rfl) (da_cons de_str da_nil))) dss_nil)
      (dss_one (ds_retO (i := 1) rfl (by first | exact Or.inl rfl | exact Or.inr (Or.inl rfl))))))))) fun ds => ?_
  unfold g_order
  split
  · rename_i d
    split
    · rename_i mn gs eg
      have ed := toPlan_inv eg
      dsimp only at ed
      subst ed
      cases ht : planTame mn gs with
      | false => exact .inl rfl
      | true =>
        refine .inr ?_
        rw [chk_ok (by rfl), show startD N_order [planD mn gs] = [some (planD mn gs), none] from rfl, R.when_true]
        unfold m_order
        have e0 := checked_ev ht
        cases q : planErr mn gs with
        | some e =>
          rw [q] at e0
          repeat (first | simp only [e0, errR] | walk_at "dl")
        | none =>
          rw [q] at e0
          have e1 := inorder_ev (ok_rd ht q)
          have pix : gIx (planD mn gs) (.int 1) = .ok (.list (gatesD gs)) := rfl
          cases hq : decide ((ordOf mn gs).length < gs.length) with
          | true =>
            have : ordErr mn gs = some 6 := by unfold ordErr; rw [if_pos (of_decide_eq_true hq)]
            have hc : ((ordOf mn gs).length : Int) < (gs.length : Int) := by have := of_decide_eq_true hq; omega
            rw [this]
            repeat (first | simp only [e0, e1, errR, pix, ints_len, gates_map_len] | walk_at "dl")
            rw [if_pos hc]; rfl
          | false =>
            have : ordErr mn gs = none := by unfold ordErr; rw [if_neg (of_decide_eq_false hq)]
            have hc : ¬ ((ordOf mn gs).length : Int) < (gs.length : Int) := by have := of_decide_eq_false hq; omega
            rw [this]
            repeat (first | simp only [e0, e1, errR, pix, ints_len, gates_map_len] | walk_at "dl")
            rw [if_neg hc]; rfl
    · exact .inl rfl
  · exact .inl rfl
end
end K10
namespace K10
open PySem PySem.Spec PyProof.Rows L2 SL
local macro_rules | `(tactic| walk_at "dl") => `(tactic| simp only [R.bind_ok, R.bind_bad, R.bind_ex, R.map_ok, R.map_bad, R.map_ex, R.run_ok, R.run_bad, R.run_ex, R.when_true, q_var, q_get, Bool.not_true, Bool.not_false, q_slA, q_slAS, q_slAL, q_slAT, q_forR, q_forRK1, q_for, q_forK, q_forT, q_stN, q_isN, isN_none, isN_tup, g_ixS, q_ixK, q_part, q_partK, q_noPart, q_sl, q_slK, q_try, tryK_ex, tryK_nx, tryK_rt, q_hand, handK_t, handK_f, hand_nil, noEx_nx, q_tryIsK, tryIsK_nx, q_c, q_bin, q_nil, q_cons, q_call, q_callN, q_tup, q_lst, q_B, q_boolD, q_not, q_and, q_or, q_andE, q_orE, q_notE, q_neg, q_andK, q_orK, q_notK, q_negK, q_ifE, q_seq, q_seqK, q_seqR, q_seqL, q_seqX, q_skip, q_if, q_set, q_setI, q_setNI, q_own, q_ownI, q_ret, q_retL, q_owned, q_ownV, q_retO, q_drop, q_app, q_appI, q_setAt, q_setAtI, q_put, q_putK, q_hideN, q_inB, q_fin, q_finL, q_finN, q_finX, q_finL', q_finLX, q_raise, g_cmp, g_addI, g_subI, g_mulI, g_modI, g_divI, g_addS, g_addL, g_addT, g_catL, g_ixL, g_ixT, g_atK, g_lenL, g_lenT, g_lenS, g_listL, g_listT, g_tupL, g_all, g_any, g_sum, bools_of, g_allK, g_anyK, g_sumK, g_eqI, g_eqB, q_asg, q_pair, q_tri, q_give, q_blank, q_bad, q_fldX, q_firstEx, g_powI, at3_0, at3_1, at3_2, at2_0, at2_1, R.run_ok, q_mL, q_mcat, q_comp, q_compL, q_compT, q_compR, q_compRI, q_wipe1, q_repK, q_repI, q_hide, q_hide0, q_hideM, memB_nil, memB_cons, Nat.reduceBEq, Bool.or_false, Bool.false_or, Bool.or_true, Bool.true_or, List.map_cons, List.map_nil, decide_false, Nat.reduceEqDiff, reduceCtorEq, List.getElem?_cons_zero, List.getElem?_cons_succ, List.set_cons_zero, List.set_cons_succ, List.length_cons, List.length_nil, Nat.zero_add, Nat.reduceAdd, Nat.reduceLT, decide_true, Bool.and_true, Bool.true_and, if_true, decide_eq_true_eq, Bool.false_eq_true, if_false])
abbrev N__yes : List Str := ["given"]
abbrev s__yes : Stmt := topS 11
theorem sc__yes : FnScope N__yes ["given"] (defScope s__yes) := ⟨rfl, rfl, rfl, by decide +kernel, rfl, by decide +kernel, by decide +kernel⟩
abbrev N__no : List Str := ["given"]
abbrev s__no : Stmt := topS 12
theorem sc__no : FnScope N__no ["given"] (defScope s__no) := ⟨rfl, rfl, rfl, by decide +kernel, rfl, by decide +kernel, by decide +kernel⟩
abbrev N__keep : List Str := ["given"]
abbrev s__keep : Stmt := topS 13
theorem sc__keep : FnScope N__keep ["given"] (defScope s__keep) := ⟨rfl, rfl, rfl, by decide +kernel, rfl, by decide +kernel, by decide +kernel⟩
abbrev N__not : List Str := ["given"]
abbrev s__not : Stmt := topS 14
theorem sc__not : FnScope N__not ["given"] (defScope s__not) := ⟨rfl, rfl, rfl, by decide +kernel, rfl, by decide +kernel, by decide +kernel⟩
abbrev N__both : List Str := ["given"]
abbrev s__both : Stmt := topS 15
theorem sc__both : FnScope N__both ["given"] (defScope s__both) := ⟨rfl, rfl, rfl, by decide +kernel, rfl, by decide +kernel, by decide +kernel⟩
abbrev N__either : List Str := ["given"]
abbrev s__either : Stmt := topS 16
theorem sc__either : FnScope N__either ["given"] (defScope s__either) := ⟨rfl, rfl, rfl, by decide +kernel, rfl, by decide +kernel, by decide +kernel⟩
abbrev N__unlike : List Str := ["given"]
abbrev s__unlike : Stmt := topS 17
theorem sc__unlike : FnScope N__unlike ["given"] (defScope s__unlike) := ⟨rfl, rfl, rfl, by decide +kernel, rfl, by decide +kernel, by decide +kernel⟩
abbrev N__pick : List Str := ["given"]
abbrev s__pick : Stmt := topS 18
theorem sc__pick : FnScope N__pick ["given"] (defScope s__pick) := ⟨rfl, rfl, rfl, by decide +kernel, rfl, by decide +kernel, by decide +kernel⟩
abbrev N__most : List Str := ["given"]
abbrev s__most : Stmt := topS 19
theorem sc__most : FnScope N__most ["given"] (defScope s__most) := ⟨rfl, rfl, rfl, by decide +kernel, rfl, by decide +kernel, by decide +kernel⟩
abbrev N_answer : List Str := ["kind", "given", "rule"]
abbrev s_answer : Stmt := topS 24
theorem sc_answer : FnScope N_answer ["kind", "given"] (defScope s_answer) := ⟨rfl, rfl, rfl, by decide +kernel, rfl, by decide +kernel, by decide +kernel⟩
section
variable {P : Program} {w : World} {K : PySem.W.Frag} {mg : Str → Option Value} {base : Heap} {cv : Nat → Value} {f : Addr} {fd : FuncData}
theorem h__yes (F : Fun K "_yes" "_yes" s__yes f fd) (mf : mg "_yes" = some (.ref f)) (bd : Binds K fd ["given"] []) : Has P w K mg base cv "_yes" ["given"] 1 (g_rule 0) := by
  have nd := sc__yes.nd
  refine Has.imp (has_D [] F mf bd sc__yes (by decide) (fun cdv A outer s H E hr => (dss_one (ds_ret de_bl)))) (tell_rule fun bs hb => ?_)
  rw [chk_ok (by rfl), show startD N__yes [.list (bs.map PyData.bool)] = [some (.list (bs.map PyData.bool))] from rfl]
  walk_at "dl"
  rfl
theorem h__no (F : Fun K "_no" "_no" s__no f fd) (mf : mg "_no" = some (.ref f)) (bd : Binds K fd ["given"] []) : Has P w K mg base cv "_no" ["given"] 1 (g_rule 1) := by
  have nd := sc__no.nd
  refine Has.imp (has_D [] F mf bd sc__no (by decide) (fun cdv A outer s H E hr => (dss_one (ds_ret de_bl)))) (tell_rule fun bs hb => ?_)
  rw [chk_ok (by rfl), show startD N__no [.list (bs.map PyData.bool)] = [some (.list (bs.map PyData.bool))] from rfl]
  walk_at "dl"
  rfl
theorem h__keep (F : Fun K "_keep" "_keep" s__keep f fd) (mf : mg "_keep" = some (.ref f)) (bd : Binds K fd ["given"] []) : Has P w K mg base cv "_keep" ["given"] 1 (g_rule 2) := by
  have nd := sc__keep.nd
  refine Has.imp (has_D [] F mf bd sc__keep (by decide) (fun cdv A outer s H E hr => (dss_one (ds_ret (de_ix ix_any dop_ix (de_var 0) de_int))))) (tell_rule fun bs hb => ?_)
  rw [chk_ok (by rfl), show startD N__keep [.list (bs.map PyData.bool)] = [some (.list (bs.map PyData.bool))] from rfl]
  have h := ar_eq hb
  have a0 := atB (bs := bs) (k := 0) (by simp only [SL.lo, SL.hi] at h; omega)
  walk_at "dl"
  rw [show ((0 : Nat) : Int) = 0 from rfl] at a0
  rw [a0]
  walk_at "dl"
  rfl
theorem h__not (F : Fun K "_not" "_not" s__not f fd) (mf : mg "_not" = some (.ref f)) (bd : Binds K fd ["given"] []) : Has P w K mg base cv "_not" ["given"] 1 (g_rule 3) := by
  have nd := sc__not.nd
  refine Has.imp (has_D [] F mf bd sc__not (by decide) (fun cdv A outer s H E hr => (dss_one (ds_ret (de_not (de_ix ix_any dop_ix (de_var 0) de_int)))))) (tell_rule fun bs hb => ?_)
  rw [chk_ok (by rfl), show startD N__not [.list (bs.map PyData.bool)] = [some (.list (bs.map PyData.bool))] from rfl]
  have h := ar_eq hb
  have a0 := atB (bs := bs) (k := 0) (by simp only [SL.lo, SL.hi] at h; omega)
  walk_at "dl"
  rw [show ((0 : Nat) : Int) = 0 from rfl] at a0
  rw [a0]
  walk_at "dl"
  rfl
theorem h__both (F : Fun K "_both" "_both" s__both f fd) (mf : mg "_both" = some (.ref f)) (bd : Binds K fd ["given"] []) (m_all : mg "all" = none) : Has P w K mg base cv "_both" ["given"] 1 (g_rule 4) := by
  have nd := sc__both.nd
  refine Has.imp (has_D [] F mf bd sc__both (by decide) (fun cdv A outer s H E hr => (dss_one (ds_ret (de_callB (cr_all rfl) dc_all (by rfl) m_all (by decide +kernel) (da_cons (de_var 0) da_nil)))))) (tell_rule fun bs hb => ?_)
  rw [chk_ok (by rfl), show startD N__both [.list (bs.map PyData.bool)] = [some (.list (bs.map PyData.bool))] from rfl]
  walk_at "dl"
  rfl
theorem h__either (F : Fun K "_either" "_either" s__either f fd) (mf : mg "_either" = some (.ref f)) (bd : Binds K fd ["given"] []) (m_any : mg "any" = none) : Has P w K mg base cv "_either" ["given"] 1 (g_rule 5) := by
  have nd := sc__either.nd
  refine Has.imp (has_D [] F mf bd sc__either (by decide) (fun cdv A outer s H E hr => (dss_one (ds_ret (de_callB (cr_any rfl) dc_any (by rfl) m_any (by decide +kernel) (da_cons (de_var 0) da_nil)))))) (tell_rule fun bs hb => ?_)
  rw [chk_ok (by rfl), show startD N__either [.list (bs.map PyData.bool)] = [some (.list (bs.map PyData.bool))] from rfl]
  walk_at "dl"
  rfl
theorem h__unlike (F : Fun K "_unlike" "_unlike" s__unlike f fd) (mf : mg "_unlike" = some (.ref f)) (bd : Binds K fd ["given"] []) (m_sum : mg "sum" = none) : Has P w K mg base cv "_unlike" ["given"] 1 (g_rule 6) := by
  have nd := sc__unlike.nd
  refine Has.imp (has_D [] F mf bd sc__unlike (by decide) (fun cdv A outer s H E hr => (dss_one (ds_ret (de_cmp (op_eqD hr.units) dop_eq (de_op op_mod dop_mod (de_callB (cr_sumB rfl) dc_sumB (by rfl) m_sum (by decide +kernel) (da_cons (de_var 0) da_nil)) de_int) de_int))))) (tell_rule fun bs hb => ?_)
  rw [chk_ok (by rfl), show startD N__unlike [.list (bs.map PyData.bool)] = [some (.list (bs.map PyData.bool))] from rfl]
  walk_at "dl"
  rw [show modOk (bs.map numB).sum 2 = true from rfl]
  walk_at "dl"
  rfl
theorem h__pick (F : Fun K "_pick" "_pick" s__pick f fd) (mf : mg "_pick" = some (.ref f)) (bd : Binds K fd ["given"] []) : Has P w K mg base cv "_pick" ["given"] 1 (g_rule 7) := by
  have nd := sc__pick.nd
  refine Has.imp (has_D [] F mf bd sc__pick (by decide) (fun cdv A outer s H E hr => (dss_one (ds_ret (de_ifExp (dt_val (de_ix ix_any dop_ix (de_var 0) de_int)) (de_ix ix_any dop_ix (de_var 0) de_int) (de_ix ix_any dop_ix (de_var 0) de_int)))))) (tell_rule fun bs hb => ?_)
  rw [chk_ok (by rfl), show startD N__pick [.list (bs.map PyData.bool)] = [some (.list (bs.map PyData.bool))] from rfl]
  have h := ar_eq hb
  have a0 := atB (bs := bs) (k := 0) (by simp only [SL.lo, SL.hi] at h; omega)
  have a1 := atB (bs := bs) (k := 1) (by simp only [SL.lo, SL.hi] at h; omega)
  have a2 := atB (bs := bs) (k := 2) (by simp only [SL.lo, SL.hi] at h; omega)
  rw [show ((0 : Nat) : Int) = 0 from rfl] at a0
  rw [show ((1 : Nat) : Int) = 1 from rfl] at a1
  rw [show ((2 : Nat) : Int) = 2 from rfl] at a2
  walk_at "dl"
  rw [a0, a1, a2]
  walk_at "dl"
  show _ = R.ok (PyData.bool (if bs.getD 0 false = true then bs.getD 1 false else bs.getD 2 false))
  cases bs.getD 0 false
  · rw [if_neg Bool.false_ne_true, if_neg Bool.false_ne_true]; rfl
  · rw [if_pos rfl, if_pos rfl]; rfl
theorem h__most (F : Fun K "_most" "_most" s__most f fd) (mf : mg "_most" = some (.ref f)) (bd : Binds K fd ["given"] []) (m_sum : mg "sum" = none) : Has P w K mg base cv "_most" ["given"] 1 (g_rule 8) := by
  have nd := sc__most.nd
  refine Has.imp (has_D [] F mf bd sc__most (by decide) (fun cdv A outer s H E hr => (dss_one (ds_ret (de_cmp op_ge dop_cmp (de_callB (cr_sumB rfl) dc_sumB (by rfl) m_sum (by decide +kernel) (da_cons (de_var 0) da_nil)) de_int))))) (tell_rule fun bs hb => ?_)
  rw [chk_ok (by rfl), show startD N__most [.list (bs.map PyData.bool)] = [some (.list (bs.map PyData.bool))] from rfl]
  walk_at "dl"
  rfl
theorem h_answer (F : Fun K "answer" "answer" s_answer f fd) (mf : mg "answer" = some (.ref f)) (bd : Binds K fd ["kind", "given"] []) (h_check_number : Has P w K mg base cv "check_number" ["kind", "number"] 2 g_check) (t_RULES : TabF P w K mg base cv "RULES" 1 tbR) (m_len : mg "len" = none) : Has P w K mg base cv "answer" ["kind", "given"] 3 g_answer := by
  have nd := sc_answer.nd
  refine Has.imp (has_D [] F mf bd sc_answer (by decide) (fun cdv A outer s H E hr => (dss_cons (ds_expr (de_has h_check_number hr (pass_def rfl rfl rfl rfl) (da_cons (de_var 0) (da_cons (de_callB call_lenD2 dc_len (by rfl) m_len PySem.boot_len (da_cons (de_var 1) da_nil)) da_nil))))
      (dss_tabF (i := 2) t_RULES hr (by decide) (pass_def rfl rfl rfl rfl) nd rfl (Or.inl rfl) (Or.inl rfl) (de_var 0) (da_cons (de_var 1) da_nil))))) fun ds => ?_
  unfold g_answer
  split
  · rename_i z xs
    split
    · rename_i i bs e e2
      have e3 := bools_inv e2
      subst e3
      cases hb : arOk i bs.length with
      | false => exact .inl rfl
      | true =>
        refine .inr ?_
        have h := ar_eq hb
        rw [chk_ok (by rfl), show startD N_answer [.str z, .list (bs.map PyData.bool)] = [some (.str z), some (.list (bs.map PyData.bool)), none] from rfl]
        walk_at "dl"
        rw [show g_check [.str z, .int ((bs.map PyData.bool).length : Int)] = .ok .none by
          unfold g_check; dsimp only; rw [e]; dsimp only; rw [List.length_map, if_pos h]]
        walk_at "dl"
        unfold mTabF
        walk_at "dl"
        rw [show (strD (.str z)).bind tbR = some (g_rule i) by show tbR z = _; unfold tbR; rw [e]; rfl]
        dsimp only
        rw [show g_rule i [.list (bs.map PyData.bool)] = .ok (.bool (ansB i bs)) by
          unfold g_rule; dsimp only [boolL]; rw [bools_of]; dsimp only; rw [hb]; rfl]
        rfl
    · exact .inl rfl
  · exact .inl rfl
end
end K10
namespace K10
open PySem PySem.Spec PyProof.Rows L2 SL
local macro_rules | `(tactic| walk_at "dl") => `(tactic| simp only [R.bind_ok, R.bind_bad, R.bind_ex, R.map_ok, R.map_bad, R.map_ex, R.run_ok, R.run_bad, R.run_ex, R.when_true, q_var, q_get, Bool.not_true, Bool.not_false, q_slA, q_slAS, q_slAL, q_slAT, q_forR, q_forRK1, q_for, q_forK, q_forT, q_stN, q_isN, isN_none, isN_tup, g_ixS, q_ixK, q_part, q_partK, q_noPart, q_sl, q_slK, q_try, tryK_ex, tryK_nx, tryK_rt, q_hand, handK_t, handK_f, hand_nil, noEx_nx, q_tryIsK, tryIsK_nx, q_c, q_bin, q_nil, q_cons, q_call, q_callN, q_tup, q_lst, q_B, q_boolD, q_not, q_and, q_or, q_andE, q_orE, q_notE, q_neg, q_andK, q_orK, q_notK, q_negK, q_ifE, q_seq, q_seqK, q_seqR, q_seqL, q_seqX, q_skip, q_if, q_set, q_setI, q_setNI, q_own, q_ownI, q_ret, q_retL, q_owned, q_ownV, q_retO, q_drop, q_app, q_appI, q_setAt, q_setAtI, q_put, q_putK, q_hideN, q_inB, q_fin, q_finL, q_finN, q_finX, q_finL', q_finLX, q_raise, g_cmp, g_addI, g_subI, g_mulI, g_modI, g_divI, g_addS, g_addL, g_addT, g_catL, g_ixL, g_ixT, g_atK, g_lenL, g_lenT, g_lenS, g_listL, g_listT, g_tupL, g_all, g_any, g_sum, bools_of, g_allK, g_anyK, g_sumK, g_eqI, g_eqB, q_asg, q_pair, q_tri, q_give, q_blank, q_bad, q_fldX, q_firstEx, g_powI, at3_0, at3_1, at3_2, at2_0, at2_1, R.run_ok, q_mL, q_mcat, q_comp, q_compL, q_compT, q_compR, q_compRI, q_wipe1, q_repK, q_repI, q_hide, q_hide0, q_hideM, memB_nil, memB_cons, Nat.reduceBEq, Bool.or_false, Bool.false_or, Bool.or_true, Bool.true_or, List.map_cons, List.map_nil, decide_false, Nat.reduceEqDiff, reduceCtorEq, List.getElem?_cons_zero, List.getElem?_cons_succ, List.set_cons_zero, List.set_cons_succ, List.length_cons, List.length_nil, Nat.zero_add, Nat.reduceAdd, Nat.reduceLT, decide_true, Bool.and_true, Bool.true_and, if_true, decide_eq_true_eq, Bool.false_eq_true, if_false])
abbrev N__check_values : List Str := ["values", "number"]
abbrev s__check_values : Stmt := topS 37
theorem sc__check_values : FnScope N__check_values ["values", "number"] (defScope s__check_values) := ⟨rfl, rfl, rfl, by decide +kernel, rfl, by decide +kernel, by decide +kernel⟩
abbrev N_answered : List Str := ["plan", "values", "touched", "many", "gates", "again", "anew", "line", "kind", "sources", "_", "source"]
abbrev s_answered : Stmt := topS 38
theorem sc_answered : FnScope N_answered ["plan", "values", "touched"] (defScope s_answered) := ⟨rfl, rfl, rfl, by decide +kernel, rfl, by decide +kernel, by decide +kernel⟩
abbrev N_settled : List Str := ["plan", "ins", "lines", "many", "gates", "unknown"]
abbrev s_settled : Stmt := topS 39
theorem sc_settled : FnScope N_settled ["plan", "ins"] (defScope s_settled) := ⟨rfl, rfl, rfl, by decide +kernel, rfl, by decide +kernel, by decide +kernel⟩
section
variable {P : Program} {w : World} {K : PySem.W.Frag} {mg : Str → Option Value} {base : Heap} {cv : Nat → Value} {f : Addr} {fd : FuncData}
def m__check_values : DS → R Out :=
  (mIf (mB (mBin gNe (mCall gLen (mCons (mVar 0) mNil)) (mVar 1))) (mRaiseD 5 (mCons (mJs [(mC (.str "there are ")), (mFmt (mCall gLen (mCons (mVar 0) mNil))), (mC (.str " values for ")), (mFmt (mVar 1)), (mC (.str " lines"))] Str.empty) mNil)) mSkip)
theorem h__check_values (F : Fun K "_check_values" "_check_values" s__check_values f fd) (mf : mg "_check_values" = some (.ref f)) (bd : Binds K fd ["values", "number"] []) (x_NoValues : ExcAt K mg cv "NoValues" 5) (m_len : mg "len" = none) : Has P w K mg base cv "_check_values" ["values", "number"] 1 g_checkvalues := by
  have nd := sc__check_values.nd
  refine Has.imp (has_D (m := m__check_values) [] F mf bd sc__check_values (by decide) (fun cdv A outer s H E hr => (dss_one (ds_if (dt_cmp (op_neD hr.units) dop_ne (de_callB call_lenD2 dc_len (by rfl) m_len PySem.boot_len (da_cons (de_var 0) da_nil)) (de_var 1)) (dss_one (ds_raiseA x_NoValues rfl (takes_of rfl rfl rfl rfl) (da_cons (de_fstr (FJ.cons de_str (FJ.cons (de_fmt (de_callB call_lenD2 dc_len (by rfl) m_len PySem.boot_len (da_cons (de_var 0) da_nil))) (FJ.cons de_str (FJ.cons (de_fmt (de_var 1)) (FJ.cons de_str FJ.nil)))))) da_nil))) dss_nil)))) fun ds => ?_
  unfold g_checkvalues
  split
  · rename_i xs n
    by_cases h : (xs.length : Int) = n
    · rw [if_pos h]
      refine .inr ?_
      rw [chk_ok (by rfl), show startD N__check_values [.list xs, .int n] = [some (.list xs), some (.int n)] from rfl]
      unfold m__check_values
      have t : mB (mBin gNe (mCall gLen (mCons (mVar 0) mNil)) (mVar 1)) [some (.list xs), some (.int n)] = .ok false := by
        show (gNe (.int (xs.length : Nat)) (.int n)).bind boolD = _
        rw [neI, decide_eq_true h]; rfl
      rw [q_if, t]; rfl
    · rw [if_neg h]
      cases hb : decide (xs.length ≤ 1000 ∧ 0 ≤ n ∧ n ≤ 1000) with
      | false => exact .inl rfl
      | true =>
        obtain ⟨h1, h2, h3⟩ := of_decide_eq_true hb
        rw [R.when_true]
        refine .inr ?_
        obtain ⟨k, rfl⟩ : ∃ k : Nat, n = (k : Int) := ⟨n.toNat, by omega⟩
        rw [chk_ok (by rfl), show startD N__check_values [.list xs, .int (k : Int)] = [some (.list xs), some (.int (k : Int))] from rfl]
        have k1 := int_mid xs.length (by omega)
        have k2 := int_mid k (by omega)
        have hj : mJs [(mC (.str "there are ")), (mFmt (mCall gLen (mCons (mVar 0) mNil))), (mC (.str " values for ")), (mFmt (mVar 1)), (mC (.str " lines"))] Str.empty [some (.list xs), some (.int (k : Int))] = .ok (.str (Str.empty ++ "there are " ++ toString (xs.length : Int) ++ " values for " ++ toString (k : Int) ++ " lines")) := by
          have l1 : ("there are " : Str).length = 10 := rfl
          have l2 : (" values for " : Str).length = 12 := rfl
          have l3 : (" lines" : Str).length = 6 := rfl
          have l0 : Str.empty.length = 0 := rfl
          rw [js_cons (y := "there are ") rfl (by omega), js_cons (y := toString (xs.length : Int)) (fmtJ_at rfl (by omega)) (by rw [Str.length_append]; omega), js_cons (y := " values for ") rfl (by rw [Str.length_append, Str.length_append]; omega),
            js_cons (y := toString (k : Int)) (fmtJ_at rfl (by omega)) (by rw [Str.length_append, Str.length_append, Str.length_append]; omega), js_cons (y := " lines") rfl (by rw [Str.length_append, Str.length_append, Str.length_append, Str.length_append]; omega), js_nil]
        have t : mB (mBin gNe (mCall gLen (mCons (mVar 0) mNil)) (mVar 1)) [some (.list xs), some (.int (k : Int))] = .ok true := by
          show (gNe (.int (xs.length : Nat)) (.int (k : Int))).bind boolD = _
          rw [neI, decide_eq_false h]; rfl
        unfold m__check_values
        rw [q_if, t, R.run_ok, if_pos rfl, q_raise, q_cons, hj]
        rfl
  · exact .inl rfl
def m_answered : DS → R Out := anM
theorem h_answered (h_order : HasN P w K mg base cv "order" ["plan"] 5 g_order) (h_answer : Has P w K mg base cv "answer" ["kind", "given"] 3 g_answer) (F : Fun K "answered" "answered" s_answered f fd) (mf : mg "answered" = some (.ref f)) (bd : Binds K fd ["plan", "values", "touched"] []) (m_list : mg "list" = none) (m_set : mg "set" = none) : HasN P w K mg base cv "answered" ["plan", "values", "touched"] 6 g_answeredP := by
  have nd := sc_answered.nd
  refine HasN.imp (has_N (m := m_answered) [5] F mf bd sc_answered (by decide) (fun cdv A outer s H E hr => dss_cons (ds_asg (dg_pair (i := 3) (j := 4) rfl nd rfl rfl (Or.inl rfl) (Or.inl rfl)) (de_var 0))
    (dss_cons (ds_own (i := 5) nd rfl (Or.inr rfl) (dn_callTy call_list_of dc_list (by rfl) m_list (by decide +kernel) (da_cons (de_var 1) da_nil)))
    (dss_setFor (i := 6) (jt := 2) (jl := 7) (passes_of rfl) rfl nd rfl (Or.inl rfl) (by first | exact Or.inl rfl | exact Or.inr (Or.inl rfl)) rfl (by first | exact Or.inl rfl | exact Or.inr (Or.inl rfl)) rfl (Or.inl rfl) (by first | exact Or.inl rfl | exact Or.inr (Or.inl rfl))
      (DN.de (dn_has h_order hr (pass_def rfl rfl rfl rfl) (da_cons (de_var 0) da_nil)))
      (dsk_triAt (ia := 8) (ja := 9) (ka := 10) (xi := 5) rfl nd rfl rfl rfl (Or.inl rfl) (Or.inl rfl) (Or.inl rfl) (de_ix ix_any dop_ix (de_var 4) (de_op op_sub dop_sub (de_var 7) (de_var 3))) rfl (by first | exact Or.inl rfl | exact Or.inr (Or.inl rfl)) (fun a b => pg_sub a b set_list)
        (de_has h_answer hr (pass_def rfl rfl rfl rfl) (da_cons (de_var 8) (da_cons (DN.de (dn_comp (own := [("source", 11)]) rfl nd (de_var 9) (blkOk_by (N := N_answered) (sc := defScope s_answered) (by decide +kernel)) (fun _ _ _ _ _ => pg_name (i := 11) nd rfl (Or.inl rfl)) (fun _ _ _ _ _ => dts_nil) (fun _ _ _ _ _ => (de_ix ix_any dop_ix (de_var 5) (de_var 11))) (fun _ _ => wipe_one))) da_nil))) (de_var 7))
      (dss_one (ds_retO (i := 5) rfl (by first | exact Or.inl rfl | exact Or.inr (Or.inl rfl)))) (by rfl) m_set)))) fun ds => ?_
  unfold g_answeredP
  split
  · rename_i d bd nsd
    split
    · rename_i mn gs bs ns eg eb en
      have ed := toPlan_inv eg
      dsimp only at ed
      subst ed
      have e1 := bools_inv eb
      subst e1
      have e2 : nsd = intsOf ns := L2.ints_inv en
      subst e2
      cases ht : (planTame mn gs && decide (bs.length = (mn + gs.length).toNat ∧ ns.length ≤ 4000)) with
      | false => exact .inl rfl
      | true =>
        refine .inr ?_
        rw [Bool.and_eq_true] at ht
        obtain ⟨h1, h2⟩ := of_decide_eq_true ht.2
        rw [chk_ok (by rfl), show startD N_answered [planD mn gs, .list (bs.map PyData.bool), .list (intsOf ns)] = [some (planD mn gs), some (.list (boolsOf bs)), some (.list (intsOf ns)), none, none, none, none, none, none, none, none, none] from rfl, R.when_true]
        exact an_ok ht.1 h1 h2
    · exact .inl rfl
  · exact .inl rfl
def m_settled : DS → R Out :=
  (mSeq (mSet [] 2 (mCall g_checked (mCons (mVar 0) mNil)))
    (mSeq (mAsg [] (stPair 3 4) (mVar 0))
    (mSeq (mDrop (mCall g_checkvalues (mCons (mVar 1) (mCons (mVar 3) mNil))))
    (mSeq (mSet [] 5 (mL (mRep (mLst (mCons (mC (.bool false)) mNil)) (mCall gLen (mCons (mVar 4) mNil)))))
    (mRetL (mCallN g_answeredP (mCons (mVar 0) (mCons (mBin gAdd (mL (mCallN gList (mCons (mVar 1) mNil))) (mVar 5)) (mCons (mL (mCallN gListR (mCons (mVar 3) (mCons (mVar 2) mNil)))) mNil)))))))))
theorem h_settled (h_checked : Has P w K mg base cv "checked" ["plan"] 4 g_checked) (h__check_values : Has P w K mg base cv "_check_values" ["values", "number"] 1 g_checkvalues) (h_answered : HasN P w K mg base cv "answered" ["plan", "values", "touched"] 6 g_answeredP) (F : Fun K "settled" "settled" s_settled f fd) (mf : mg "settled" = some (.ref f)) (bd : Binds K fd ["plan", "ins"] []) (m_len : mg "len" = none) (m_list : mg "list" = none) (m_range : mg "range" = none) : HasN P w K mg base cv "settled" ["plan", "ins"] 7 g_settled := by
  have nd := sc_settled.nd
  refine HasN.imp (has_N (m := m_settled) [] F mf bd sc_settled (by decide) (fun cdv A outer s H E hr => (dss_cons (ds_set (i := 2) nd rfl (Or.inl rfl) (de_has h_checked hr (pass_def rfl rfl rfl rfl) (da_cons (de_var 0) da_nil)))
      (dss_cons (ds_asg (dg_pair (i := 3) (j := 4) rfl nd rfl rfl (Or.inl rfl) (Or.inl rfl)) (de_var 0))
      (dss_cons (ds_expr (de_has h__check_values hr (pass_def rfl rfl rfl rfl) (da_cons (de_var 1) (da_cons (de_var 3) da_nil))))
      (dss_cons (ds_set (i := 5) nd rfl (Or.inl rfl) (DN.de (dn_rep (dn_lst (da_cons de_bl da_nil)) (de_callB call_lenD2 dc_len (by rfl) m_len PySem.boot_len (da_cons (de_var 4) da_nil)))))
      (dss_one (ds_retL (dn_has h_answered hr (pass_def rfl rfl rfl rfl) (da_cons (de_var 0) (da_cons (de_op op_addD dop_add (DN.de (dn_callTy call_list_of dc_list (by rfl) m_list (by decide +kernel) (da_cons (de_var 1) da_nil))) (de_var 5)) (da_cons (DN.de (dn_listR rfl (by rfl) m_list (by rfl) m_range (da_cons (de_var 3) (da_cons (de_var 2) da_nil)))) da_nil)))))))))))) fun ds => ?_
  unfold g_settled
  split
  · rename_i d bd
    split
    · rename_i mn gs bs eg eb
      have ed := toPlan_inv eg
      dsimp only at ed
      subst ed
      have e1 := bools_inv eb
      subst e1
      cases ht : (planTame mn gs && decide (bs.length ≤ 1000)) with
      | false => exact .inl rfl
      | true =>
        refine .inr ?_
        rw [Bool.and_eq_true] at ht
        have hl := of_decide_eq_true ht.2
        have htm := ht.1
        rw [chk_ok (by rfl), show startD N_settled [planD mn gs, .list (bs.map PyData.bool)] = [some (planD mn gs), some (.list (boolsOf bs)), none, none, none, none] from rfl, R.when_true]
        unfold m_settled
        have e0 := checked_ev htm
        have s1 : ∀ n : DS → R Out, mSeq (mSet [] 2 (mCall g_checked (mCons (mVar 0) mNil))) n [some (planD mn gs), some (.list (boolsOf bs)), none, none, none, none] = ((g_checked [planD mn gs]).run [some (planD mn gs), some (.list (boolsOf bs)), none, none, none, none] fun d => R.ok (Out.nx [some (planD mn gs), some (.list (boolsOf bs)), some (d), none, none, none])).bind (seqK n) := fun n => rfl
        rw [s1, e0]
        cases q : planErr mn gs with
        | some e => rfl
        | none =>
          obtain ⟨m0, m1, m2⟩ := err_gates q
          rw [show errR none (R.ok (PyData.int (mn + (gs.length : Int)))) = R.ok (.int (mn + (gs.length : Int))) from rfl, R.run_ok, R.bind_ok, q_seqK, show errR none (if (bs.length : Int) = mn then errR (ordErr mn gs) (R.ok (boolsOf (settledOf mn gs bs))) else .ex 5) = (if (bs.length : Int) = mn then errR (ordErr mn gs) (R.ok (boolsOf (settledOf mn gs bs))) else .ex 5) from rfl]
          rw [cutR [some (planD mn gs), some (.list (boolsOf bs)), some (.int (mn + (gs.length : Int))), some (.int mn), some (.list (gatesD gs)), none] (by rfl) rfl]
          have bl := bools_len bs
          have s2 : ∀ n : DS → R Out, mSeq (mDrop (mCall g_checkvalues (mCons (mVar 1) (mCons (mVar 3) mNil)))) n [some (planD mn gs), some (.list (boolsOf bs)), some (.int (mn + (gs.length : Int))), some (.int mn), some (.list (gatesD gs)), none] = ((if ((boolsOf bs).length : Int) = mn then R.ok .none else R.when (decide ((boolsOf bs).length ≤ 1000 ∧ 0 ≤ mn ∧ mn ≤ 1000)) (.ex 5) : R D).run [some (planD mn gs), some (.list (boolsOf bs)), some (.int (mn + (gs.length : Int))), some (.int mn), some (.list (gatesD gs)), none] fun d => R.ok (Out.nx [some (planD mn gs), some (.list (boolsOf bs)), some (.int (mn + (gs.length : Int))), some (.int mn), some (.list (gatesD gs)), none])).bind (seqK n) := fun n => rfl
          rw [s2, bl]
          by_cases hb : (bs.length : Int) = mn
          · rw [if_pos hb, if_pos hb]
            rw [R.run_ok, R.bind_ok, q_seqK]
            have big : (1000 : Nat) < sizeLine := by decide
            rw [cutR [some (planD mn gs), some (.list (boolsOf bs)), some (.int (mn + (gs.length : Int))), some (.int mn), some (.list (gatesD gs)), some (.list (boolsOf (List.replicate gs.length false)))] (by
              have er : mRep (mLst (mCons (mC (.bool false)) mNil)) (mCall gLen (mCons (mVar 4) mNil)) [some (planD mn gs), some (.list (boolsOf bs)), some (.int (mn + (gs.length : Int))), some (.int mn), some (.list (gatesD gs)), none] = .ok (boolsOf (List.replicate gs.length false)) := by
                have e4 : mCall gLen (mCons (mVar 4) mNil) [some (planD mn gs), some (.list (boolsOf bs)), some (.int (mn + (gs.length : Int))), some (.int mn), some (.list (gatesD gs)), none] = .ok (.int ((gatesD gs).length : Nat)) := rfl
                have e3 : mLst (mCons (mC (.bool false)) mNil) [some (planD mn gs), some (.list (boolsOf bs)), some (.int (mn + (gs.length : Int))), some (.int mn), some (.list (gatesD gs)), none] = .ok [.bool false] := rfl
                rw [q_repK, e3, R.bind_ok, e4, R.bind_ok, q_repI, gates_map_len, show repOk ([(.bool false : D)]).length (gs.length : Int) = true from decide_eq_true ⟨by omega, by omega, by rw [Int.toNat_natCast]; rw [show ([(.bool false : D)]).length = 1 from rfl]; omega⟩, R.when_true, Int.toNat_natCast, rep_bools]
              rw [q_set, q_hideN]
              show ((mRep (mLst (mCons (mC (.bool false)) mNil)) (mCall gLen (mCons (mVar 4) mNil)) [some (planD mn gs), some (.list (boolsOf bs)), some (.int (mn + (gs.length : Int))), some (.int mn), some (.list (gatesD gs)), none]).map PyData.list).run _ _ = _
              rw [er]; rfl) rfl]
            have ea : g_answeredP [planD mn gs, .list (boolsOf bs ++ boolsOf (List.replicate gs.length false)), .list (intsOf (upV mn (mn + gs.length)))] = errR (planErr mn gs) (errR (ordErr mn gs) (.ok (boolsOf (settledOf mn gs bs)))) := by
              have := answered_ev (bs := bs ++ List.replicate gs.length false) (ns := upV mn (mn + gs.length)) htm (by rw [List.length_append, List.length_replicate]; omega) (by rw [upV_len]; omega)
              rw [show boolsOf (bs ++ List.replicate gs.length false) = boolsOf bs ++ boolsOf (List.replicate gs.length false) from List.map_append] at this
              exact this
            have z1 : szOk ((boolsOf bs).length + (boolsOf (List.replicate gs.length false)).length) = true := sz_of' (by rw [bools_len, bools_len, List.length_replicate]; omega)
            have eg : gListR [.int mn, .int (mn + (gs.length : Int))] = .ok (intsOf (upV mn (mn + gs.length))) := by
              show R.when (decide (0 ≤ mn ∧ mn ≤ mn + (gs.length : Int) ∧ mn + (gs.length : Int) ≤ 100000)) (R.ok ((upV mn (mn + gs.length)).map PyData.int)) = _
              rw [decide_eq_true (by omega), R.when_true]; rfl
            have el : gList [.list (boolsOf bs)] = .ok (boolsOf bs) := rfl
            repeat (first | simp only [el, eg, z1, ea, q, errR] | walk_at "dl")
            cases ordErr mn gs <;> rfl
          · rw [if_neg hb, if_neg hb, decide_eq_true (by omega), R.when_true]; rfl
    · exact .inl rfl
  · exact .inl rfl
end
end K10
namespace K10
open PySem PySem.Spec PyProof.Rows L2 SL
abbrev N_stepped : List Str := ["plan", "begin", "rows", "lines", "many", "gates", "row", "told", "now", "values", "kind", "sources", "delay", "then", "source"]
abbrev s_stepped : Stmt := topS 40
theorem sc_stepped : FnScope N_stepped ["plan", "begin", "rows"] (defScope s_stepped) := ⟨rfl, rfl, rfl, by decide +kernel, rfl, by decide +kernel, by decide +kernel⟩
section
variable {P : Program} {w : World} {K : PySem.W.Frag} {mg : Str → Option Value} {base : Heap} {cv : Nat → Value} {f : Addr} {fd : FuncData}
def m_stepped : DS → R Out := stM
theorem h_stepped (h_checked : Has P w K mg base cv "checked" ["plan"] 4 g_checked) (h__check_values : Has P w K mg base cv "_check_values" ["values", "number"] 1 g_checkvalues) (h_answer : Has P w K mg base cv "answer" ["kind", "given"] 3 g_answer) (F : Fun K "stepped" "stepped" s_stepped f fd) (mf : mg "stepped" = some (.ref f)) (bd : Binds K fd ["plan", "begin", "rows"] []) (m_list : mg "list" = none) (m_enumerate : mg "enumerate" = none) : HasN P w K mg base cv "stepped" ["plan", "begin", "rows"] 5 g_stepped := by
  have nd := sc_stepped.nd
  refine HasN.imp (has_N (m := m_stepped) [7, 9] F mf bd sc_stepped (by decide) (fun cdv A outer s H E hr => (dss_cons (ds_set (i := 3) nd rfl (Or.inl rfl) (de_has h_checked hr (pass_def rfl rfl rfl rfl) (da_cons (de_var 0) da_nil)))
      (dss_cons (ds_asg (dg_pair (i := 4) (j := 5) rfl nd rfl rfl (Or.inl rfl) (Or.inl rfl)) (de_var 0))
      (dss_cons (ds_expr (de_has h__check_values hr (pass_def rfl rfl rfl rfl) (da_cons (de_var 1) (da_cons (de_var 3) da_nil))))
      (dss_cons (ds_for (passes_of rfl) rfl (de_var 2) (dg_name (i := 6) nd rfl (Or.inl rfl)) (dss_one (ds_expr (de_has h__check_values hr (pass_def rfl rfl rfl rfl) (da_cons (de_var 6) (da_cons (de_var 4) da_nil))))))
      (dss_cons (ds_own (i := 7) nd rfl (Or.inl rfl) (dn_lst da_nil))
      (dss_cons (ds_forE (passes_of rfl) rfl (by rfl) m_enumerate (de_var 2) (dg_pair (i := 8) (j := 6) rfl nd rfl rfl (Or.inl rfl) (Or.inl rfl)) (dss_cons (ds_own (i := 9) nd rfl (Or.inl rfl) (dn_callTy call_list_of dc_list (by rfl) m_list (by decide +kernel) (da_cons (de_var 6) da_nil)))
      (dss_cons (ds_for (passes_of rfl) rfl (de_var 5) (dg_tri (i := 10) (j := 11) (k := 12) rfl nd rfl rfl rfl (Or.inl rfl) (Or.inl rfl) (Or.inl rfl)) (dss_cons (ds_setEl (i := 13) (j := 7) (k := 1) nd rfl (Or.inr rfl) rfl (by first | exact Or.inl rfl | exact Or.inr (Or.inl rfl)) rfl (by first | exact Or.inl rfl | exact Or.inr (Or.inl rfl)) (dt_cmp op_le dop_cmp (de_var 12) (de_var 8)) (de_op op_sub dop_sub (de_var 8) (de_var 12)))
      (dss_one (ds_app (i := 9) rfl (by first | exact Or.inl rfl | exact Or.inr (Or.inl rfl)) (de_has h_answer hr (pass_def rfl rfl rfl rfl) (da_cons (de_var 10) (da_cons (DN.de (dn_comp (own := [("source", 14)]) rfl nd (de_var 11) (blkOk_by (N := N_stepped) (sc := defScope s_stepped) (by decide +kernel)) (fun _ _ _ _ _ => pg_name (i := 14) nd rfl (Or.inl rfl)) (fun _ _ _ _ _ => dts_nil) (fun _ _ _ _ _ => (de_ix ix_any dop_ix (de_var 13) (de_var 14))) (fun _ _ => wipe_one))) da_nil)))))))
      (dss_one (ds_give (j := 9) [7] (by decide) (ds_app (i := 7) rfl (by first | exact Or.inl rfl | exact Or.inr (Or.inl rfl)) (de_var 9)))))))
      (dss_one (ds_retO (i := 7) rfl (by first | exact Or.inl rfl | exact Or.inr (Or.inl rfl)))))))))))) fun ds => ?_
  unfold g_stepped
  split
  · rename_i d bd rd
    split
    · rename_i mn gs bs rs eg eb er
      have ed := toPlan_inv eg
      dsimp only at ed
      subst ed
      have e1 := bools_inv eb
      subst e1
      have e2 := rowsB_inv er
      subst e2
      cases ht : (planTame mn gs && decide (bs.length ≤ 1000 ∧ rs.length ≤ 1000) && rs.all fun r => decide (r.length ≤ 1000)) with
      | false => exact .inl rfl
      | true =>
        refine .inr ?_
        rw [Bool.and_eq_true, Bool.and_eq_true, List.all_eq_true] at ht
        obtain ⟨⟨ht1, ht2⟩, ht3⟩ := ht
        obtain ⟨h1, h2⟩ := of_decide_eq_true ht2
        rw [chk_ok (by rfl), show startD N_stepped [planD mn gs, .list (bs.map PyData.bool), .list (rowsBD rs)] = [some (planD mn gs), some (.list (boolsOf bs)), some (.list (rowsBD rs)), none, none, none, none, none, none, none, none, none, none, none, none] from rfl, R.when_true]
        exact st_ok ht1 h1 h2 fun r hr => of_decide_eq_true (ht3 r hr)
    · exact .inl rfl
  · exact .inl rfl
end
end K10
namespace K10
open PySem PySem.Spec PyProof.Rows L2 SL
abbrev N__law_settled : List Str := ["_law_plan", "_law_ins", "_law_values_here", "_law_line", "_law_due", "_law_gate", "_law_source"]
abbrev s__law_settled : Stmt := topS 51
theorem sc__law_settled : FnScope N__law_settled ["_law_plan", "_law_ins", "_law_values_here"] (defScope s__law_settled) := ⟨rfl, rfl, rfl, by decide +kernel, rfl, by decide +kernel, by decide +kernel⟩
section
variable {P : Program} {w : World} {K : PySem.W.Frag} {mg : Str → Option Value} {base : Heap} {cv : Nat → Value} {f : Addr} {fd : FuncData}
def m__law_settled : DS → R Out := ssM
theorem h__law_settled (F : Fun K "_law_settled" "_law_settled" s__law_settled f fd) (mf : mg "_law_settled" = some (.ref f)) (bd : Binds K fd ["_law_plan", "_law_ins", "_law_values_here"] []) (h__law_answered : Has P w K mg base cv "_law_answered" ["_law_kind", "_law_given"] 1 g_answered) (m_len : mg "len" = none) (m_range : mg "range" = none) (m_isinstance : mg "isinstance" = none) (m_list : mg "list" = none) (m_bool : mg "bool" = none) : Has P w K mg base cv "_law_settled" ["_law_plan", "_law_ins", "_law_values_here"] 2 g_lawsettled := by
  have nd := sc__law_settled.nd
  refine Has.imp (has_D (m := m__law_settled) [] F mf bd sc__law_settled (by decide) (fun cdv A outer s H E hr => (dss_cons (ds_if (dt_w (dw_or (dt_not (dt_val (de_isi (T := "list") (by rfl) m_isinstance (by rfl) m_list (by decide +kernel) (de_var 2)))) (dw_one (dt_cmp (op_neD hr.units) dop_ne (de_callB call_lenD2 dc_len (by rfl) m_len PySem.boot_len (da_cons (de_var 2) da_nil)) (de_op op_addD dop_add (de_ix ix_any dop_ix (de_var 0) de_int) (de_callB call_lenD2 dc_len (by rfl) m_len PySem.boot_len (da_cons (de_ix ix_any dop_ix (de_var 0) de_int) da_nil))))))) (dss_one (ds_ret de_bl)) dss_nil)
      (dss_cons (ds_forR1 (passes_of rfl) rfl (by rfl) m_range (da_cons (de_callB call_lenD2 dc_len (by rfl) m_len PySem.boot_len (da_cons (de_var 2) da_nil)) da_nil) (dg_name (i := 3) nd rfl (Or.inl rfl)) (dss_cons (ds_if (dt_not (dt_val (de_isi (T := "bool") (by rfl) m_isinstance (by rfl) m_bool (by decide +kernel) (de_ix ix_any dop_ix (de_var 2) (de_var 3))))) (dss_one (ds_ret de_bl)) dss_nil)
      (dss_cons (ds_set (i := 4) nd rfl (Or.inl rfl) de_bl)
      (dss_cons (ds_if (dt_cmp op_lt dop_cmp (de_var 3) (de_ix ix_any dop_ix (de_var 0) de_int)) (dss_one (ds_set (i := 4) nd rfl (Or.inl rfl) (de_ix ix_any dop_ix (de_var 1) (de_var 3)))) (dss_cons (ds_set (i := 5) nd rfl (Or.inl rfl) (de_ix ix_any dop_ix (de_ix ix_any dop_ix (de_var 0) de_int) (de_op op_sub dop_sub (de_var 3) (de_ix ix_any dop_ix (de_var 0) de_int))))
      (dss_one (ds_set (i := 4) nd rfl (Or.inl rfl) (de_has h__law_answered hr (pass_def rfl rfl rfl rfl) (da_cons (de_ix ix_any dop_ix (de_var 5) de_int) (da_cons (DN.de (dn_comp (own := [("_law_source", 6)]) rfl nd (de_ix ix_any dop_ix (de_var 5) de_int) (blkOk_by (N := N__law_settled) (sc := defScope s__law_settled) (by decide +kernel)) (fun _ _ _ _ _ => pg_name (i := 6) nd rfl (Or.inl rfl)) (fun _ _ _ _ _ => dts_nil) (fun _ _ _ _ _ => (de_ix ix_any dop_ix (de_var 2) (de_var 6))) (fun _ _ => wipe_one))) da_nil)))))))
      (dss_one (ds_if (dt_cmp (op_neD hr.units) dop_ne (de_ix ix_any dop_ix (de_var 2) (de_var 3)) (de_var 4)) (dss_one (ds_ret de_bl)) dss_nil))))))
      (dss_one (ds_ret de_bl)))))) fun ds => ?_
  unfold g_lawsettled
  split
  · rename_i d bd vd
    split
    · rename_i mn gs bs vs eg eb ev
      have ed := toPlan_inv eg
      dsimp only at ed
      subst ed
      have e1 := bools_inv eb
      subst e1
      have e2 := bools_inv ev
      subst e2
      cases ht : (planTame mn gs && ckS mn gs bs vs) with
      | false => exact .inl rfl
      | true =>
        refine .inr ?_
        rw [Bool.and_eq_true] at ht
        have h2 : planErr mn gs = none ∧ Settled mn gs bs vs := @of_decide_eq_true _ (Classical.propDecidable _) ht.2
        rw [chk_ok (by rfl), show startD N__law_settled [planD mn gs, .list (bs.map PyData.bool), .list (vs.map PyData.bool)] = [some (planD mn gs), some (.list (boolsOf bs)), some (.list (boolsOf vs)), none, none, none, none] from rfl, R.when_true]
        exact ss_ok ht.1 h2.1 h2.2
    · exact .inl rfl
  · exact .inl rfl
end
end K10
namespace K10
open PySem PySem.Spec PyProof.Rows L2 SL
local macro_rules | `(tactic| walk_at "dl") => `(tactic| simp only [R.bind_ok, R.bind_bad, R.bind_ex, R.map_ok, R.map_bad, R.map_ex, R.run_ok, R.run_bad, R.run_ex, R.when_true, q_var, q_get, Bool.not_true, Bool.not_false, q_slA, q_slAS, q_slAL, q_slAT, q_forR, q_forRK1, q_for, q_forK, q_forT, q_stN, q_isN, isN_none, isN_tup, g_ixS, q_ixK, q_part, q_partK, q_noPart, q_sl, q_slK, q_try, tryK_ex, tryK_nx, tryK_rt, q_hand, handK_t, handK_f, hand_nil, noEx_nx, q_tryIsK, tryIsK_nx, q_c, q_bin, q_nil, q_cons, q_call, q_callN, q_tup, q_lst, q_B, q_boolD, q_not, q_and, q_or, q_andE, q_orE, q_notE, q_neg, q_andK, q_orK, q_notK, q_negK, q_ifE, q_seq, q_seqK, q_seqR, q_seqL, q_seqX, q_skip, q_if, q_set, q_setI, q_setNI, q_own, q_ownI, q_ret, q_retL, q_owned, q_ownV, q_retO, q_drop, q_app, q_appI, q_setAt, q_setAtI, q_put, q_putK, q_hideN, q_inB, q_fin, q_finL, q_finN, q_finX, q_finL', q_finLX, q_raise, g_cmp, g_addI, g_subI, g_mulI, g_modI, g_divI, g_addS, g_addL, g_addT, g_catL, g_ixL, g_ixT, g_atK, g_lenL, g_lenT, g_lenS, g_listL, g_listT, g_tupL, g_all, g_any, g_sum, bools_of, g_allK, g_anyK, g_sumK, g_eqI, g_eqB, q_asg, q_pair, q_tri, q_give, q_blank, q_bad, q_fldX, q_firstEx, g_powI, at3_0, at3_1, at3_2, at2_0, at2_1, R.run_ok, q_mL, q_mcat, q_comp, q_compL, q_compT, q_compR, q_compRI, q_wipe1, q_repK, q_repI, q_hide, q_hide0, q_hideM, memB_nil, memB_cons, Nat.reduceBEq, Bool.or_false, Bool.false_or, Bool.or_true, Bool.true_or, List.map_cons, List.map_nil, decide_false, Nat.reduceEqDiff, reduceCtorEq, List.getElem?_cons_zero, List.getElem?_cons_succ, List.set_cons_zero, List.set_cons_succ, List.length_cons, List.length_nil, Nat.zero_add, Nat.reduceAdd, Nat.reduceLT, decide_true, Bool.and_true, Bool.true_and, if_true, decide_eq_true_eq, Bool.false_eq_true, if_false])
abbrev N__law_small_plan : List Str := ["_law_script", "_law_most", "_law_large", "_law_many_here", "_law_far", "_law_gates", "_law_count", "_law_k", "_law_cell"]
abbrev s__law_small_plan : Stmt := topS 49
theorem sc__law_small_plan : FnScope N__law_small_plan ["_law_script", "_law_most", "_law_large"] (defScope s__law_small_plan) := ⟨rfl, rfl, rfl, by decide +kernel, rfl, by decide +kernel, by decide +kernel⟩
abbrev N__law_late_by : List Str := ["_law_plan", "_law_lates", "_law_turn", "_law_line", "_law_gate", "_law_given", "_law_source"]
abbrev s__law_late_by : Stmt := topS 53
theorem sc__law_late_by : FnScope N__law_late_by ["_law_plan"] (defScope s__law_late_by) := ⟨rfl, rfl, rfl, by decide +kernel, rfl, by decide +kernel, by decide +kernel⟩
abbrev N__law_values : List Str := ["_law_found", "_law_due", "_law_k"]
abbrev s__law_values : Stmt := topS 52
theorem sc__law_values : FnScope N__law_values ["_law_found", "_law_due"] (defScope s__law_values) := ⟨rfl, rfl, rfl, by decide +kernel, rfl, by decide +kernel, by decide +kernel⟩
abbrev N_law : List Str := ["_law_script", "_law_plan", "_law_lates", "_law_ins", "_law_begin", "_law_count", "_law_found", "_law_k", "_law_last", "_law_at", "_law_line"]
abbrev s_law : Stmt := topS 54
theorem sc_law : FnScope N_law ["_law_script"] (defScope s_law) := ⟨rfl, rfl, rfl, by decide +kernel, rfl, by decide +kernel, by decide +kernel⟩
section
variable {P : Program} {w : World} {K : PySem.W.Frag} {mg : Str → Option Value} {base : Heap} {cv : Nat → Value} {f : Addr} {fd : FuncData}
def m__law_small_plan : DS → R Out := spM
theorem h__law_small_plan (F : Fun K "_law_small_plan" "_law_small_plan" s__law_small_plan f fd) (mf : mg "_law_small_plan" = some (.ref f)) (bd : Binds K fd ["_law_script", "_law_most", "_law_large"] []) (h__law_many : Has P w K mg base cv "_law_many" ["_law_cell"] 1 g_many) (h__law_cell_at : Has P w K mg base cv "_law_cell_at" ["_law_script", "_law_k"] 1 g_cell) (h__law_gate_by : Has P w K mg base cv "_law_gate_by" ["_law_cell", "_law_below", "_law_most"] 2 g_gateby) (h__law_turned : Has P w K mg base cv "_law_turned" ["_law_many_here", "_law_gates", "_law_turn"] 2 g_turned) (m_len : mg "len" = none) (m_range : mg "range" = none) : Has P w K mg base cv "_law_small_plan" ["_law_script", "_law_most", "_law_large"] 3 g_smallplan := by
  have nd := sc__law_small_plan.nd
  refine Has.imp (has_D (m := m__law_small_plan) [5] F mf bd sc__law_small_plan (by decide) (fun cdv A outer s H E hr => (dss_cons (ds_set (i := 3) nd rfl (Or.inl rfl) (de_has h__law_many hr (pass_def rfl rfl rfl rfl) (da_cons (de_has h__law_cell_at hr (pass_def rfl rfl rfl rfl) (da_cons (de_var 0) (da_cons de_int da_nil))) da_nil)))
      (dss_cons (ds_set (i := 4) nd rfl (Or.inl rfl) (de_has h__law_cell_at hr (pass_def rfl rfl rfl rfl) (da_cons (de_var 0) (da_cons de_int da_nil))))
      (dss_cons (ds_own (i := 5) nd rfl (Or.inl rfl) (dn_lst da_nil))
      (dss_cons (ds_set (i := 6) nd rfl (Or.inl rfl) de_int)
      (dss_cons (ds_if (dt_cmp (op_eqD hr.units) dop_eq (de_op op_mod dop_mod (de_var 4) de_int) de_int) (dss_one (ds_set (i := 6) nd rfl (Or.inl rfl) (de_op op_addD dop_add de_int (de_op op_mod dop_mod (de_op op_fdiv dop_div (de_var 4) de_int) de_int)))) dss_nil)
      (dss_cons (ds_if (dt_w (dw_and (dt_val (de_var 2)) (dw_one (dt_cmp (op_eqD hr.units) dop_eq (de_op op_mod dop_mod (de_var 4) de_int) de_int)))) (dss_one (ds_set (i := 6) nd rfl (Or.inl rfl) (de_op op_addD dop_add de_int (de_op op_mod dop_mod (de_op op_fdiv dop_div (de_var 4) de_int) de_int)))) dss_nil)
      (dss_cons (ds_forR1 (passes_of rfl) rfl (by rfl) m_range (da_cons (de_var 6) da_nil) (dg_name (i := 7) nd rfl (Or.inl rfl)) (dss_one (ds_if (dt_w (dw_and (dt_cmp (op_eqD hr.units) dop_eq (de_op op_mod dop_mod (de_var 4) de_int) de_int) (dw_one (dt_cmp op_gt dop_cmp (de_op op_addD dop_add (de_var 3) (de_var 7)) de_int)))) (dss_one (ds_app (i := 5) rfl (by first | exact Or.inl rfl | exact Or.inr (Or.inl rfl)) (de_tup (da_cons de_str (da_cons (de_tup (da_cons (de_op op_sub dop_sub (de_op op_addD dop_add (de_var 3) (de_var 7)) de_int) da_nil)) (da_cons (de_op op_addD dop_add de_int (de_op op_mod dop_mod (de_var 7) (de_var 1))) da_nil)))))) (dss_one (ds_app (i := 5) rfl (by first | exact Or.inl rfl | exact Or.inr (Or.inl rfl)) (de_has h__law_gate_by hr (pass_def rfl rfl rfl rfl) (da_cons (de_op op_addD dop_add (de_op op_fdiv dop_div (de_var 4) de_int) (de_op op_mul dop_mul de_int (de_var 7))) (da_cons (de_op op_addD dop_add (de_var 3) (de_var 7)) (da_cons (de_var 1) da_nil)))))))))
      (dss_cons (ds_for (passes_of rfl) rfl (de_sliceA (de_var 0) (do_some de_int) (do_some de_int)) (dg_name (i := 8) nd rfl (Or.inl rfl)) (dss_one (ds_appI (i := 5) rfl (by first | exact Or.inl rfl | exact Or.inr (Or.inl rfl)) (de_has h__law_gate_by hr (pass_def rfl rfl rfl rfl) (da_cons (de_var 8) (da_cons (de_op op_addD dop_add (de_var 3) (de_callB call_lenD2 dc_len (by rfl) m_len PySem.boot_len (da_cons (de_var 5) da_nil))) (da_cons (de_var 1) da_nil)))))))
      (dss_one (ds_ret (de_has h__law_turned hr (pass_def rfl rfl rfl rfl) (da_cons (de_var 3) (da_cons (de_var 5) (da_cons (de_has h__law_cell_at hr (pass_def rfl rfl rfl rfl) (da_cons (de_var 0) (da_cons de_int da_nil))) da_nil)))))))))))))))) fun ds => ?_
  unfold g_smallplan
  split
  · rename_i xs most large
    split
    · rename_i ns hx
      have hx := L2.ints_inv hx
      subst hx
      cases hm : decide (0 < most) with
      | false => exact .inl rfl
      | true =>
        refine .inr ?_
        rw [chk_ok (by rfl), show startD N__law_small_plan [.list (ns.map PyData.int), .int most, .bool large] = [some (.list (ns.map PyData.int)), some (.int most), some (.bool large), none, none, none, none, none, none] from rfl, R.when_true]
        exact sp_ok ns large (of_decide_eq_true hm)
    · exact .inl rfl
  · exact .inl rfl
def m__law_late_by : DS → R Out := lbM
theorem h__law_late_by (F : Fun K "_law_late_by" "_law_late_by" s__law_late_by f fd) (mf : mg "_law_late_by" = some (.ref f)) (bd : Binds K fd ["_law_plan"] []) (m_len : mg "len" = none) (m_range : mg "range" = none) (m_max : mg "max" = none) : HasN P w K mg base cv "_law_late_by" ["_law_plan"] 1 g_lateby := by
  have nd := sc__law_late_by.nd
  refine HasN.imp (has_N (m := m__law_late_by) [1] F mf bd sc__law_late_by (by decide) (fun cdv A outer s H E hr => (dss_cons (ds_own (i := 1) nd rfl (Or.inr rfl) (dn_cat (DN.de (dn_rep (dn_lst (da_cons de_int da_nil)) (de_ix ix_any dop_ix (de_var 0) de_int))) (DN.de (dn_rep (dn_lst (da_cons de_non da_nil)) (de_callB call_lenD2 dc_len (by rfl) m_len PySem.boot_len (da_cons (de_ix ix_any dop_ix (de_var 0) de_int) da_nil))))))
      (dss_cons (ds_forR1 (passes_of rfl) rfl (by rfl) m_range (da_cons (de_callB call_lenD2 dc_len (by rfl) m_len PySem.boot_len (da_cons (de_ix ix_any dop_ix (de_var 0) de_int) da_nil)) da_nil) (dg_name (i := 2) nd rfl (Or.inl rfl)) (dss_one (ds_forR2 (passes_of rfl) rfl (by rfl) m_range (da_cons (de_ix ix_any dop_ix (de_var 0) de_int) (da_cons (de_callB call_lenD2 dc_len (by rfl) m_len PySem.boot_len (da_cons (de_var 1) da_nil)) da_nil)) (dg_name (i := 3) nd rfl (Or.inl rfl)) (dss_cons (ds_set (i := 4) nd rfl (Or.inl rfl) (de_ix ix_any dop_ix (de_ix ix_any dop_ix (de_var 0) de_int) (de_op op_sub dop_sub (de_var 3) (de_ix ix_any dop_ix (de_var 0) de_int))))
      (dss_cons (ds_lcI (i := 5) (dn_compS (own := [("_law_source", 6)]) rfl rfl (sw_true rfl rfl rfl (by decide +kernel)) rfl nd (de_ix ix_any dop_ix (de_var 4) de_int) (blkOk_by (N := N__law_late_by) (sc := defScope s__law_late_by) (by decide +kernel)) (fun _ _ _ _ _ => pg_name (i := 6) nd rfl (Or.inl rfl)) (fun _ _ _ _ _ => dts_nil) (fun _ _ _ _ _ => (de_ix ix_any dop_ix (de_var 1) (de_var 6))) (fun _ _ => wipe_one)))
      (dss_one (ds_if (dt_w (dw_and (dt_cmp op_isN1 dop_isN (de_ix ix_any dop_ix (de_var 1) (de_var 3)) de_non) (dw_one (dt_cmp op_notInA dop_inA de_non (de_var 5))))) (dss_cons (ds_setAt (i := 1) rfl (by first | exact Or.inl rfl | exact Or.inr (Or.inl rfl)) (fun a b => pg_sub a b set_list) de_int (de_var 3))
      (dss_one (ds_if (dt_cmp op_gt dop_cmp (de_callB call_lenD2 dc_len (by rfl) m_len PySem.boot_len (da_cons (de_var 5) da_nil)) de_int) (dss_one (ds_setAt (i := 1) rfl (by first | exact Or.inl rfl | exact Or.inr (Or.inl rfl)) (fun a b => pg_sub a b set_list) (de_op op_addD dop_add (de_ix ix_any dop_ix (de_var 4) de_int) (de_callB (cr_maxL rfl (un65 hr)) dc_maxL (by rfl) m_max (by decide +kernel) (da_cons (de_var 5) da_nil))) (de_var 3))) dss_nil))) dss_nil)))) len2)))
      (dss_one (ds_retO (i := 1) rfl (by first | exact Or.inl rfl | exact Or.inr (Or.inl rfl)))))))) fun ds => ?_
  unfold g_lateby
  split
  · rename_i d
    split
    · rename_i mn gs eg
      have ed := toPlan_inv eg
      dsimp only at ed
      subst ed
      cases ht : (rdOk mn gs && decide (ordErr mn gs = none)) with
      | false => exact .inl rfl
      | true =>
        refine .inr ?_
        rw [Bool.and_eq_true] at ht
        rw [chk_ok (by rfl), show startD N__law_late_by [planD mn gs] = [some (planD mn gs), none, none, none, none, none, none] from rfl, R.when_true]
        exact lb_ok ht.1 (of_decide_eq_true ht.2)
    · exact .inl rfl
  · exact .inl rfl
def m__law_values : DS → R Out := lvM
theorem h__law_values (F : Fun K "_law_values" "_law_values" s__law_values f fd) (mf : mg "_law_values" = some (.ref f)) (bd : Binds K fd ["_law_found", "_law_due"] []) (m_len : mg "len" = none) (m_range : mg "range" = none) (m_isinstance : mg "isinstance" = none) (m_list : mg "list" = none) (m_bool : mg "bool" = none) : Has P w K mg base cv "_law_values" ["_law_found", "_law_due"] 1 g_lawvalues := by
  have nd := sc__law_values.nd
  refine Has.imp (has_D (m := m__law_values) [] F mf bd sc__law_values (by decide) (fun cdv A outer s H E hr => (dss_cons (ds_if (dt_w (dw_or (dt_not (dt_val (de_isi (T := "list") (by rfl) m_isinstance (by rfl) m_list (by decide +kernel) (de_var 0)))) (dw_one (dt_cmp (op_neD hr.units) dop_ne (de_callB call_lenD2 dc_len (by rfl) m_len PySem.boot_len (da_cons (de_var 0) da_nil)) (de_callB call_lenD2 dc_len (by rfl) m_len PySem.boot_len (da_cons (de_var 1) da_nil)))))) (dss_one (ds_ret de_bl)) dss_nil)
      (dss_cons (ds_forR1 (passes_of rfl) rfl (by rfl) m_range (da_cons (de_callB call_lenD2 dc_len (by rfl) m_len PySem.boot_len (da_cons (de_var 1) da_nil)) da_nil) (dg_name (i := 2) nd rfl (Or.inl rfl)) (dss_one (ds_if (dt_w (dw_or (dt_not (dt_val (de_isi (T := "bool") (by rfl) m_isinstance (by rfl) m_bool (by decide +kernel) (de_ix ix_any dop_ix (de_var 0) (de_var 2))))) (dw_one (dt_cmp (op_neD hr.units) dop_ne (de_ix ix_any dop_ix (de_var 0) (de_var 2)) (de_ix ix_any dop_ix (de_var 1) (de_var 2)))))) (dss_one (ds_ret de_bl)) dss_nil)))
      (dss_one (ds_ret de_bl)))))) fun ds => ?_
  unfold g_lawvalues
  split
  · rename_i xs ys
    split
    · rename_i a b ea eb
      have e1 := bools_inv ea
      subst e1
      have e2 := bools_inv eb
      subst e2
      cases ht : decide (a = b ∧ a.length ≤ 100000) with
      | false => exact .inl rfl
      | true =>
        refine .inr ?_
        obtain ⟨rfl, hl⟩ := of_decide_eq_true ht
        rw [chk_ok (by rfl), show startD N__law_values [.list (a.map PyData.bool), .list (a.map PyData.bool)] = [some (.list (boolsOf a)), some (.list (boolsOf a)), none] from rfl, R.when_true]
        exact lv_ok hl
    · exact .inl rfl
  · exact .inl rfl
noncomputable def g_law : List D → R D
  | [.list xs] => match intsD xs with
    | some _ => .ok (.bool true)
    | none => .bad
  | _ => .bad
noncomputable def m_law_10 : DS → R Out :=
  (mRet (mCall g_lawvalues (mCons (mL (mCallN g_settled (mCons (mTup (mCons (mBin gIx (mVar 1) (mC (.int 0))) (mCons (mL (mCallN gList (mCons (mBin gIx (mVar 1) (mC (.int 1))) mNil))) mNil))) (mCons (mL (mCallN gList (mCons (mVar 3) mNil))) mNil)))) (mCons (mVar 8) mNil))))
noncomputable def m_law_9 : DS → R Out :=
  (mSeq (mForR (mCons (mVar 5) mNil) (stName 9) (mSeq (mIf (mOr (mNot (mB (fun δ => ((mBin gIx (mVar 6) (mVar 9)) δ).bind (gIs "list")))) (mB (mBin gNe (mCall gLen (mCons (mBin gIx (mVar 6) (mVar 9)) mNil)) (mCall gLen (mCons (mVar 2) mNil))))) (mRet (mC (.bool false))) mSkip)
    (mForR (mCons (mCall gLen (mCons (mVar 2) mNil)) mNil) (stName 10) (mIf (mOr (mNot (mB (fun δ => ((mBin gIx (mBin gIx (mVar 6) (mVar 9)) (mVar 10)) δ).bind (gIs "bool")))) (mAnd (mB (mBin (gCmp fun i j => decide (j ≤ i)) (mVar 9) (mBin gIx (mVar 2) (mVar 10)))) (mB (mBin gNe (mBin gIx (mBin gIx (mVar 6) (mVar 9)) (mVar 10)) (mBin gIx (mVar 8) (mVar 10)))))) (mRet (mC (.bool false))) mSkip))))
    m_law_10)
noncomputable def m_law_8 : DS → R Out :=
  (mSeq (mIf (mNot (mB (mCall g_lawsettled (mCons (mVar 1) (mCons (mVar 3) (mCons (mVar 8) mNil)))))) (mRet (mC (.bool false))) mSkip)
    m_law_9)
noncomputable def m_law_7 : DS → R Out :=
  (mSeq (mSet [] 8 (mBin gIx (mVar 6) (mBin gSubI (mVar 5) (mC (.int 1)))))
    m_law_8)
noncomputable def m_law_6 : DS → R Out :=
  (mSeq (mIf (mOr (mNot (mB (fun δ => ((mVar 6) δ).bind (gIs "list")))) (mB (mBin gNe (mCall gLen (mCons (mVar 6) mNil)) (mVar 5)))) (mRet (mC (.bool false))) mSkip)
    m_law_7)
noncomputable def m_law_5 : DS → R Out :=
  (mSeq (mSet [] 6 (mL (mCallN g_stepped (mCons (mTup (mCons (mBin gIx (mVar 1) (mC (.int 0))) (mCons (mL (mCallN gList (mCons (mBin gIx (mVar 1) (mC (.int 1))) mNil))) mNil))) (mCons (mVar 4) (mCons (mL (mCompR [7] 7 (mCons (mVar 5) mNil) mYes (mL (mCallN gList (mCons (mVar 3) mNil))))) mNil))))))
    m_law_6)
noncomputable def m_law_4 : DS → R Out :=
  (mSeq (mSet [] 5 (mBin gAdd (mBin gAdd (mMaxD (mVar 2) (mC (.int 0))) (mC (.int 1))) (mBin gMod (mCall g_cell (mCons (mVar 0) (mCons (mC (.int 0)) mNil))) (mC (.int 3)))))
    m_law_5)
noncomputable def m_law_3 : DS → R Out :=
  (mSeq (mSet [] 4 (mCall g_truths (mCons (mBin gDiv (mCall g_cell (mCons (mVar 0) (mCons (mC (.int 1)) mNil))) (mC (.int 3))) (mCons (mCall gLen (mCons (mVar 2) mNil)) mNil))))
    m_law_4)
noncomputable def m_law_2 : DS → R Out :=
  (mSeq (mSet [] 3 (mCall g_truths (mCons (mBin gDiv (mCall g_cell (mCons (mVar 0) (mCons (mC (.int 2)) mNil))) (mC (.int 3))) (mCons (mBin gIx (mVar 1) (mC (.int 0))) mNil))))
    m_law_3)
noncomputable def m_law_1 : DS → R Out :=
  (mSeq (mSet [] 2 (mL (mCallN g_lateby (mCons (mVar 1) mNil))))
    m_law_2)
noncomputable def m_law : DS → R Out :=
  (mSeq (mSet [] 1 (mCall g_smallplan (mCons (mVar 0) (mCons (mC (.int 4)) (mCons (mC (.bool false)) mNil)))))
    m_law_1)
def qtS (ns : List Int) (mn : Int) (gs : List Gate) (L : List Int) (ins bs : List Bool) (n : Int) (S : List (List Bool)) (V : List Bool) (a l : Option D) : DS := [some (.list (ns.map PyData.int)), some (planD mn gs), some (.list (intsOf L)), some (.list (boolsOf ins)), some (.list (boolsOf bs)), some (.int n), some (.list (rowsBD S)), none, some (.list (boolsOf V)), a, l]
def qtI : DS → R Out := (mIf (mOr (mNot (mB (fun δ => ((mBin gIx (mBin gIx (mVar 6) (mVar 9)) (mVar 10)) δ).bind (gIs "bool")))) (mAnd (mB (mBin (gCmp fun i j => decide (j ≤ i)) (mVar 9) (mBin gIx (mVar 2) (mVar 10)))) (mB (mBin gNe (mBin gIx (mBin gIx (mVar 6) (mVar 9)) (mVar 10)) (mBin gIx (mVar 8) (mVar 10)))))) (mRet (mC (.bool false))) mSkip)
def qtT : DS → R Bool := (mOr (mNot (mB (fun δ => ((mBin gIx (mVar 6) (mVar 9)) δ).bind (gIs "list")))) (mB (mBin gNe (mCall gLen (mCons (mBin gIx (mVar 6) (mVar 9)) mNil)) (mCall gLen (mCons (mVar 2) mNil)))))
def qtB : DS → R Out := (mSeq (mIf qtT (mRet (mC (.bool false))) mSkip)
    (mForR (mCons (mCall gLen (mCons (mVar 2) mNil)) mNil) (stName 10) qtI))
section
variable {ns : List Int} {mn : Int} {gs : List Gate} {L : List Int} {ins bs : List Bool} {n : Int} {S : List (List Bool)} {V : List Bool}
theorem qt_inner {t : Nat} (ht : t < S.length) (hr : (S.getD t []).length = L.length) (hV : V.length = L.length) (hq : ∀ l, l < L.length → L.getD l 0 ≤ (t : Int) → (S.getD t []).getD l false = V.getD l false) : ∀ (m k : Nat) (l : Option D), k + m = L.length → ∃ l', loopM (stName 10) qtI ((List.range' k m).map fun (i : Nat) => .int (i : Int)) (qtS ns mn gs L ins bs n S V (some (.int (t : Int))) l) = .ok (.nx (qtS ns mn gs L ins bs n S V (some (.int (t : Int))) l'))
  | 0, k, l, h => ⟨l, rfl⟩
  | m + 1, k, l, h => by
    have body : qtI (qtS ns mn gs L ins bs n S V (some (.int (t : Int))) (some (.int (k : Int)))) = .ok (.nx (qtS ns mn gs L ins bs n S V (some (.int (t : Int))) (some (.int (k : Int))))) := by
      have er : (atK (atI (rowsBD S) (t : Int))).bind (fun u => gIx u (.int (k : Int))) = .ok (.bool ((S.getD t []).getD k false)) := by
        rw [at_rowsB (by omega) (by omega), g_atK, R.bind_ok, Int.toNat_natCast, g_ixL, at_bools (by omega) (by omega), Int.toNat_natCast]; rfl
      have et : (mOr (mNot (mB (fun δ => ((mBin gIx (mBin gIx (mVar 6) (mVar 9)) (mVar 10)) δ).bind (gIs "bool")))) (mAnd (mB (mBin (gCmp fun i j => decide (j ≤ i)) (mVar 9) (mBin gIx (mVar 2) (mVar 10)))) (mB (mBin gNe (mBin gIx (mBin gIx (mVar 6) (mVar 9)) (mVar 10)) (mBin gIx (mVar 8) (mVar 10)))))) (qtS ns mn gs L ins bs n S V (some (.int (t : Int))) (some (.int (k : Int)))) = .ok false := by
        have e1 : mNot (mB (fun δ => ((mBin gIx (mBin gIx (mVar 6) (mVar 9)) (mVar 10)) δ).bind (gIs "bool"))) (qtS ns mn gs L ins bs n S V (some (.int (t : Int))) (some (.int (k : Int)))) = .ok false := by
          show (((((atK (atI (rowsBD S) (t : Int))).bind fun u => gIx u (.int (k : Int))).bind (gIs "bool")).bind boolD).map (!·)) = _
          rw [er]; rfl
        have e2 : mB (mBin (gCmp fun i j => decide (j ≤ i)) (mVar 9) (mBin gIx (mVar 2) (mVar 10))) (qtS ns mn gs L ins bs n S V (some (.int (t : Int))) (some (.int (k : Int)))) = .ok (decide (L.getD k 0 ≤ (t : Int))) := by
          show (((atK (atI (intsOf L) (k : Int))).bind fun y => gCmp (fun i j => decide (j ≤ i)) (.int (t : Int)) y).bind boolD) = _
          rw [at_ints (A := L) (by omega) (by omega), g_atK, R.bind_ok, g_cmp, Int.toNat_natCast]; rfl
        rw [q_or, e1, R.bind_ok, if_neg (by decide), q_and, e2, R.bind_ok]
        by_cases q : L.getD k 0 ≤ (t : Int)
        · rw [decide_eq_true q, if_pos rfl]
          show ((((atK (atI (rowsBD S) (t : Int))).bind fun u => gIx u (.int (k : Int))).bind fun u => (atK (atI (boolsOf V) (k : Int))).bind fun y => gNe u y).bind boolD) = _
          rw [er, R.bind_ok, at_bools (S := V) (by omega) (by omega), g_atK, R.bind_ok, Int.toNat_natCast, hq k (by omega) q, neB]; rfl
        · rw [decide_eq_false q, if_neg (by decide)]
      unfold qtI
      rw [q_if, et]; rfl
    obtain ⟨l', ih⟩ := qt_inner ht hr hV hq m (k + 1) (some (.int (k : Int))) (by omega)
    refine ⟨l', ?_⟩
    rw [List.range'_succ, List.map_cons, loop_nx (by rfl) body]
    exact ih
theorem qt_outer (hS : ∀ t, t < S.length → (S.getD t []).length = L.length) (hL : L.length ≤ 1000) (hV : V.length = L.length) (hq : ∀ t l, t < S.length → l < L.length → L.getD l 0 ≤ (t : Int) → (S.getD t []).getD l false = V.getD l false) : ∀ (m k : Nat) (a l : Option D), k + m = S.length → ∃ a' l', loopM (stName 9) qtB ((List.range' k m).map fun (i : Nat) => .int (i : Int)) (qtS ns mn gs L ins bs n S V a l) = .ok (.nx (qtS ns mn gs L ins bs n S V a' l'))
  | 0, k, a, l, h => ⟨a, l, rfl⟩
  | m + 1, k, a, l, h => by
    obtain ⟨l1, inner⟩ := qt_inner (ns := ns) (mn := mn) (gs := gs) (ins := ins) (bs := bs) (n := n) (t := k) (by omega) (hS k (by omega)) hV (fun l hl q => hq k l (by omega) hl q) L.length 0 l (by omega)
    have body : qtB (qtS ns mn gs L ins bs n S V (some (.int (k : Int))) l) = .ok (.nx (qtS ns mn gs L ins bs n S V (some (.int (k : Int))) l1)) := by
      have et : qtT (qtS ns mn gs L ins bs n S V (some (.int (k : Int))) l) = .ok false := by
        show ((((atK (atI (rowsBD S) (k : Int))).bind (gIs "list")).bind boolD).map (!·)).bind (fun b => if b = true then R.ok true else ((((atK (atI (rowsBD S) (k : Int))).bind fun u => R.ok [u]).bind gLen).bind fun u => gNe u (.int ((intsOf L).length : Nat))).bind boolD) = _
        rw [at_rowsB (by omega) (by omega), g_atK, R.bind_ok, R.bind_ok, Int.toNat_natCast]
        show (gNe (.int ((boolsOf (S.getD k [])).length : Nat)) (.int ((intsOf L).length : Nat))).bind boolD = _
        rw [neI, bools_len, ints_len, hS k (by omega), decide_eq_true rfl]; rfl
      unfold qtB
      refine cutR (qtS ns mn gs L ins bs n S V (some (.int (k : Int))) l) (by rw [q_if, et]; rfl) ?_
      have ea : mCons (mCall gLen (mCons (mVar 2) mNil)) mNil (qtS ns mn gs L ins bs n S V (some (.int (k : Int))) l) = .ok [.int ((intsOf L).length : Nat)] := rfl
      rw [q_forR, ea, R.run_ok, q_forRK1, ints_len, decide_eq_true (by omega), R.when_true, Int.toNat_natCast]
      unfold rangeD
      rw [List.range_eq_range']
      exact inner
    obtain ⟨a', l', ih⟩ := qt_outer hS hL hV hq m (k + 1) (some (.int (k : Int))) l1 (by omega)
    refine ⟨a', l', ?_⟩
    rw [List.range'_succ, List.map_cons, loop_nx (by rfl) body]
    exact ih
end
theorem h_law (F : Fun K "law" "law" s_law f fd) (mf : mg "law" = some (.ref f)) (bd : Binds K fd ["_law_script"] []) (h__law_small_plan : Has P w K mg base cv "_law_small_plan" ["_law_script", "_law_most", "_law_large"] 3 g_smallplan) (h__law_late_by : HasN P w K mg base cv "_law_late_by" ["_law_plan"] 1 g_lateby) (h__law_truths : Has P w K mg base cv "_law_truths" ["_law_cell", "_law_many_here"] 2 g_truths) (h__law_cell_at : Has P w K mg base cv "_law_cell_at" ["_law_script", "_law_k"] 1 g_cell) (h_stepped : HasN P w K mg base cv "stepped" ["plan", "begin", "rows"] 5 g_stepped) (h__law_settled : Has P w K mg base cv "_law_settled" ["_law_plan", "_law_ins", "_law_values_here"] 2 g_lawsettled) (h__law_values : Has P w K mg base cv "_law_values" ["_law_found", "_law_due"] 1 g_lawvalues) (h_settled : HasN P w K mg base cv "settled" ["plan", "ins"] 7 g_settled)
    (m_len : mg "len" = none) (m_list : mg "list" = none) (m_max : mg "max" = none) (m_range : mg "range" = none) (m_isinstance : mg "isinstance" = none) (m_bool : mg "bool" = none) : FnOk P w K mg base (L2.CX P w) 8 f fd ["_law_script"] (SpD K cv g_law) := by
  have nd := sc_law.nd
  refine FnOk.tells (fn_D (m := m_law) [] F sc_law (by decide) (fun cdv A outer s H E hr => (dss_cons (ds_set (i := 1) nd rfl (Or.inl rfl) (de_has h__law_small_plan hr (pass_def rfl rfl rfl rfl) (da_cons (de_var 0) (da_cons de_int (da_cons de_bl da_nil)))))
      (dss_cons (ds_set (i := 2) nd rfl (Or.inl rfl) (DN.de (dn_has h__law_late_by hr (pass_def rfl rfl rfl rfl) (da_cons (de_var 1) da_nil))))
      (dss_cons (ds_set (i := 3) nd rfl (Or.inr rfl) (de_has h__law_truths hr (pass_def rfl rfl rfl rfl) (da_cons (de_op op_fdiv dop_div (de_has h__law_cell_at hr (pass_def rfl rfl rfl rfl) (da_cons (de_var 0) (da_cons de_int da_nil))) de_int) (da_cons (de_ix ix_any dop_ix (de_var 1) de_int) da_nil))))
      (dss_cons (ds_set (i := 4) nd rfl (Or.inl rfl) (de_has h__law_truths hr (pass_def rfl rfl rfl rfl) (da_cons (de_op op_fdiv dop_div (de_has h__law_cell_at hr (pass_def rfl rfl rfl rfl) (da_cons (de_var 0) (da_cons de_int da_nil))) de_int) (da_cons (de_callB call_lenD2 dc_len (by rfl) m_len PySem.boot_len (da_cons (de_var 2) da_nil)) da_nil))))
      (dss_cons (ds_set (i := 5) nd rfl (Or.inl rfl) (de_op op_addD dop_add (de_op op_addD dop_add (de_maxD rfl (un65 hr) (by rfl) m_max (de_var 2) de_int) de_int) (de_op op_mod dop_mod (de_has h__law_cell_at hr (pass_def rfl rfl rfl rfl) (da_cons (de_var 0) (da_cons de_int da_nil))) de_int)))
      (dss_cons (ds_set (i := 6) nd rfl (Or.inl rfl) (DN.de (dn_has h_stepped hr (pass_def rfl rfl rfl rfl) (da_cons (de_tup (da_cons (de_ix ix_any dop_ix (de_var 1) de_int) (da_cons (DN.de (dn_callTy call_list_of dc_list (by rfl) m_list (by decide +kernel) (da_cons (de_ix ix_any dop_ix (de_var 1) de_int) da_nil))) da_nil))) (da_cons (de_var 4) (da_cons (DN.de (dn_compR (own := [("_law_k", 7)]) rfl nd (by rfl) m_range (de_var 5) (blkOk_by (N := N_law) (sc := defScope s_law) (by decide +kernel)) (fun _ _ _ _ _ => pg_name (i := 7) nd rfl (Or.inl rfl)) (fun _ _ _ _ _ => dts_nil) (fun _ _ _ _ _ => (DN.de (dn_callTy call_list_of dc_list (by rfl) m_list (by decide +kernel) (da_cons (de_var 3) da_nil)))) (fun _ _ => wipe_one))) da_nil))))))
      (dss_cons (ds_if (dt_w (dw_or (dt_not (dt_val (de_isi (T := "list") (by rfl) m_isinstance (by rfl) m_list (by decide +kernel) (de_var 6)))) (dw_one (dt_cmp (op_neD hr.units) dop_ne (de_callB call_lenD2 dc_len (by rfl) m_len PySem.boot_len (da_cons (de_var 6) da_nil)) (de_var 5))))) (dss_one (ds_ret de_bl)) dss_nil)
      (dss_cons (ds_set (i := 8) nd rfl (Or.inl rfl) (de_ix ix_any dop_ix (de_var 6) (de_op op_sub dop_sub (de_var 5) de_int)))
      (dss_cons (ds_if (dt_not (dt_val (de_has h__law_settled hr (pass_def rfl rfl rfl rfl) (da_cons (de_var 1) (da_cons (de_var 3) (da_cons (de_var 8) da_nil)))))) (dss_one (ds_ret de_bl)) dss_nil)
      (dss_cons (ds_forR1 (passes_of rfl) rfl (by rfl) m_range (da_cons (de_var 5) da_nil) (dg_name (i := 9) nd rfl (Or.inl rfl)) (dss_cons (ds_if (dt_w (dw_or (dt_not (dt_val (de_isi (T := "list") (by rfl) m_isinstance (by rfl) m_list (by decide +kernel) (de_ix ix_any dop_ix (de_var 6) (de_var 9))))) (dw_one (dt_cmp (op_neD hr.units) dop_ne (de_callB call_lenD2 dc_len (by rfl) m_len PySem.boot_len (da_cons (de_ix ix_any dop_ix (de_var 6) (de_var 9)) da_nil)) (de_callB call_lenD2 dc_len (by rfl) m_len PySem.boot_len (da_cons (de_var 2) da_nil)))))) (dss_one (ds_ret de_bl)) dss_nil)
      (dss_one (ds_forR1 (passes_of rfl) rfl (by rfl) m_range (da_cons (de_callB call_lenD2 dc_len (by rfl) m_len PySem.boot_len (da_cons (de_var 2) da_nil)) da_nil) (dg_name (i := 10) nd rfl (Or.inl rfl)) (dss_one (ds_if (dt_w (dw_or (dt_not (dt_val (de_isi (T := "bool") (by rfl) m_isinstance (by rfl) m_bool (by decide +kernel) (de_ix ix_any dop_ix (de_ix ix_any dop_ix (de_var 6) (de_var 9)) (de_var 10))))) (dw_one (dt_w (dw_and (dt_cmp op_ge dop_cmp (de_var 9) (de_ix ix_any dop_ix (de_var 2) (de_var 10))) (dw_one (dt_cmp (op_neD hr.units) dop_ne (de_ix ix_any dop_ix (de_ix ix_any dop_ix (de_var 6) (de_var 9)) (de_var 10)) (de_ix ix_any dop_ix (de_var 8) (de_var 10))))))))) (dss_one (ds_ret de_bl)) dss_nil))))))
      (dss_one (ds_ret (de_has h__law_values hr (pass_def rfl rfl rfl rfl) (da_cons (DN.de (dn_has h_settled hr (pass_def rfl rfl rfl rfl) (da_cons (de_tup (da_cons (de_ix ix_any dop_ix (de_var 1) de_int) (da_cons (DN.de (dn_callTy call_list_of dc_list (by rfl) m_list (by decide +kernel) (da_cons (de_ix ix_any dop_ix (de_var 1) de_int) da_nil))) da_nil))) (da_cons (DN.de (dn_callTy call_list_of dc_list (by rfl) m_list (by decide +kernel) (da_cons (de_var 3) da_nil))) da_nil)))) (da_cons (de_var 8) da_nil))))))))))))))))) fun ds => ?_
  unfold g_law
  split
  · rename_i xs
    split
    · rename_i ns hx
      have hx := L2.ints_inv hx
      subst hx
      refine .inr ?_
      rw [chk_ok (by rfl), show startD N_law [.list (ns.map PyData.int)] = [some (.list (ns.map PyData.int)), none, none, none, none, none, none, none, none, none, none] from rfl]
      have gp := small_ev ns (n := 4) false (by decide)
      have hmn : 0 ≤ freeMn ns ∧ freeMn ns ≤ 60 := many_in _
      have hlen := smallGs_few ns 4
      have hok4 := small_ok ns (most := 4) false (by decide)
      have hfr := small_free ns (most := 4) false (by decide)
      have c0 : g_cell [.list (ns.map PyData.int), .int 0] = .ok (.int (cell ns 0)) := cell_at ns 0
      have c1 : g_cell [.list (ns.map PyData.int), .int 1] = .ok (.int (cell ns 1)) := cell_at ns 1
      have c2 : g_cell [.list (ns.map PyData.int), .int 2] = .ok (.int (cell ns 2)) := cell_at ns 2
      revert gp hmn hlen hok4 hfr c0 c1 c2
      generalize smallGs ns 4 false = gs
      generalize freeMn ns = mn
      generalize cell ns 0 = a0
      generalize cell ns 1 = a1
      generalize cell ns 2 = a2
      intro gp hmn hlen hok4 hfr c0 c1 c2
      have hok : PlanOk mn 60 gs := fun p g e => by
        have := hok4 p g e
        exact ⟨this.kind, this.src, by have := this.delay; omega⟩
      have hd1 : ∀ g ∈ gs, 1 ≤ g.2.2 ∧ g.2.2 ≤ 4 := fun g hg => by
        obtain ⟨p, hp, rfl⟩ := List.mem_iff_getElem.mp hg
        exact (hok4 p _ (List.getElem?_eq_getElem hp)).delay
      have hpe := planOk_err hmn (by omega) hok
      have htm := planOk_tame (by omega) hok
      have hrd := ok_rd htm hpe
      have hsr : ∀ g ∈ gs, ∀ s ∈ g.2.1, s < mn + gs.length := fun g hg s hs => (err_src ((err_gates hpe).2.2 g hg) s hs).2
      have ho : ordErr mn gs = none := (free_ord (by omega) hsr hfr).2
      have lev := lateby_ev hrd ho
      have lle := late_le (mn := mn) (gs := gs) (most := 4) (by decide) (fun g hg => (hd1 g hg).2)
      have lnn : 0 ≤ maxL (lateOf mn gs) := maxL_nn (timesOf_nn (fun g hg => by have := hd1 g hg; omega) _)
      have llen : (lateOf mn gs).length = (mn + gs.length).toNat := lateOf_len
      have lmx : ∀ l, l < (lateOf mn gs).length → (lateOf mn gs).getD l 0 ≤ maxL (lateOf mn gs) := fun l hl => by
        rw [List.getD_eq_getElem?_getD, List.getElem?_eq_getElem hl]
        exact le_maxL (List.getElem_mem hl)
      have pl : planD mn gs = .tuple [.int mn, .list (gatesD gs)] := rfl
      have gt : ∀ a n : Int, 0 ≤ n ∧ n ≤ 1000 → g_truths [.int a, .int n] = .ok (.list (boolsOf (truths a n.toNat))) := fun a n h => by
        show R.when (decide (0 ≤ n ∧ n ≤ 1000)) (R.ok (PyData.list ((truths a n.toNat).map PyData.bool))) = _
        rw [decide_eq_true h]; rfl
      have gt1 := gt (a2 / 3) mn (by omega)
      have gt2 := gt (a1 / 3) (((intsOf (lateOf mn gs)).length : Nat) : Int) (by rw [ints_len, llen]; omega)
      have il : ((truths (a2 / 3) mn.toNat).length : Int) = mn := by rw [truths_len]; omega
      have bl : ((truths (a1 / 3) ((((intsOf (lateOf mn gs)).length : Nat) : Int)).toNat).length : Int) = mn + gs.length := by rw [truths_len, ints_len, llen]; omega
      revert gt1 gt2 il bl
      generalize truths (a2 / 3) mn.toNat = ins
      generalize truths (a1 / 3) ((((intsOf (lateOf mn gs)).length : Nat) : Int)).toNat = bs
      intro gt1 gt2 il bl
      have qv := quiet_val (bs := bs) (ins := ins) (V := settledOf mn gs ins) (n := (maxL (lateOf mn gs) + 1 + a0 % 3).toNat) hpe ho (fun g hg => (hd1 g hg).1) (settled_ok hpe ho il)
      have so := settled_ok hpe ho il
      have sv : g_settled [planD mn gs, .list (boolsOf ins)] = .ok (boolsOf (settledOf mn gs ins)) := by
        rw [settled_ev htm (by omega), hpe, if_pos il, ho]; rfl
      have ls := lawsettled_ev htm hpe so
      have sl := so.1
      have m3 := Int.emod_nonneg a0 (show (3 : Int) ≠ 0 by decide)
      have m3' := Int.emod_lt_of_pos a0 (show (0 : Int) < 3 by decide)
      have Sln : (stepsOf gs bs (List.replicate (maxL (lateOf mn gs) + 1 + a0 % 3).toNat ins)).length = (maxL (lateOf mn gs) + 1 + a0 % 3).toNat := by rw [stepsOf_len, List.length_replicate]
      have Srow : ∀ t, t < (maxL (lateOf mn gs) + 1 + a0 % 3).toNat → ((stepsOf gs bs (List.replicate (maxL (lateOf mn gs) + 1 + a0 % 3).toNat ins)).getD t []).length = (lateOf mn gs).length := fun t ht => by
        rw [List.getD_eq_getElem?_getD, stepsOf_get gs bs (r := ins) (by rw [List.getElem?_replicate, if_pos ht])]
        show (nextRow gs bs _ ins).length = _
        rw [nextRow_len, llen]; omega
      have stv : g_stepped [planD mn gs, .list (boolsOf bs), .list (rowsBD (List.replicate (maxL (lateOf mn gs) + 1 + a0 % 3).toNat ins))] = .ok (rowsBD (stepsOf gs bs (List.replicate (maxL (lateOf mn gs) + 1 + a0 % 3).toNat ins))) := by
        rw [stepped_ev htm (by omega) (by rw [List.length_replicate]; omega) (fun r hr => by rw [(List.mem_replicate.mp hr).2]; omega), hpe]
        show (if _ then _ else _) = _
        rw [if_pos ⟨bl, List.all_eq_true.mpr fun r hr => by rw [(List.mem_replicate.mp hr).2]; exact decide_eq_true il⟩]
      have last : (stepsOf gs bs (List.replicate (maxL (lateOf mn gs) + 1 + a0 % 3).toNat ins)).getD ((maxL (lateOf mn gs) + 1 + a0 % 3).toNat - 1) [] = settledOf mn gs ins := by
        refine List.ext_getElem? fun l => ?_
        have hlr := Srow ((maxL (lateOf mn gs) + 1 + a0 % 3).toNat - 1) (by omega)
        rcases Nat.lt_or_ge l (mn + gs.length).toNat with q | q
        · have e := qv _ l ((maxL (lateOf mn gs) + 1 + a0 % 3).toNat - 1) q (by omega) (Nat.le_refl _) (by have := lmx l (by rw [llen]; exact q); omega)
          rw [List.getD_eq_getElem?_getD (a := false), List.getD_eq_getElem?_getD (a := false)] at e
          rw [List.getElem?_eq_getElem (by rw [hlr, llen]; exact q)] at e ⊢
          rw [List.getElem?_eq_getElem (by rw [sl]; exact q)] at e ⊢
          exact congrArg some e
        · rw [List.getElem?_eq_none (by rw [hlr, llen]; exact q), List.getElem?_eq_none (by rw [sl]; exact q)]
      revert gt2 lev qv lle lnn llen lmx Sln Srow stv last
      generalize lateOf mn gs = L
      intro lev lle lnn llen lmx gt2 qv Sln Srow stv last
      unfold m_law
      rw [cutR [some (.list (ns.map PyData.int)), some (planD mn gs), none, none, none, none, none, none, none, none, none] (by
        show ((g_smallplan [.list (ns.map PyData.int), .int 4, .bool false]).run _ fun d => _) = _
        rw [gp]; rfl) rfl]
      unfold m_law_1
      rw [cutR [some (.list (ns.map PyData.int)), some (planD mn gs), some (.list (intsOf L)), none, none, none, none, none, none, none, none] (by
        show (((g_lateby [planD mn gs]).map PyData.list).run _ fun d => _) = _
        rw [lev]; rfl) rfl]
      unfold m_law_2
      have d3 : ∀ a, divOk a 3 = true := fun _ => rfl
      rw [cutR [some (.list (ns.map PyData.int)), some (planD mn gs), some (.list (intsOf L)), some (.list (boolsOf ins)), none, none, none, none, none, none, none] (by
        show ((((g_cell [.list (ns.map PyData.int), .int 2]).bind fun u => gDiv u (.int 3)).bind fun u => R.ok [u, .int mn]).bind g_truths).run _ (fun d => _) = _
        rw [c2, R.bind_ok, g_divI, d3, R.when_true, R.bind_ok, R.bind_ok, gt1]; rfl) rfl]
      unfold m_law_3
      rw [cutR [some (.list (ns.map PyData.int)), some (planD mn gs), some (.list (intsOf L)), some (.list (boolsOf ins)), some (.list (boolsOf bs)), none, none, none, none, none, none] (by
        show ((((g_cell [.list (ns.map PyData.int), .int 1]).bind fun u => gDiv u (.int 3)).bind fun u => R.ok [u, .int (((intsOf L).length : Nat) : Int)]).bind g_truths).run _ (fun d => _) = _
        rw [c1, R.bind_ok, g_divI, d3, R.when_true, R.bind_ok, R.bind_ok, gt2]; rfl) rfl]
      unfold m_law_4
      have m3k : ∀ a, modOk a 3 = true := fun _ => rfl
      rw [cutR [some (.list (ns.map PyData.int)), some (planD mn gs), some (.list (intsOf L)), some (.list (boolsOf ins)), some (.list (boolsOf bs)), some (.int (maxL L + 1 + a0 % 3)), none, none, none, none, none] (by
        show ((((maxDK (.int 0) (.list (intsOf L))).bind fun u => gAdd u (.int 1)).bind fun u => (((g_cell [.list (ns.map PyData.int), .int 0]).bind fun v => gMod v (.int 3)).bind fun v => gAdd u v)).run _ fun d => _) = _
        rw [quiet_max, R.bind_ok, c0, R.bind_ok, g_modI, m3k, R.when_true]; rfl) rfl]
      revert qv Sln Srow stv last
      generalize hcn : maxL L + 1 + a0 % 3 = cn
      intro qv Sln Srow stv last
      have cn1 : 1 ≤ cn ∧ cn ≤ 1000 := by omega
      unfold m_law_5
      have big : (1000 : Nat) < sizeLine := by decide
      rw [cutR [some (.list (ns.map PyData.int)), some (planD mn gs), some (.list (intsOf L)), some (.list (boolsOf ins)), some (.list (boolsOf bs)), some (.int cn), some (.list (rowsBD (stepsOf gs bs (List.replicate cn.toNat ins)))), none, none, none, none] (by
        have er : (mCompR [7] 7 (mCons (mVar 5) mNil) mYes (mL (mCallN gList (mCons (mVar 3) mNil)))) [some (.list (ns.map PyData.int)), some (planD mn gs), some (.list (intsOf L)), some (.list (boolsOf ins)), some (.list (boolsOf bs)), some (.int cn), none, none, none, none, none] = .ok (rowsBD (List.replicate cn.toNat ins)) := by
          have ea : mCons (mVar 5) mNil [some (.list (ns.map PyData.int)), some (planD mn gs), some (.list (intsOf L)), some (.list (boolsOf ins)), some (.list (boolsOf bs)), some (.int cn), none, none, none, none, none] = .ok [.int cn] := rfl
          rw [q_compR, ea, R.bind_ok, q_compRI, decide_eq_true (by omega), R.when_true, comp_range (f := fun _ => .list (boolsOf ins)) fun i hi => rfl]
          congr 1
          unfold rowsBD
          rw [List.map_replicate]
          exact List.map_const' ..|>.trans (by rw [List.length_range])
        have e0 : (mTup (mCons (mBin gIx (mVar 1) (mC (.int 0))) (mCons (mL (mCallN gList (mCons (mBin gIx (mVar 1) (mC (.int 1))) mNil))) mNil))) [some (.list (ns.map PyData.int)), some (planD mn gs), some (.list (intsOf L)), some (.list (boolsOf ins)), some (.list (boolsOf bs)), some (.int cn), none, none, none, none, none] = .ok (planD mn gs) := rfl
        have e4 : mVar 4 [some (.list (ns.map PyData.int)), some (planD mn gs), some (.list (intsOf L)), some (.list (boolsOf ins)), some (.list (boolsOf bs)), some (.int cn), none, none, none, none, none] = .ok (.list (boolsOf bs)) := rfl
        rw [q_set, q_hideN, q_mL, q_callN, q_cons, e0, R.bind_ok, q_cons, e4, R.bind_ok, q_cons, q_mL, er, R.map_ok, R.bind_ok, q_nil, R.map_ok, R.map_ok, R.map_ok, R.bind_ok, stv]; rfl) rfl]
      unfold m_law_6
      have t6 : (mOr (mNot (mB (fun δ => ((mVar 6) δ).bind (gIs "list")))) (mB (mBin gNe (mCall gLen (mCons (mVar 6) mNil)) (mVar 5)))) [some (.list (ns.map PyData.int)), some (planD mn gs), some (.list (intsOf L)), some (.list (boolsOf ins)), some (.list (boolsOf bs)), some (.int cn), some (.list (rowsBD (stepsOf gs bs (List.replicate cn.toNat ins)))), none, none, none, none] = .ok false := by
        show (gNe (.int ((rowsBD (stepsOf gs bs (List.replicate cn.toNat ins))).length : Nat)) (.int cn)).bind boolD = _
        rw [neI, rowsBD_len, Sln, decide_eq_true (by omega)]; rfl
      rw [cutR [some (.list (ns.map PyData.int)), some (planD mn gs), some (.list (intsOf L)), some (.list (boolsOf ins)), some (.list (boolsOf bs)), some (.int cn), some (.list (rowsBD (stepsOf gs bs (List.replicate cn.toNat ins)))), none, none, none, none] (by rw [q_if, t6]; rfl) rfl]
      unfold m_law_7
      rw [cutR (qtS ns mn gs L ins bs cn (stepsOf gs bs (List.replicate cn.toNat ins)) (settledOf mn gs ins) none none) (by
        show ((atK (atI (rowsBD (stepsOf gs bs (List.replicate cn.toNat ins))) (cn - 1))).run _ fun d => _) = _
        rw [at_rowsB (by omega) (by omega), show (cn - 1).toNat = cn.toNat - 1 by omega, last]; rfl) rfl]
      unfold m_law_8
      have t8 : (mNot (mB (mCall g_lawsettled (mCons (mVar 1) (mCons (mVar 3) (mCons (mVar 8) mNil)))))) (qtS ns mn gs L ins bs cn (stepsOf gs bs (List.replicate cn.toNat ins)) (settledOf mn gs ins) none none) = .ok false := by
        show ((g_lawsettled [planD mn gs, .list (boolsOf ins), .list (boolsOf (settledOf mn gs ins))]).bind boolD).map (!·) = _
        rw [ls]; rfl
      rw [cutR (qtS ns mn gs L ins bs cn (stepsOf gs bs (List.replicate cn.toNat ins)) (settledOf mn gs ins) none none) (by rw [q_if, t8]; rfl) rfl]
      have e9 : m_law_9 = mSeq (mForR (mCons (mVar 5) mNil) (stName 9) qtB) m_law_10 := rfl
      rw [e9]
      obtain ⟨a', l', h⟩ := qt_outer (ns := ns) (mn := mn) (gs := gs) (ins := ins) (bs := bs) (n := cn) (L := L) (S := stepsOf gs bs (List.replicate cn.toNat ins)) (V := settledOf mn gs ins) (fun t ht => Srow t (by omega)) (by omega) (by rw [sl, llen]) (fun t l ht hl q => qv _ l t (by omega) (by omega) (Nat.le_refl _) q) cn.toNat 0 none none (by omega)
      rw [cutR (qtS ns mn gs L ins bs cn (stepsOf gs bs (List.replicate cn.toNat ins)) (settledOf mn gs ins) a' l') (by
        have ea : mCons (mVar 5) mNil (qtS ns mn gs L ins bs cn (stepsOf gs bs (List.replicate cn.toNat ins)) (settledOf mn gs ins) none none) = .ok [.int cn] := rfl
        rw [q_forR, ea, R.run_ok, q_forRK1, decide_eq_true (by omega), R.when_true]
        unfold rangeD
        rw [List.range_eq_range']
        exact h) rfl]
      unfold m_law_10
      have lv := lawvalues_ev (a := settledOf mn gs ins) (by omega)
      show fin ((((((g_settled [planD mn gs, .list (boolsOf ins)]).map PyData.list).bind fun u => R.ok [u, .list (boolsOf (settledOf mn gs ins))]).bind g_lawvalues)).run _ fun d => R.ok (Out.rt d)) = _
      rw [sv, R.map_ok, R.bind_ok, R.bind_ok, lv]; rfl
    · exact .inl rfl
  · exact .inl rfl
end
end K10
namespace K10
open PySem PySem.Spec PyProof.Rows L2 SL
theorem all_mk {l : PySem.W.OpenLaw} {w : World} {K : PySem.W.Frag} {h : Heap} {mg : Str → Option Value} {fa f0 f1 f2 f3 f4 f5 f6 f7 f8 f9 f10 f11 f12 f13 f14 f15 f16 f17 f18 f19 f20 f21 f22 f23 f24 f25 f26 f27 f28 f29 f30 f31 f32 f33 f34 C0 C1 C2 C3 C4 C5 C6 dN p0 p1 p2 p3 p4 p5 p6 p7 p8 dR : Addr} {od0 an0 od1 an1 od2 an2 od3 an3 od4 an4 od5 an5 od6 an6 od7 an7 od8 an8 od9 an9 od10 an10 od11 an11 od12 an12 od13 an13 od14 an14 od15 an15 od16 an16 od17 an17 od18 an18 od19 an19 od20 an20 od21 an21 od22 an22 od23 an23 od24 an24 od25 an25 od26 an26 od27 an27 od28 an28 od29 an29 od30 an30 od31 an31 od32 an32 od33 an33 od34 an34 td0 td1 td2 td3 td4 td5 td6 td7 td8 : Option Addr} {sl0 sl1 sl2 sl3 sl4 sl5 sl6 sl7 sl8 sl9 sl10 sl11 sl12 sl13 sl14 sl15 sl16 sl17 sl18 sl19 sl20 sl21 sl22 sl23 sl24 sl25 sl26 sl27 sl28 sl29 sl30 sl31 sl32 sl33 sl34 ts0 ts1 ts2 ts3 ts4 ts5 ts6 ts7 ts8 : Array (Option Value)} {oc0 kV0 dc0 pm0 cd0 ct0 oc1 kV1 dc1 pm1 cd1 ct1 oc2 kV2 dc2 pm2 cd2 ct2 oc3 kV3 dc3 pm3 cd3 ct3 oc4 kV4 dc4 pm4 cd4 ct4 oc5 kV5 dc5 pm5 cd5 ct5 oc6 kV6 dc6 pm6 cd6 ct6 oc7 kV7 dc7 pm7 cd7 ct7 oc8 kV8 dc8 pm8 cd8 ct8 oc9 kV9 dc9 pm9 cd9 ct9 oc10 kV10 dc10 pm10 cd10 ct10 oc11 kV11 dc11 pm11 cd11 ct11 oc12 kV12 dc12 pm12 cd12 ct12 oc13 kV13 dc13 pm13 cd13 ct13 oc14 kV14 dc14 pm14 cd14 ct14 oc15 kV15 dc15 pm15 cd15 ct15 oc16 kV16 dc16 pm16 cd16 ct16 oc17 kV17 dc17 pm17 cd17 ct17 oc18 kV18 dc18 pm18 cd18 ct18 oc19 kV19 dc19 pm19 cd19 ct19 oc20 kV20 dc20 pm20 cd20 ct20 oc21 kV21 dc21 pm21 cd21 ct21 oc22 kV22 dc22 pm22 cd22 ct22 oc23 kV23 dc23 pm23 cd23 ct23 oc24 kV24 dc24 pm24 cd24 ct24 oc25 kV25 dc25 pm25 cd25 ct25 oc26 kV26 dc26 pm26 cd26 ct26 oc27 kV27 dc27 pm27 cd27 ct27 oc28 kV28 dc28 pm28 cd28 ct28 oc29 kV29 dc29 pm29 cd29 ct29 oc30 kV30 dc30 pm30 cd30 ct30 oc31 kV31 dc31 pm31 cd31 ct31 oc32 kV32 dc32 pm32 cd32 ct32 oc33 kV33 dc33 pm33 cd33 ct33 oc34 kV34 dc34 pm34 cd34 ct34 : Value} {bm0 bm1 bm2 bm3 bm4 bm5 bm6 : List Value} {t_MOST_DELAY t_MOST_INPUTS t_MOST_GATES ta0 ta1 ta2 ta3 ta4 ta5 ta6 ta7 ta8 tb0 tb1 tb2 tb3 tb4 tb5 tb6 tb7 tb8 : Tok} {nN tn0 tn1 tn2 tn3 tn4 tn5 tn6 tn7 tn8 nR : Nat} {eN eR : Array DictEntry}
    (X : K.In h) (G : h.Ns mainGlobals mg) (hfa : mg "law" = some (.ref fa))
    (a0 : PySem.W.nsIn K mainGlobals "_law_cell_at" = some (some (.ref f0)))
    (l0 : K.lookup f0 = some ⟨oc0, od0, .func (PySem.W.fnOf "_law_cell_at" "_law_cell_at" (defArgs K10.s__law_cell_at) (defBody K10.s__law_cell_at) (defScope K10.s__law_cell_at) .none kV0 dc0 pm0 an0 cd0 ct0), sl0⟩)
    (c0 : PySem.W.codeIn K cd0 "_law_cell_at" = true)
    (k0 : PySem.W.keepIn K (.ref f0) = true)
    (a1 : PySem.W.nsIn K mainGlobals "_law_mixed" = some (some (.ref f1)))
    (l1 : K.lookup f1 = some ⟨oc1, od1, .func (PySem.W.fnOf "_law_mixed" "_law_mixed" (defArgs K10.s__law_mixed) (defBody K10.s__law_mixed) (defScope K10.s__law_mixed) .none kV1 dc1 pm1 an1 cd1 ct1), sl1⟩)
    (c1 : PySem.W.codeIn K cd1 "_law_mixed" = true)
    (k1 : PySem.W.keepIn K (.ref f1) = true)
    (a2 : PySem.W.nsIn K mainGlobals "_law_many" = some (some (.ref f2)))
    (l2 : K.lookup f2 = some ⟨oc2, od2, .func (PySem.W.fnOf "_law_many" "_law_many" (defArgs K10.s__law_many) (defBody K10.s__law_many) (defScope K10.s__law_many) .none kV2 dc2 pm2 an2 cd2 ct2), sl2⟩)
    (c2 : PySem.W.codeIn K cd2 "_law_many" = true)
    (k2 : PySem.W.keepIn K (.ref f2) = true)
    (a3 : PySem.W.nsIn K mainGlobals "_law_place" = some (some (.ref f3)))
    (l3 : K.lookup f3 = some ⟨oc3, od3, .func (PySem.W.fnOf "_law_place" "_law_place" (defArgs K10.s__law_place) (defBody K10.s__law_place) (defScope K10.s__law_place) .none kV3 dc3 pm3 an3 cd3 ct3), sl3⟩)
    (c3 : PySem.W.codeIn K cd3 "_law_place" = true)
    (k3 : PySem.W.keepIn K (.ref f3) = true)
    (a4 : PySem.W.nsIn K mainGlobals "_law_gate_by" = some (some (.ref f4)))
    (l4 : K.lookup f4 = some ⟨oc4, od4, .func (PySem.W.fnOf "_law_gate_by" "_law_gate_by" (defArgs K10.s__law_gate_by) (defBody K10.s__law_gate_by) (defScope K10.s__law_gate_by) .none kV4 dc4 pm4 an4 cd4 ct4), sl4⟩)
    (c4 : PySem.W.codeIn K cd4 "_law_gate_by" = true)
    (k4 : PySem.W.keepIn K (.ref f4) = true)
    (a5 : PySem.W.nsIn K mainGlobals "_law_turned" = some (some (.ref f5)))
    (l5 : K.lookup f5 = some ⟨oc5, od5, .func (PySem.W.fnOf "_law_turned" "_law_turned" (defArgs K10.s__law_turned) (defBody K10.s__law_turned) (defScope K10.s__law_turned) .none kV5 dc5 pm5 an5 cd5 ct5), sl5⟩)
    (c5 : PySem.W.codeIn K cd5 "_law_turned" = true)
    (k5 : PySem.W.keepIn K (.ref f5) = true)
    (a6 : PySem.W.nsIn K mainGlobals "_law_truths" = some (some (.ref f6)))
    (l6 : K.lookup f6 = some ⟨oc6, od6, .func (PySem.W.fnOf "_law_truths" "_law_truths" (defArgs K10.s__law_truths) (defBody K10.s__law_truths) (defScope K10.s__law_truths) .none kV6 dc6 pm6 an6 cd6 ct6), sl6⟩)
    (c6 : PySem.W.codeIn K cd6 "_law_truths" = true)
    (k6 : PySem.W.keepIn K (.ref f6) = true)
    (a7 : PySem.W.nsIn K mainGlobals "_law_answered" = some (some (.ref f7)))
    (l7 : K.lookup f7 = some ⟨oc7, od7, .func (PySem.W.fnOf "_law_answered" "_law_answered" (defArgs K10.s__law_answered) (defBody K10.s__law_answered) (defScope K10.s__law_answered) .none kV7 dc7 pm7 an7 cd7 ct7), sl7⟩)
    (c7 : PySem.W.codeIn K cd7 "_law_answered" = true)
    (k7 : PySem.W.keepIn K (.ref f7) = true)
    (a8 : PySem.W.nsIn K mainGlobals "wants" = some (some (.ref f8)))
    (l8 : K.lookup f8 = some ⟨oc8, od8, .func (PySem.W.fnOf "wants" "wants" (defArgs K10.s_wants) (defBody K10.s_wants) (defScope K10.s_wants) .none kV8 dc8 pm8 an8 cd8 ct8), sl8⟩)
    (c8 : PySem.W.codeIn K cd8 "wants" = true)
    (k8 : PySem.W.keepIn K (.ref f8) = true)
    (a9 : PySem.W.nsIn K mainGlobals "check_number" = some (some (.ref f9)))
    (l9 : K.lookup f9 = some ⟨oc9, od9, .func (PySem.W.fnOf "check_number" "check_number" (defArgs K10.s_check_number) (defBody K10.s_check_number) (defScope K10.s_check_number) .none kV9 dc9 pm9 an9 cd9 ct9), sl9⟩)
    (c9 : PySem.W.codeIn K cd9 "check_number" = true)
    (k9 : PySem.W.keepIn K (.ref f9) = true)
    (a10 : PySem.W.nsIn K mainGlobals "check_line" = some (some (.ref f10)))
    (l10 : K.lookup f10 = some ⟨oc10, od10, .func (PySem.W.fnOf "check_line" "check_line" (defArgs K10.s_check_line) (defBody K10.s_check_line) (defScope K10.s_check_line) .none kV10 dc10 pm10 an10 cd10 ct10), sl10⟩)
    (c10 : PySem.W.codeIn K cd10 "check_line" = true)
    (k10 : PySem.W.keepIn K (.ref f10) = true)
    (a11 : PySem.W.nsIn K mainGlobals "check_gate" = some (some (.ref f11)))
    (l11 : K.lookup f11 = some ⟨oc11, od11, .func (PySem.W.fnOf "check_gate" "check_gate" (defArgs K10.s_check_gate) (defBody K10.s_check_gate) (defScope K10.s_check_gate) .none kV11 dc11 pm11 an11 cd11 ct11), sl11⟩)
    (c11 : PySem.W.codeIn K cd11 "check_gate" = true)
    (k11 : PySem.W.keepIn K (.ref f11) = true)
    (a12 : PySem.W.nsIn K mainGlobals "checked" = some (some (.ref f12)))
    (l12 : K.lookup f12 = some ⟨oc12, od12, .func (PySem.W.fnOf "checked" "checked" (defArgs K10.s_checked) (defBody K10.s_checked) (defScope K10.s_checked) .none kV12 dc12 pm12 an12 cd12 ct12), sl12⟩)
    (c12 : PySem.W.codeIn K cd12 "checked" = true)
    (k12 : PySem.W.keepIn K (.ref f12) = true)
    (a13 : PySem.W.nsIn K mainGlobals "_readers" = some (some (.ref f13)))
    (l13 : K.lookup f13 = some ⟨oc13, od13, .func (PySem.W.fnOf "_readers" "_readers" (defArgs K10.s__readers) (defBody K10.s__readers) (defScope K10.s__readers) .none kV13 dc13 pm13 an13 cd13 ct13), sl13⟩)
    (c13 : PySem.W.codeIn K cd13 "_readers" = true)
    (k13 : PySem.W.keepIn K (.ref f13) = true)
    (a14 : PySem.W.nsIn K mainGlobals "_in_order" = some (some (.ref f14)))
    (l14 : K.lookup f14 = some ⟨oc14, od14, .func (PySem.W.fnOf "_in_order" "_in_order" (defArgs K10.s__in_order) (defBody K10.s__in_order) (defScope K10.s__in_order) .none kV14 dc14 pm14 an14 cd14 ct14), sl14⟩)
    (c14 : PySem.W.codeIn K cd14 "_in_order" = true)
    (k14 : PySem.W.keepIn K (.ref f14) = true)
    (a15 : PySem.W.nsIn K mainGlobals "order" = some (some (.ref f15)))
    (l15 : K.lookup f15 = some ⟨oc15, od15, .func (PySem.W.fnOf "order" "order" (defArgs K10.s_order) (defBody K10.s_order) (defScope K10.s_order) .none kV15 dc15 pm15 an15 cd15 ct15), sl15⟩)
    (c15 : PySem.W.codeIn K cd15 "order" = true)
    (k15 : PySem.W.keepIn K (.ref f15) = true)
    (a16 : PySem.W.nsIn K mainGlobals "_yes" = some (some (.ref f16)))
    (l16 : K.lookup f16 = some ⟨oc16, od16, .func (PySem.W.fnOf "_yes" "_yes" (defArgs K10.s__yes) (defBody K10.s__yes) (defScope K10.s__yes) .none kV16 dc16 pm16 an16 cd16 ct16), sl16⟩)
    (c16 : PySem.W.codeIn K cd16 "_yes" = true)
    (k16 : PySem.W.keepIn K (.ref f16) = true)
    (a17 : PySem.W.nsIn K mainGlobals "_no" = some (some (.ref f17)))
    (l17 : K.lookup f17 = some ⟨oc17, od17, .func (PySem.W.fnOf "_no" "_no" (defArgs K10.s__no) (defBody K10.s__no) (defScope K10.s__no) .none kV17 dc17 pm17 an17 cd17 ct17), sl17⟩)
    (c17 : PySem.W.codeIn K cd17 "_no" = true)
    (k17 : PySem.W.keepIn K (.ref f17) = true)
    (a18 : PySem.W.nsIn K mainGlobals "_keep" = some (some (.ref f18)))
    (l18 : K.lookup f18 = some ⟨oc18, od18, .func (PySem.W.fnOf "_keep" "_keep" (defArgs K10.s__keep) (defBody K10.s__keep) (defScope K10.s__keep) .none kV18 dc18 pm18 an18 cd18 ct18), sl18⟩)
    (c18 : PySem.W.codeIn K cd18 "_keep" = true)
    (k18 : PySem.W.keepIn K (.ref f18) = true)
    (a19 : PySem.W.nsIn K mainGlobals "_not" = some (some (.ref f19)))
    (l19 : K.lookup f19 = some ⟨oc19, od19, .func (PySem.W.fnOf "_not" "_not" (defArgs K10.s__not) (defBody K10.s__not) (defScope K10.s__not) .none kV19 dc19 pm19 an19 cd19 ct19), sl19⟩)
    (c19 : PySem.W.codeIn K cd19 "_not" = true)
    (k19 : PySem.W.keepIn K (.ref f19) = true)
    (a20 : PySem.W.nsIn K mainGlobals "_both" = some (some (.ref f20)))
    (l20 : K.lookup f20 = some ⟨oc20, od20, .func (PySem.W.fnOf "_both" "_both" (defArgs K10.s__both) (defBody K10.s__both) (defScope K10.s__both) .none kV20 dc20 pm20 an20 cd20 ct20), sl20⟩)
    (c20 : PySem.W.codeIn K cd20 "_both" = true)
    (k20 : PySem.W.keepIn K (.ref f20) = true)
    (a21 : PySem.W.nsIn K mainGlobals "_either" = some (some (.ref f21)))
    (l21 : K.lookup f21 = some ⟨oc21, od21, .func (PySem.W.fnOf "_either" "_either" (defArgs K10.s__either) (defBody K10.s__either) (defScope K10.s__either) .none kV21 dc21 pm21 an21 cd21 ct21), sl21⟩)
    (c21 : PySem.W.codeIn K cd21 "_either" = true)
    (k21 : PySem.W.keepIn K (.ref f21) = true)
    (a22 : PySem.W.nsIn K mainGlobals "_unlike" = some (some (.ref f22)))
    (l22 : K.lookup f22 = some ⟨oc22, od22, .func (PySem.W.fnOf "_unlike" "_unlike" (defArgs K10.s__unlike) (defBody K10.s__unlike) (defScope K10.s__unlike) .none kV22 dc22 pm22 an22 cd22 ct22), sl22⟩)
    (c22 : PySem.W.codeIn K cd22 "_unlike" = true)
    (k22 : PySem.W.keepIn K (.ref f22) = true)
    (a23 : PySem.W.nsIn K mainGlobals "_pick" = some (some (.ref f23)))
    (l23 : K.lookup f23 = some ⟨oc23, od23, .func (PySem.W.fnOf "_pick" "_pick" (defArgs K10.s__pick) (defBody K10.s__pick) (defScope K10.s__pick) .none kV23 dc23 pm23 an23 cd23 ct23), sl23⟩)
    (c23 : PySem.W.codeIn K cd23 "_pick" = true)
    (k23 : PySem.W.keepIn K (.ref f23) = true)
    (a24 : PySem.W.nsIn K mainGlobals "_most" = some (some (.ref f24)))
    (l24 : K.lookup f24 = some ⟨oc24, od24, .func (PySem.W.fnOf "_most" "_most" (defArgs K10.s__most) (defBody K10.s__most) (defScope K10.s__most) .none kV24 dc24 pm24 an24 cd24 ct24), sl24⟩)
    (c24 : PySem.W.codeIn K cd24 "_most" = true)
    (k24 : PySem.W.keepIn K (.ref f24) = true)
    (a25 : PySem.W.nsIn K mainGlobals "answer" = some (some (.ref f25)))
    (l25 : K.lookup f25 = some ⟨oc25, od25, .func (PySem.W.fnOf "answer" "answer" (defArgs K10.s_answer) (defBody K10.s_answer) (defScope K10.s_answer) .none kV25 dc25 pm25 an25 cd25 ct25), sl25⟩)
    (c25 : PySem.W.codeIn K cd25 "answer" = true)
    (k25 : PySem.W.keepIn K (.ref f25) = true)
    (a26 : PySem.W.nsIn K mainGlobals "_check_values" = some (some (.ref f26)))
    (l26 : K.lookup f26 = some ⟨oc26, od26, .func (PySem.W.fnOf "_check_values" "_check_values" (defArgs K10.s__check_values) (defBody K10.s__check_values) (defScope K10.s__check_values) .none kV26 dc26 pm26 an26 cd26 ct26), sl26⟩)
    (c26 : PySem.W.codeIn K cd26 "_check_values" = true)
    (k26 : PySem.W.keepIn K (.ref f26) = true)
    (a27 : PySem.W.nsIn K mainGlobals "answered" = some (some (.ref f27)))
    (l27 : K.lookup f27 = some ⟨oc27, od27, .func (PySem.W.fnOf "answered" "answered" (defArgs K10.s_answered) (defBody K10.s_answered) (defScope K10.s_answered) .none kV27 dc27 pm27 an27 cd27 ct27), sl27⟩)
    (c27 : PySem.W.codeIn K cd27 "answered" = true)
    (k27 : PySem.W.keepIn K (.ref f27) = true)
    (a28 : PySem.W.nsIn K mainGlobals "settled" = some (some (.ref f28)))
    (l28 : K.lookup f28 = some ⟨oc28, od28, .func (PySem.W.fnOf "settled" "settled" (defArgs K10.s_settled) (defBody K10.s_settled) (defScope K10.s_settled) .none kV28 dc28 pm28 an28 cd28 ct28), sl28⟩)
    (c28 : PySem.W.codeIn K cd28 "settled" = true)
    (k28 : PySem.W.keepIn K (.ref f28) = true)
    (a29 : PySem.W.nsIn K mainGlobals "stepped" = some (some (.ref f29)))
    (l29 : K.lookup f29 = some ⟨oc29, od29, .func (PySem.W.fnOf "stepped" "stepped" (defArgs K10.s_stepped) (defBody K10.s_stepped) (defScope K10.s_stepped) .none kV29 dc29 pm29 an29 cd29 ct29), sl29⟩)
    (c29 : PySem.W.codeIn K cd29 "stepped" = true)
    (k29 : PySem.W.keepIn K (.ref f29) = true)
    (a30 : PySem.W.nsIn K mainGlobals "_law_settled" = some (some (.ref f30)))
    (l30 : K.lookup f30 = some ⟨oc30, od30, .func (PySem.W.fnOf "_law_settled" "_law_settled" (defArgs K10.s__law_settled) (defBody K10.s__law_settled) (defScope K10.s__law_settled) .none kV30 dc30 pm30 an30 cd30 ct30), sl30⟩)
    (c30 : PySem.W.codeIn K cd30 "_law_settled" = true)
    (k30 : PySem.W.keepIn K (.ref f30) = true)
    (a31 : PySem.W.nsIn K mainGlobals "_law_small_plan" = some (some (.ref f31)))
    (l31 : K.lookup f31 = some ⟨oc31, od31, .func (PySem.W.fnOf "_law_small_plan" "_law_small_plan" (defArgs K10.s__law_small_plan) (defBody K10.s__law_small_plan) (defScope K10.s__law_small_plan) .none kV31 dc31 pm31 an31 cd31 ct31), sl31⟩)
    (c31 : PySem.W.codeIn K cd31 "_law_small_plan" = true)
    (k31 : PySem.W.keepIn K (.ref f31) = true)
    (a32 : PySem.W.nsIn K mainGlobals "_law_late_by" = some (some (.ref f32)))
    (l32 : K.lookup f32 = some ⟨oc32, od32, .func (PySem.W.fnOf "_law_late_by" "_law_late_by" (defArgs K10.s__law_late_by) (defBody K10.s__law_late_by) (defScope K10.s__law_late_by) .none kV32 dc32 pm32 an32 cd32 ct32), sl32⟩)
    (c32 : PySem.W.codeIn K cd32 "_law_late_by" = true)
    (k32 : PySem.W.keepIn K (.ref f32) = true)
    (a33 : PySem.W.nsIn K mainGlobals "_law_values" = some (some (.ref f33)))
    (l33 : K.lookup f33 = some ⟨oc33, od33, .func (PySem.W.fnOf "_law_values" "_law_values" (defArgs K10.s__law_values) (defBody K10.s__law_values) (defScope K10.s__law_values) .none kV33 dc33 pm33 an33 cd33 ct33), sl33⟩)
    (c33 : PySem.W.codeIn K cd33 "_law_values" = true)
    (k33 : PySem.W.keepIn K (.ref f33) = true)
    (a34 : PySem.W.nsIn K mainGlobals "law" = some (some (.ref f34)))
    (l34 : K.lookup f34 = some ⟨oc34, od34, .func (PySem.W.fnOf "law" "law" (defArgs K10.s_law) (defBody K10.s_law) (defScope K10.s_law) .none kV34 dc34 pm34 an34 cd34 ct34), sl34⟩)
    (c34 : PySem.W.codeIn K cd34 "law" = true)
    (k34 : PySem.W.keepIn K (.ref f34) = true)
    (xa0 : PySem.W.nsIn K mainGlobals "NoKind" = some (some (.ref C0)))
    (xb0 : PySem.W.subIn K (.ref C0) (.type "BaseException") = some true)
    (xt0 : PySem.W.typeIn K (.ref C0) = some (.type "type"))
    (xf0 : ExcBaseFacts "ValueError" "ValueError.__new__" "ValueError.__init__" bm0)
    (xe0 : PySem.W.excIn K C0 bm0 "ValueError.__new__" = true)
    (xk0 : PySem.W.keepIn K (.ref C0) = true)
    (xa1 : PySem.W.nsIn K mainGlobals "NoSources" = some (some (.ref C1)))
    (xb1 : PySem.W.subIn K (.ref C1) (.type "BaseException") = some true)
    (xt1 : PySem.W.typeIn K (.ref C1) = some (.type "type"))
    (xf1 : ExcBaseFacts "ValueError" "ValueError.__new__" "ValueError.__init__" bm1)
    (xe1 : PySem.W.excIn K C1 bm1 "ValueError.__new__" = true)
    (xk1 : PySem.W.keepIn K (.ref C1) = true)
    (xa2 : PySem.W.nsIn K mainGlobals "NoLine" = some (some (.ref C2)))
    (xb2 : PySem.W.subIn K (.ref C2) (.type "BaseException") = some true)
    (xt2 : PySem.W.typeIn K (.ref C2) = some (.type "type"))
    (xf2 : ExcBaseFacts "ValueError" "ValueError.__new__" "ValueError.__init__" bm2)
    (xe2 : PySem.W.excIn K C2 bm2 "ValueError.__new__" = true)
    (xk2 : PySem.W.keepIn K (.ref C2) = true)
    (xa3 : PySem.W.nsIn K mainGlobals "NoDelay" = some (some (.ref C3)))
    (xb3 : PySem.W.subIn K (.ref C3) (.type "BaseException") = some true)
    (xt3 : PySem.W.typeIn K (.ref C3) = some (.type "type"))
    (xf3 : ExcBaseFacts "ValueError" "ValueError.__new__" "ValueError.__init__" bm3)
    (xe3 : PySem.W.excIn K C3 bm3 "ValueError.__new__" = true)
    (xk3 : PySem.W.keepIn K (.ref C3) = true)
    (xa4 : PySem.W.nsIn K mainGlobals "NoSize" = some (some (.ref C4)))
    (xb4 : PySem.W.subIn K (.ref C4) (.type "BaseException") = some true)
    (xt4 : PySem.W.typeIn K (.ref C4) = some (.type "type"))
    (xf4 : ExcBaseFacts "ValueError" "ValueError.__new__" "ValueError.__init__" bm4)
    (xe4 : PySem.W.excIn K C4 bm4 "ValueError.__new__" = true)
    (xk4 : PySem.W.keepIn K (.ref C4) = true)
    (xa5 : PySem.W.nsIn K mainGlobals "NoValues" = some (some (.ref C5)))
    (xb5 : PySem.W.subIn K (.ref C5) (.type "BaseException") = some true)
    (xt5 : PySem.W.typeIn K (.ref C5) = some (.type "type"))
    (xf5 : ExcBaseFacts "ValueError" "ValueError.__new__" "ValueError.__init__" bm5)
    (xe5 : PySem.W.excIn K C5 bm5 "ValueError.__new__" = true)
    (xk5 : PySem.W.keepIn K (.ref C5) = true)
    (xa6 : PySem.W.nsIn K mainGlobals "Ringed" = some (some (.ref C6)))
    (xb6 : PySem.W.subIn K (.ref C6) (.type "BaseException") = some true)
    (xt6 : PySem.W.typeIn K (.ref C6) = some (.type "type"))
    (xf6 : ExcBaseFacts "ValueError" "ValueError.__new__" "ValueError.__init__" bm6)
    (xe6 : PySem.W.excIn K C6 bm6 "ValueError.__new__" = true)
    (xk6 : PySem.W.keepIn K (.ref C6) = true)
    (z_len : PySem.W.nsIn K mainGlobals "len" = some none)
    (z_range : PySem.W.nsIn K mainGlobals "range" = some none)
    (z_tuple : PySem.W.nsIn K mainGlobals "tuple" = some none)
    (z_enumerate : PySem.W.nsIn K mainGlobals "enumerate" = some none)
    (z_all : PySem.W.nsIn K mainGlobals "all" = some none)
    (z_any : PySem.W.nsIn K mainGlobals "any" = some none)
    (z_sum : PySem.W.nsIn K mainGlobals "sum" = some none)
    (z_list : PySem.W.nsIn K mainGlobals "list" = some none)
    (z_set : PySem.W.nsIn K mainGlobals "set" = some none)
    (z_isinstance : PySem.W.nsIn K mainGlobals "isinstance" = some none)
    (z_bool : PySem.W.nsIn K mainGlobals "bool" = some none)
    (z_max : PySem.W.nsIn K mainGlobals "max" = some none)
    (w_heappop : PySem.W.nsIn K mainGlobals "heappop" = some (some (.builtin "_heapq.heappop")))
    (w_heappush : PySem.W.nsIn K mainGlobals "heappush" = some (some (.builtin "_heapq.heappush")))
    (q_MOST_DELAY : PySem.W.nsIn K mainGlobals "MOST_DELAY" = some (some (.int 60 t_MOST_DELAY)))
    (q_MOST_INPUTS : PySem.W.nsIn K mainGlobals "MOST_INPUTS" = some (some (.int 60 t_MOST_INPUTS)))
    (q_MOST_GATES : PySem.W.nsIn K mainGlobals "MOST_GATES" = some (some (.int 200 t_MOST_GATES)))
    (aN : PySem.W.nsIn K mainGlobals "NUMBERS" = some (some (.ref dN)))
    (lN : K.lookup dN = some ⟨.type "dict", none, .dict eN nN, #[]⟩)
    (sN : (dN == sysModules) = false)
    (tN : PySem.W.KeysLit w.params eN.toList)
    (vN : Nine eN.toList (fun i => .ref (([p0, p1, p2, p3, p4, p5, p6, p7, p8] : List Addr).getD i 0)))
    (q0 : K.lookup p0 = some ⟨.type "tuple", td0, .seq #[.int (SL.lo 0) ta0, .int (SL.hi 0) tb0] tn0, ts0⟩)
    (q1 : K.lookup p1 = some ⟨.type "tuple", td1, .seq #[.int (SL.lo 1) ta1, .int (SL.hi 1) tb1] tn1, ts1⟩)
    (q2 : K.lookup p2 = some ⟨.type "tuple", td2, .seq #[.int (SL.lo 2) ta2, .int (SL.hi 2) tb2] tn2, ts2⟩)
    (q3 : K.lookup p3 = some ⟨.type "tuple", td3, .seq #[.int (SL.lo 3) ta3, .int (SL.hi 3) tb3] tn3, ts3⟩)
    (q4 : K.lookup p4 = some ⟨.type "tuple", td4, .seq #[.int (SL.lo 4) ta4, .int (SL.hi 4) tb4] tn4, ts4⟩)
    (q5 : K.lookup p5 = some ⟨.type "tuple", td5, .seq #[.int (SL.lo 5) ta5, .int (SL.hi 5) tb5] tn5, ts5⟩)
    (q6 : K.lookup p6 = some ⟨.type "tuple", td6, .seq #[.int (SL.lo 6) ta6, .int (SL.hi 6) tb6] tn6, ts6⟩)
    (q7 : K.lookup p7 = some ⟨.type "tuple", td7, .seq #[.int (SL.lo 7) ta7, .int (SL.hi 7) tb7] tn7, ts7⟩)
    (q8 : K.lookup p8 = some ⟨.type "tuple", td8, .seq #[.int (SL.lo 8) ta8, .int (SL.hi 8) tb8] tn8, ts8⟩)
    (aR : PySem.W.nsIn K mainGlobals "RULES" = some (some (.ref dR)))
    (lR : K.lookup dR = some ⟨.type "dict", none, .dict eR nR, #[]⟩)
    (sR : (dR == sysModules) = false)
    (tR : PySem.W.KeysLit w.params eR.toList)
    (vR : Nine eR.toList (fun i => .ref (([f16, f17, f18, f19, f20, f21, f22, f23, f24] : List Addr).getD i 0))) :
    ∃ fd : FuncData, (∀ (s : Shared) (v : Value), BindsTo s fd ⟨[v], []⟩ [("_law_script", v)]) ∧ ∀ base : Heap, K.In base → base.Ns mainGlobals mg → FnOk l.prog w K mg base (L2.CX l.prog w) 8 fa fd ["_law_script"] (spLaw K) := by
  have e := hfa.symm.trans (PySem.W.mg_of X G a34)
  cases e
  have F0 := fun_mk (st := K10.s__law_cell_at) l0 c0 k0
  have b0 := F0.binds (ps := ["_law_script", "_law_k"]) fun _ _ _ _ _ _ us hl => match us, hl with | [_, _], _ => rfl
  have g0 := PySem.W.mg_of X G a0
  have F1 := fun_mk (st := K10.s__law_mixed) l1 c1 k1
  have b1 := F1.binds (ps := ["_law_cell", "_law_k", "_law_many_here"]) fun _ _ _ _ _ _ us hl => match us, hl with | [_, _, _], _ => rfl
  have g1 := PySem.W.mg_of X G a1
  have F2 := fun_mk (st := K10.s__law_many) l2 c2 k2
  have b2 := F2.binds (ps := ["_law_cell"]) fun _ _ _ _ _ _ us hl => match us, hl with | [_], _ => rfl
  have g2 := PySem.W.mg_of X G a2
  have F3 := fun_mk (st := K10.s__law_place) l3 c3 k3
  have b3 := F3.binds (ps := ["_law_k", "_law_count", "_law_turn"]) fun _ _ _ _ _ _ us hl => match us, hl with | [_, _, _], _ => rfl
  have g3 := PySem.W.mg_of X G a3
  have F4 := fun_mk (st := K10.s__law_gate_by) l4 c4 k4
  have b4 := F4.binds (ps := ["_law_cell", "_law_below", "_law_most"]) fun _ _ _ _ _ _ us hl => match us, hl with | [_, _, _], _ => rfl
  have g4 := PySem.W.mg_of X G a4
  have F5 := fun_mk (st := K10.s__law_turned) l5 c5 k5
  have b5 := F5.binds (ps := ["_law_many_here", "_law_gates", "_law_turn"]) fun _ _ _ _ _ _ us hl => match us, hl with | [_, _, _], _ => rfl
  have g5 := PySem.W.mg_of X G a5
  have F6 := fun_mk (st := K10.s__law_truths) l6 c6 k6
  have b6 := F6.binds (ps := ["_law_cell", "_law_many_here"]) fun _ _ _ _ _ _ us hl => match us, hl with | [_, _], _ => rfl
  have g6 := PySem.W.mg_of X G a6
  have F7 := fun_mk (st := K10.s__law_answered) l7 c7 k7
  have b7 := F7.binds (ps := ["_law_kind", "_law_given"]) fun _ _ _ _ _ _ us hl => match us, hl with | [_, _], _ => rfl
  have g7 := PySem.W.mg_of X G a7
  have F8 := fun_mk (st := K10.s_wants) l8 c8 k8
  have b8 := F8.binds (ps := ["kind"]) fun _ _ _ _ _ _ us hl => match us, hl with | [_], _ => rfl
  have g8 := PySem.W.mg_of X G a8
  have F9 := fun_mk (st := K10.s_check_number) l9 c9 k9
  have b9 := F9.binds (ps := ["kind", "number"]) fun _ _ _ _ _ _ us hl => match us, hl with | [_, _], _ => rfl
  have g9 := PySem.W.mg_of X G a9
  have F10 := fun_mk (st := K10.s_check_line) l10 c10 k10
  have b10 := F10.binds (ps := ["line", "lines"]) fun _ _ _ _ _ _ us hl => match us, hl with | [_, _], _ => rfl
  have g10 := PySem.W.mg_of X G a10
  have F11 := fun_mk (st := K10.s_check_gate) l11 c11 k11
  have b11 := F11.binds (ps := ["gate", "lines"]) fun _ _ _ _ _ _ us hl => match us, hl with | [_, _], _ => rfl
  have g11 := PySem.W.mg_of X G a11
  have F12 := fun_mk (st := K10.s_checked) l12 c12 k12
  have b12 := F12.binds (ps := ["plan"]) fun _ _ _ _ _ _ us hl => match us, hl with | [_], _ => rfl
  have g12 := PySem.W.mg_of X G a12
  have F13 := fun_mk (st := K10.s__readers) l13 c13 k13
  have b13 := F13.binds (ps := ["plan"]) fun _ _ _ _ _ _ us hl => match us, hl with | [_], _ => rfl
  have g13 := PySem.W.mg_of X G a13
  have F14 := fun_mk (st := K10.s__in_order) l14 c14 k14
  have b14 := F14.binds (ps := ["plan"]) fun _ _ _ _ _ _ us hl => match us, hl with | [_], _ => rfl
  have g14 := PySem.W.mg_of X G a14
  have F15 := fun_mk (st := K10.s_order) l15 c15 k15
  have b15 := F15.binds (ps := ["plan"]) fun _ _ _ _ _ _ us hl => match us, hl with | [_], _ => rfl
  have g15 := PySem.W.mg_of X G a15
  have F16 := fun_mk (st := K10.s__yes) l16 c16 k16
  have b16 := F16.binds (ps := ["given"]) fun _ _ _ _ _ _ us hl => match us, hl with | [_], _ => rfl
  have g16 := PySem.W.mg_of X G a16
  have F17 := fun_mk (st := K10.s__no) l17 c17 k17
  have b17 := F17.binds (ps := ["given"]) fun _ _ _ _ _ _ us hl => match us, hl with | [_], _ => rfl
  have g17 := PySem.W.mg_of X G a17
  have F18 := fun_mk (st := K10.s__keep) l18 c18 k18
  have b18 := F18.binds (ps := ["given"]) fun _ _ _ _ _ _ us hl => match us, hl with | [_], _ => rfl
  have g18 := PySem.W.mg_of X G a18
  have F19 := fun_mk (st := K10.s__not) l19 c19 k19
  have b19 := F19.binds (ps := ["given"]) fun _ _ _ _ _ _ us hl => match us, hl with | [_], _ => rfl
  have g19 := PySem.W.mg_of X G a19
  have F20 := fun_mk (st := K10.s__both) l20 c20 k20
  have b20 := F20.binds (ps := ["given"]) fun _ _ _ _ _ _ us hl => match us, hl with | [_], _ => rfl
  have g20 := PySem.W.mg_of X G a20
  have F21 := fun_mk (st := K10.s__either) l21 c21 k21
  have b21 := F21.binds (ps := ["given"]) fun _ _ _ _ _ _ us hl => match us, hl with | [_], _ => rfl
  have g21 := PySem.W.mg_of X G a21
  have F22 := fun_mk (st := K10.s__unlike) l22 c22 k22
  have b22 := F22.binds (ps := ["given"]) fun _ _ _ _ _ _ us hl => match us, hl with | [_], _ => rfl
  have g22 := PySem.W.mg_of X G a22
  have F23 := fun_mk (st := K10.s__pick) l23 c23 k23
  have b23 := F23.binds (ps := ["given"]) fun _ _ _ _ _ _ us hl => match us, hl with | [_], _ => rfl
  have g23 := PySem.W.mg_of X G a23
  have F24 := fun_mk (st := K10.s__most) l24 c24 k24
  have b24 := F24.binds (ps := ["given"]) fun _ _ _ _ _ _ us hl => match us, hl with | [_], _ => rfl
  have g24 := PySem.W.mg_of X G a24
  have F25 := fun_mk (st := K10.s_answer) l25 c25 k25
  have b25 := F25.binds (ps := ["kind", "given"]) fun _ _ _ _ _ _ us hl => match us, hl with | [_, _], _ => rfl
  have g25 := PySem.W.mg_of X G a25
  have F26 := fun_mk (st := K10.s__check_values) l26 c26 k26
  have b26 := F26.binds (ps := ["values", "number"]) fun _ _ _ _ _ _ us hl => match us, hl with | [_, _], _ => rfl
  have g26 := PySem.W.mg_of X G a26
  have F27 := fun_mk (st := K10.s_answered) l27 c27 k27
  have b27 := F27.binds (ps := ["plan", "values", "touched"]) fun _ _ _ _ _ _ us hl => match us, hl with | [_, _, _], _ => rfl
  have g27 := PySem.W.mg_of X G a27
  have F28 := fun_mk (st := K10.s_settled) l28 c28 k28
  have b28 := F28.binds (ps := ["plan", "ins"]) fun _ _ _ _ _ _ us hl => match us, hl with | [_, _], _ => rfl
  have g28 := PySem.W.mg_of X G a28
  have F29 := fun_mk (st := K10.s_stepped) l29 c29 k29
  have b29 := F29.binds (ps := ["plan", "begin", "rows"]) fun _ _ _ _ _ _ us hl => match us, hl with | [_, _, _], _ => rfl
  have g29 := PySem.W.mg_of X G a29
  have F30 := fun_mk (st := K10.s__law_settled) l30 c30 k30
  have b30 := F30.binds (ps := ["_law_plan", "_law_ins", "_law_values_here"]) fun _ _ _ _ _ _ us hl => match us, hl with | [_, _, _], _ => rfl
  have g30 := PySem.W.mg_of X G a30
  have F31 := fun_mk (st := K10.s__law_small_plan) l31 c31 k31
  have b31 := F31.binds (ps := ["_law_script", "_law_most", "_law_large"]) fun _ _ _ _ _ _ us hl => match us, hl with | [_, _, _], _ => rfl
  have g31 := PySem.W.mg_of X G a31
  have F32 := fun_mk (st := K10.s__law_late_by) l32 c32 k32
  have b32 := F32.binds (ps := ["_law_plan"]) fun _ _ _ _ _ _ us hl => match us, hl with | [_], _ => rfl
  have g32 := PySem.W.mg_of X G a32
  have F33 := fun_mk (st := K10.s__law_values) l33 c33 k33
  have b33 := F33.binds (ps := ["_law_found", "_law_due"]) fun _ _ _ _ _ _ us hl => match us, hl with | [_, _], _ => rfl
  have g33 := PySem.W.mg_of X G a33
  have F34 := fun_mk (st := K10.s_law) l34 c34 k34
  have b34 := F34.binds (ps := ["_law_script"]) fun _ _ _ _ _ _ us hl => match us, hl with | [_], _ => rfl
  have g34 := PySem.W.mg_of X G a34
  have m_len := PySem.W.mg_none_of X G z_len
  have m_range := PySem.W.mg_none_of X G z_range
  have m_tuple := PySem.W.mg_none_of X G z_tuple
  have m_enumerate := PySem.W.mg_none_of X G z_enumerate
  have m_all := PySem.W.mg_none_of X G z_all
  have m_any := PySem.W.mg_none_of X G z_any
  have m_sum := PySem.W.mg_none_of X G z_sum
  have m_list := PySem.W.mg_none_of X G z_list
  have m_set := PySem.W.mg_none_of X G z_set
  have m_isinstance := PySem.W.mg_none_of X G z_isinstance
  have m_bool := PySem.W.mg_none_of X G z_bool
  have m_max := PySem.W.mg_none_of X G z_max
  have b_heappop := PySem.W.mg_of X G w_heappop
  have b_heappush := PySem.W.mg_of X G w_heappush
  have c_MOST_DELAY := PySem.W.mg_of X G q_MOST_DELAY
  have c_MOST_INPUTS := PySem.W.mg_of X G q_MOST_INPUTS
  have c_MOST_GATES := PySem.W.mg_of X G q_MOST_GATES
  refine ⟨PySem.W.fnOf "law" "law" (defArgs K10.s_law) (defBody K10.s_law) (defScope K10.s_law) .none kV34 dc34 pm34 an34 cd34 ct34, fun s v => .of_eq rfl, fun base _ _ => ?_⟩
  obtain ⟨cv, cv0, cv1, cv2, cv3, cv4, cv5, cv6⟩ : ∃ cv : Nat → Value, cv 0 = .ref C0 ∧ cv 1 = .ref C1 ∧ cv 2 = .ref C2 ∧ cv 3 = .ref C3 ∧ cv 4 = .ref C4 ∧ cv 5 = .ref C5 ∧ cv 6 = .ref C6 := ⟨fun n => match n with | 0 => .ref C0 | 1 => .ref C1 | 2 => .ref C2 | 3 => .ref C3 | 4 => .ref C4 | 5 => .ref C5 | 6 => .ref C6 | _ => .none, rfl, rfl, rfl, rfl, rfl, rfl, rfl⟩
  have x_NoKind : ExcAt K mg cv "NoKind" 0 := ⟨C0, bm0, PySem.W.mg_of X G xa0, xe0, xf0, xk0, xb0, xt0, cv0⟩
  have x_NoSources : ExcAt K mg cv "NoSources" 1 := ⟨C1, bm1, PySem.W.mg_of X G xa1, xe1, xf1, xk1, xb1, xt1, cv1⟩
  have x_NoLine : ExcAt K mg cv "NoLine" 2 := ⟨C2, bm2, PySem.W.mg_of X G xa2, xe2, xf2, xk2, xb2, xt2, cv2⟩
  have x_NoDelay : ExcAt K mg cv "NoDelay" 3 := ⟨C3, bm3, PySem.W.mg_of X G xa3, xe3, xf3, xk3, xb3, xt3, cv3⟩
  have x_NoSize : ExcAt K mg cv "NoSize" 4 := ⟨C4, bm4, PySem.W.mg_of X G xa4, xe4, xf4, xk4, xb4, xt4, cv4⟩
  have x_Ringed : ExcAt K mg cv "Ringed" 6 := ⟨C6, bm6, PySem.W.mg_of X G xa6, xe6, xf6, xk6, xb6, xt6, cv6⟩
  have x_NoValues : ExcAt K mg cv "NoValues" 5 := ⟨C5, bm5, PySem.W.mg_of X G xa5, xe5, xf5, xk5, xb5, xt5, cv5⟩
  have t_NUMBERS : TabD K w mg "NUMBERS" tbN := tab_numbers (PySem.W.mg_of X G aN) lN sN tN vN fun i hi => match i, hi with | 0, _ => ⟨_, _, _, _, q0, rfl, rfl⟩ | 1, _ => ⟨_, _, _, _, q1, rfl, rfl⟩ | 2, _ => ⟨_, _, _, _, q2, rfl, rfl⟩ | 3, _ => ⟨_, _, _, _, q3, rfl, rfl⟩ | 4, _ => ⟨_, _, _, _, q4, rfl, rfl⟩ | 5, _ => ⟨_, _, _, _, q5, rfl, rfl⟩ | 6, _ => ⟨_, _, _, _, q6, rfl, rfl⟩ | 7, _ => ⟨_, _, _, _, q7, rfl, rfl⟩ | 8, _ => ⟨_, _, _, _, q8, rfl, rfl⟩ | n + 9, h => absurd h (by omega)
  have h__law_cell_at := K10.h__law_cell_at (P := l.prog) (w := w) (base := base) (cv := cv) F0 g0 b0 m_len
  have h__law_mixed := K10.h__law_mixed (P := l.prog) (w := w) (base := base) (cv := cv) F1 g1 b1
  have h__law_many := K10.h__law_many (P := l.prog) (w := w) (base := base) (cv := cv) F2 g2 b2
  have h__law_place := K10.h__law_place (P := l.prog) (w := w) (base := base) (cv := cv) F3 g3 b3
  have h__law_gate_by := K10.h__law_gate_by (P := l.prog) (w := w) (base := base) (cv := cv) F4 g4 b4 h__law_mixed m_range m_tuple
  have h__law_turned := K10.h__law_turned (P := l.prog) (w := w) (base := base) (cv := cv) F5 g5 b5 h__law_place m_len m_range m_tuple
  have h__law_truths := K10.h__law_truths (P := l.prog) (w := w) (base := base) (cv := cv) F6 g6 b6 h__law_mixed m_range
  have h__law_answered := K10.h__law_answered (P := l.prog) (w := w) (base := base) (cv := cv) F7 g7 b7 m_len
  have h_wants := K10.h_wants (P := l.prog) (w := w) (base := base) (cv := cv) F8 g8 b8 t_NUMBERS x_NoKind
  have h_check_number := K10.h_check_number (P := l.prog) (w := w) (base := base) (cv := cv) F9 g9 b9 h_wants x_NoSources
  have h_check_line := K10.h_check_line (P := l.prog) (w := w) (base := base) (cv := cv) F10 g10 b10 x_NoLine
  have h_check_gate := K10.h_check_gate (P := l.prog) (w := w) (base := base) (cv := cv) F11 g11 b11 h_check_number h_check_line x_NoDelay c_MOST_DELAY m_len
  have h_checked := K10.h_checked (P := l.prog) (w := w) (base := base) (cv := cv) F12 g12 b12 h_check_gate x_NoSize c_MOST_INPUTS c_MOST_GATES m_len
  have h__readers := K10.h__readers (P := l.prog) (w := w) (base := base) (cv := cv) F13 g13 b13 m_range m_enumerate m_len
  have h__in_order := K10.h__in_order (P := l.prog) (w := w) (base := base) (cv := cv) h__readers F14 g14 b14 m_len m_enumerate b_heappop b_heappush
  have h_order := K10.h_order (P := l.prog) (w := w) (base := base) (cv := cv) h_checked h__in_order F15 g15 b15 m_len x_Ringed
  have h__yes := K10.h__yes (P := l.prog) (w := w) (base := base) (cv := cv) F16 g16 b16
  have h__no := K10.h__no (P := l.prog) (w := w) (base := base) (cv := cv) F17 g17 b17
  have h__keep := K10.h__keep (P := l.prog) (w := w) (base := base) (cv := cv) F18 g18 b18
  have h__not := K10.h__not (P := l.prog) (w := w) (base := base) (cv := cv) F19 g19 b19
  have h__both := K10.h__both (P := l.prog) (w := w) (base := base) (cv := cv) F20 g20 b20 m_all
  have h__either := K10.h__either (P := l.prog) (w := w) (base := base) (cv := cv) F21 g21 b21 m_any
  have h__unlike := K10.h__unlike (P := l.prog) (w := w) (base := base) (cv := cv) F22 g22 b22 m_sum
  have h__pick := K10.h__pick (P := l.prog) (w := w) (base := base) (cv := cv) F23 g23 b23
  have h__most := K10.h__most (P := l.prog) (w := w) (base := base) (cv := cv) F24 g24 b24 m_sum
  have t_RULES : TabF l.prog w K mg base cv "RULES" 1 tbR := tab_rules (PySem.W.mg_of X G aR) lR sR tR vR fun i hi => match i, hi with | 0, _ => ⟨_, h__yes, g16⟩ | 1, _ => ⟨_, h__no, g17⟩ | 2, _ => ⟨_, h__keep, g18⟩ | 3, _ => ⟨_, h__not, g19⟩ | 4, _ => ⟨_, h__both, g20⟩ | 5, _ => ⟨_, h__either, g21⟩ | 6, _ => ⟨_, h__unlike, g22⟩ | 7, _ => ⟨_, h__pick, g23⟩ | 8, _ => ⟨_, h__most, g24⟩ | n + 9, h => absurd h (by omega)
  have h_answer := K10.h_answer (P := l.prog) (w := w) (base := base) (cv := cv) F25 g25 b25 h_check_number t_RULES m_len
  have h__check_values := K10.h__check_values (P := l.prog) (w := w) (base := base) (cv := cv) F26 g26 b26 x_NoValues m_len
  have h_answered := K10.h_answered (P := l.prog) (w := w) (base := base) (cv := cv) h_order h_answer F27 g27 b27 m_list m_set
  have h_settled := K10.h_settled (P := l.prog) (w := w) (base := base) (cv := cv) h_checked h__check_values h_answered F28 g28 b28 m_len m_list m_range
  have h_stepped := K10.h_stepped (P := l.prog) (w := w) (base := base) (cv := cv) h_checked h__check_values h_answer F29 g29 b29 m_list m_enumerate
  have h__law_settled := K10.h__law_settled (P := l.prog) (w := w) (base := base) (cv := cv) F30 g30 b30 h__law_answered m_len m_range m_isinstance m_list m_bool
  have h__law_small_plan := K10.h__law_small_plan (P := l.prog) (w := w) (base := base) (cv := cv) F31 g31 b31 h__law_many h__law_cell_at h__law_gate_by h__law_turned m_len m_range
  have h__law_late_by := K10.h__law_late_by (P := l.prog) (w := w) (base := base) (cv := cv) F32 g32 b32 m_len m_range m_max
  have h__law_values := K10.h__law_values (P := l.prog) (w := w) (base := base) (cv := cv) F33 g33 b33 m_len m_range m_isinstance m_list m_bool
  have h_law := K10.h_law (P := l.prog) (w := w) (base := base) (cv := cv) F34 g34 b34 h__law_small_plan h__law_late_by h__law_truths h__law_cell_at h_stepped h__law_settled h__law_values h_settled m_len m_list m_max m_range m_isinstance m_bool
  exact law_ok h_law fun ns _ => by
    unfold g_law
    dsimp only
    rw [ints_of]
end K10
open PySem PySem.W PyProof.Rows
set_option maxHeartbeats 0 in
theorem PySem.Challenge.cw_signalgraph_k10_whole_quiet_holds : PySem.Challenge.rw_signalgraph_k10_whole_quiet.Holds := by
  w_on; o_law; k_head; (case hw => w_witness2)
  k_fill
  refine L2.walk_of (l := PySem.Challenge.rw_signalgraph_k10_whole_quiet) (n := 63) (k := 8) (x := "_law_script") (CX := fun w => L2.CX PySem.Challenge.rw_signalgraph_k10_whole_quiet.prog w) (sp := fun w => SL.spLaw _) rfl (by decide) rfl ⟨rfl, by decide, by decide⟩ (fun w h Y => PySem.W.kIn_of Y) ?F (fun _ _ a ns hl _ hS => ⟨a, ns, rfl, hS, hl, fun _ => rfl⟩) (fun _ _ _ _ _ h => ?H)
  case H =>
    obtain ⟨_, _, _, _, _, _, _, _, _, _, _, _, z⟩ := h
    exact z.elim
  case F =>
    intro w mg fa h KX G hmg
    refine' K10.all_mk KX G hmg ?a0 ?l0 ?c0 ?k0 ?a1 ?l1 ?c1 ?k1 ?a2 ?l2 ?c2 ?k2 ?a3 ?l3 ?c3 ?k3 ?a4 ?l4 ?c4 ?k4 ?a5 ?l5 ?c5 ?k5 ?a6 ?l6 ?c6 ?k6 ?a7 ?l7 ?c7 ?k7 ?a8 ?l8 ?c8 ?k8 ?a9 ?l9 ?c9 ?k9 ?a10 ?l10 ?c10 ?k10 ?a11 ?l11 ?c11 ?k11 ?a12 ?l12 ?c12 ?k12 ?a13 ?l13 ?c13 ?k13 ?a14 ?l14 ?c14 ?k14 ?a15 ?l15 ?c15 ?k15 ?a16 ?l16 ?c16 ?k16 ?a17 ?l17 ?c17 ?k17 ?a18 ?l18 ?c18 ?k18 ?a19 ?l19 ?c19 ?k19 ?a20 ?l20 ?c20 ?k20 ?a21 ?l21 ?c21 ?k21 ?a22 ?l22 ?c22 ?k22 ?a23 ?l23 ?c23 ?k23 ?a24 ?l24 ?c24 ?k24 ?a25 ?l25 ?c25 ?k25 ?a26 ?l26 ?c26 ?k26 ?a27 ?l27 ?c27 ?k27 ?a28 ?l28 ?c28 ?k28 ?a29 ?l29 ?c29 ?k29 ?a30 ?l30 ?c30 ?k30 ?a31 ?l31 ?c31 ?k31 ?a32 ?l32 ?c32 ?k32 ?a33 ?l33 ?c33 ?k33 ?a34 ?l34 ?c34 ?k34 ?xa0 ?xb0 ?xt0 ?xf0 ?xe0 ?xk0 ?xa1 ?xb1 ?xt1 ?xf1 ?xe1 ?xk1 ?xa2 ?xb2 ?xt2 ?xf2 ?xe2 ?xk2 ?xa3 ?xb3 ?xt3 ?xf3 ?xe3 ?xk3 ?xa4 ?xb4 ?xt4 ?xf4 ?xe4 ?xk4 ?xa5 ?xb5 ?xt5 ?xf5 ?xe5 ?xk5 ?xa6 ?xb6 ?xt6 ?xf6 ?xe6 ?xk6 ?z_len ?z_range ?z_tuple ?z_enumerate ?z_all ?z_any ?z_sum ?z_list ?z_set ?z_isinstance ?z_bool ?z_max ?w_heappop ?w_heappush ?q_MOST_DELAY ?q_MOST_INPUTS ?q_MOST_GATES ?aN ?lN ?sN ?tN ?vN ?q0 ?q1 ?q2 ?q3 ?q4 ?q5 ?q6 ?q7 ?q8 ?aR ?lR ?sR ?tR ?vR
    (case a0 => k_is)
    (case l0 => k_is)
    (case c0 => k_is)
    (case k0 => k_is)
    (case a1 => k_is)
    (case l1 => k_is)
    (case c1 => k_is)
    (case k1 => k_is)
    (case a2 => k_is)
    (case l2 => k_is)
    (case c2 => k_is)
    (case k2 => k_is)
    (case a3 => k_is)
    (case l3 => k_is)
    (case c3 => k_is)
    (case k3 => k_is)
    (case a4 => k_is)
    (case l4 => k_is)
    (case c4 => k_is)
    (case k4 => k_is)
    (case a5 => k_is)
    (case l5 => k_is)
    (case c5 => k_is)
    (case k5 => k_is)
    (case a6 => k_is)
    (case l6 => k_is)
    (case c6 => k_is)
    (case k6 => k_is)
    (case a7 => k_is)
    (case l7 => k_is)
    (case c7 => k_is)
    (case k7 => k_is)
    (case a8 => k_is)
    (case l8 => k_is)
    (case c8 => k_is)
    (case k8 => k_is)
    (case a9 => k_is)
    (case l9 => k_is)
    (case c9 => k_is)
    (case k9 => k_is)
    (case a10 => k_is)
    (case l10 => k_is)
    (case c10 => k_is)
    (case k10 => k_is)
    (case a11 => k_is)
    (case l11 => k_is)
    (case c11 => k_is)
    (case k11 => k_is)
    (case a12 => k_is)
    (case l12 => k_is)
    (case c12 => k_is)
    (case k12 => k_is)
    (case a13 => k_is)
    (case l13 => k_is)
    (case c13 => k_is)
    (case k13 => k_is)
    (case a14 => k_is)
    (case l14 => k_is)
    (case c14 => k_is)
    (case k14 => k_is)
    (case a15 => k_is)
    (case l15 => k_is)
    (case c15 => k_is)
    (case k15 => k_is)
    (case a16 => k_is)
    (case l16 => k_is)
    (case c16 => k_is)
    (case k16 => k_is)
    (case a17 => k_is)
    (case l17 => k_is)
    (case c17 => k_is)
    (case k17 => k_is)
    (case a18 => k_is)
    (case l18 => k_is)
    (case c18 => k_is)
    (case k18 => k_is)
    (case a19 => k_is)
    (case l19 => k_is)
    (case c19 => k_is)
    (case k19 => k_is)
    (case a20 => k_is)
    (case l20 => k_is)
    (case c20 => k_is)
    (case k20 => k_is)
    (case a21 => k_is)
    (case l21 => k_is)
    (case c21 => k_is)
    (case k21 => k_is)
    (case a22 => k_is)
    (case l22 => k_is)
    (case c22 => k_is)
    (case k22 => k_is)
    (case a23 => k_is)
    (case l23 => k_is)
    (case c23 => k_is)
    (case k23 => k_is)
    (case a24 => k_is)
    (case l24 => k_is)
    (case c24 => k_is)
    (case k24 => k_is)
    (case a25 => k_is)
    (case l25 => k_is)
    (case c25 => k_is)
    (case k25 => k_is)
    (case a26 => k_is)
    (case l26 => k_is)
    (case c26 => k_is)
    (case k26 => k_is)
    (case a27 => k_is)
    (case l27 => k_is)
    (case c27 => k_is)
    (case k27 => k_is)
    (case a28 => k_is)
    (case l28 => k_is)
    (case c28 => k_is)
    (case k28 => k_is)
    (case a29 => k_is)
    (case l29 => k_is)
    (case c29 => k_is)
    (case k29 => k_is)
    (case a30 => k_is)
    (case l30 => k_is)
    (case c30 => k_is)
    (case k30 => k_is)
    (case a31 => k_is)
    (case l31 => k_is)
    (case c31 => k_is)
    (case k31 => k_is)
    (case a32 => k_is)
    (case l32 => k_is)
    (case c32 => k_is)
    (case k32 => k_is)
    (case a33 => k_is)
    (case l33 => k_is)
    (case c33 => k_is)
    (case k33 => k_is)
    (case a34 => k_is)
    (case l34 => k_is)
    (case c34 => k_is)
    (case k34 => k_is)
    (case xa0 => k_is)
    (case xb0 => first | rfl | k_is)
    (case xt0 => first | rfl | k_is)
    (case xf0 => exact PySem.F.excBase_ValueError)
    (case xe0 => k_exc)
    (case xk0 => k_is)
    (case xa1 => k_is)
    (case xb1 => first | rfl | k_is)
    (case xt1 => first | rfl | k_is)
    (case xf1 => exact PySem.F.excBase_ValueError)
    (case xe1 => k_exc)
    (case xk1 => k_is)
    (case xa2 => k_is)
    (case xb2 => first | rfl | k_is)
    (case xt2 => first | rfl | k_is)
    (case xf2 => exact PySem.F.excBase_ValueError)
    (case xe2 => k_exc)
    (case xk2 => k_is)
    (case xa3 => k_is)
    (case xb3 => first | rfl | k_is)
    (case xt3 => first | rfl | k_is)
    (case xf3 => exact PySem.F.excBase_ValueError)
    (case xe3 => k_exc)
    (case xk3 => k_is)
    (case xa4 => k_is)
    (case xb4 => first | rfl | k_is)
    (case xt4 => first | rfl | k_is)
    (case xf4 => exact PySem.F.excBase_ValueError)
    (case xe4 => k_exc)
    (case xk4 => k_is)
    (case xa5 => k_is)
    (case xb5 => first | rfl | k_is)
    (case xt5 => first | rfl | k_is)
    (case xf5 => exact PySem.F.excBase_ValueError)
    (case xe5 => k_exc)
    (case xk5 => k_is)
    (case xa6 => k_is)
    (case xb6 => first | rfl | k_is)
    (case xt6 => first | rfl | k_is)
    (case xf6 => exact PySem.F.excBase_ValueError)
    (case xe6 => k_exc)
    (case xk6 => k_is)
    (case z_len => k_is)
    (case z_range => k_is)
    (case z_tuple => k_is)
    (case z_enumerate => k_is)
    (case z_all => k_is)
    (case z_any => k_is)
    (case z_sum => k_is)
    (case z_list => k_is)
    (case z_set => k_is)
    (case z_isinstance => k_is)
    (case z_bool => k_is)
    (case z_max => k_is)
    (case w_heappop => k_is)
    (case w_heappush => k_is)
    (case q_MOST_DELAY => k_is)
    (case q_MOST_INPUTS => k_is)
    (case q_MOST_GATES => k_is)
    (case aN => k_is)
    (case lN => k_is)
    (case sN => decide)
    (case tN => exact ⟨⟨_, _, rfl, rfl⟩, ⟨_, _, rfl, rfl⟩, ⟨_, _, rfl, rfl⟩, ⟨_, _, rfl, rfl⟩, ⟨_, _, rfl, rfl⟩, ⟨_, _, rfl, rfl⟩, ⟨_, _, rfl, rfl⟩, ⟨_, _, rfl, rfl⟩, ⟨_, _, rfl, rfl⟩, trivial⟩)
    (case vN => exact ⟨rfl, fun i hi => match i, hi with | 0, _ => ⟨_, _, rfl⟩ | 1, _ => ⟨_, _, rfl⟩ | 2, _ => ⟨_, _, rfl⟩ | 3, _ => ⟨_, _, rfl⟩ | 4, _ => ⟨_, _, rfl⟩ | 5, _ => ⟨_, _, rfl⟩ | 6, _ => ⟨_, _, rfl⟩ | 7, _ => ⟨_, _, rfl⟩ | 8, _ => ⟨_, _, rfl⟩ | n + 9, h => absurd h (by omega)⟩)
    (case q0 => k_is)
    (case q1 => k_is)
    (case q2 => k_is)
    (case q3 => k_is)
    (case q4 => k_is)
    (case q5 => k_is)
    (case q6 => k_is)
    (case q7 => k_is)
    (case q8 => k_is)
    (case aR => k_is)
    (case lR => k_is)
    (case sR => decide)
    (case tR => exact ⟨⟨_, _, rfl, rfl⟩, ⟨_, _, rfl, rfl⟩, ⟨_, _, rfl, rfl⟩, ⟨_, _, rfl, rfl⟩, ⟨_, _, rfl, rfl⟩, ⟨_, _, rfl, rfl⟩, ⟨_, _, rfl, rfl⟩, ⟨_, _, rfl, rfl⟩, ⟨_, _, rfl, rfl⟩, trivial⟩)
    (case vR => exact ⟨rfl, fun i hi => match i, hi with | 0, _ => ⟨_, _, rfl⟩ | 1, _ => ⟨_, _, rfl⟩ | 2, _ => ⟨_, _, rfl⟩ | 3, _ => ⟨_, _, rfl⟩ | 4, _ => ⟨_, _, rfl⟩ | 5, _ => ⟨_, _, rfl⟩ | 6, _ => ⟨_, _, rfl⟩ | 7, _ => ⟨_, _, rfl⟩ | 8, _ => ⟨_, _, rfl⟩ | n + 9, h => absurd h (by omega)⟩)
